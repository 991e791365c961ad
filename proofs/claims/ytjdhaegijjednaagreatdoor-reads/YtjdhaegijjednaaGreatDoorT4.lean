import Derived.Test.YtjdhaegijjednaaGreatDoorT3
import Derived.Defers
import Derived.Recover
set_option linter.all false
set_option maxRecDepth 100000
set_option maxHeartbeats 4000000
namespace Go.Proofs.YtjdhaegijjednaaGreatDoor
open Go.RowKit
open Go.MapKept
open Go.Proofs.Tryz
section
variable {A:Ad}{b:Nat}{bs:List (Nat×Obj)}{d:ao}{vs:List Value}{c:World}{e:St}
def Il{text:ByteArray}{a:kh}(k:∀g d,ay e.g g=some (some d)->∀i∈eI d,∃l,ay e.g i.1=some (some l)):∀f,hd (pG A text e bs vs a f):=by
 intro f;induction f using Nat.strongRecOn with
 |ind f o=>
  refine⟨Ik,?_,?_,?_⟩
  .intro j c b i h;simp only[pG,Yc]at h;subst h;exact b.aH.K
  .intro j c q b m;exact ki.t b m
  .intro j p g n b;exact Ij k o g n b
def tR(e f:TypeId)(b p:Nat)(c:World)
  (k : ((Tryz.prog.info? f).bind fun i => i.methods.find? (fun a => a.name == "Title")).map (fun a => (a.path, a.func)) = some (#[⟨e, 0, true⟩], some (327, false)))
  (l:((prog.underlying e).bind λd=>match d with|.struct h=>h[0]?|_=>none).map (λg=>(g.type,g.offset))=some (160,0)) :
  (method (p + 1) f (.pointer (some ⟨b, 0, none⟩)) "Title").run Tryz.prog c = ((loadVar 160 ⟨b, 0, none⟩).run Tryz.prog c).andThen (fun A z => .ok (327, A) z) := by
 obtain⟨i,a,q,r,s,u⟩:=rK k;obtain⟨h,B,v,w,x,y⟩:=sS l;obtain⟨D,C,j,_⟩:=sS (P:=prog) (st:=160) (idx:=0) (t:=9) (o:=0) (by kernel_rfl);obtain⟨E,m,F⟩:=qk (P:=prog) (t:=160) (n:=2) (by kernel_rfl);exact Km q r s u v w x y j m (by omega)
def Ra (d : ao) (b e : Nat) (c : World) : (method (e + 1) (cD d) (.pointer (some ⟨b, 0, none⟩)) "Title").run Tryz.prog c = ((loadVar 160 ⟨b, 0, none⟩).run Tryz.prog c).andThen (fun C B => .ok (327, C) B) := by
 cases d with
 |const a g v=>exact tR 343 223 b e c (by kernel_rfl) (by kernel_rfl)
 |typedef d=>
  obtain ⟨K, R, m, n, q, r⟩ := rK (P := Tryz.prog) (t := 225) (name := "Title") (p := #[⟨244, 0, true⟩, ⟨242, 0, false⟩]) (f := some (327, false)) (by kernel_rfl)
  obtain⟨G,E,s,u,x,z⟩:=sS (P:=prog) (st:=244) (idx:=0) (t:=242) (o:=0) (by kernel_rfl);obtain⟨H,F,t,w,y,A⟩:=sS (P:=prog) (st:=242) (idx:=0) (t:=160) (o:=0) (by kernel_rfl);obtain⟨J,I,i,_⟩:=sS (P:=prog) (st:=160) (idx:=0) (t:=9) (o:=0) (by kernel_rfl);obtain⟨L,j,M⟩:=qk (P:=prog) (t:=160) (n:=2) (by kernel_rfl);obtain⟨O,k,N⟩:=qk (P:=prog) (t:=242) (n:=3) (by kernel_rfl);exact Ko m n q r s u x z k (by omega) t w y A i j (by omega)
 |enum a g l=>exact tR 253 227 b e c (by kernel_rfl) (by kernel_rfl)
 |struct a g l=>exact tR 353 229 b e c (by kernel_rfl) (by kernel_rfl)
 |union a g S D=>exact tR 358 231 b e c (by kernel_rfl) (by kernel_rfl)
 |prog a g vs h=>exact tR 267 233 b e c (by kernel_rfl) (by kernel_rfl)
def oG{a:List Nat}(e:dw bs b d)(f:bm a bs c)(h:Nat) :
  (method (h + 1) (cD d) (.pointer (some ⟨b, 0, none⟩)) "Title").run Tryz.prog c = .ok (327, .agg #[.string ⟨(bA d).1.toArray⟩, .int .i64 (bA d).2]) c := by
 obtain⟨i,j⟩:=GZ e f;have g:(loadVar 160 ⟨b,0,none⟩).run prog c=.ok (.agg #[.string ⟨(bA d).1.toArray⟩,.int .i64 (bA d).2]) c:=by go_simp
 rw[Ra,g];rfl
def kI(e:St)(d:ao):Bool:=((eI d).foldl (λb a=>follow e (hp e []) a.1 b) []).contains (bA d).1
def OK{f:Nat}{e:List (List UInt8)}(g:dp f e c)(d:List UInt8):∃v,(Instr.lookup 103 (.map (some f)) (.string ⟨d.toArray⟩) true).run prog c=.ok (.tuple #[v,.bool (e.contains d)]) c:=by
 rcases yG g d with⟨a,b⟩|⟨v,a,b⟩
 .exact⟨.int .i64 0,by rw[b];simp[a]⟩
 .exact⟨v,by rw[b];simp[a]⟩
def NB{text:ByteArray}(y:Rd A text e c)(a6:lL A.X A.N e.g bs vs c)(p:dw bs b d)
  (H:∀a9 d,ay e.g a9=some (some d)->∀h∈eI d,∃n,ay e.g h.1=some (some n)) (a0:∀h∈eI d,∃n,ay e.g h.1=some (some n)) :
  Calls prog 127 #[.pointer (some ⟨A.R,0,none⟩),.iface (cD d) (.pointer (some ⟨b,0,none⟩))] c λo v=>o=.returned (.bool (kI e d))/\ai [] c v:=by
 have b8:=jq;have b9:=jr;obtain⟨c3,c4,c5,c6⟩:=y.K;obtain⟨a,g⟩:∃a:kh,a=⟨c.heap.size+2,c.heap.size,c.heap.size+3,c.heap.size+1⟩:=⟨_,rfl⟩;obtain⟨i,f⟩:∃i,i=(((c.alloc (.cells #[.pointer (some ⟨A.R,0,none⟩)] 145)).alloc (.map #[] 0)).alloc (.cells #[.map (some (c.heap.size+1))] 103)).alloc (.cells #[a.V] 237):=⟨_,rfl⟩;have t:(c.alloc (.cells #[.pointer (some ⟨A.R,0,none⟩)] 145)).heap.size=c.heap.size+1:=by simp
 have u:((c.alloc (.cells #[.pointer (some ⟨A.R,0,none⟩)] 145)).alloc (.map #[] 0)).heap.size=c.heap.size+2:=by simp
 have E:(((c.alloc (.cells #[.pointer (some ⟨A.R,0,none⟩)] 145)).alloc (.map #[] 0)).alloc (.cells #[.map (some (c.heap.size+1))] 103)).heap.size=c.heap.size+3:=by simp
 have a3:=y.t ((Below.refl c.heap.size c).alloc (Y4 _) (.cells #[.pointer (some ⟨A.R,0,none⟩)] 145));have C:=a3.G (.map #[] 0);rw[t]at C;have c2:=((ah [] ((c.alloc (.cells #[.pointer (some ⟨A.R,0,none⟩)] 145)).alloc (.map #[] 0))).d (.cells #[.map (some (c.heap.size+1))] 103)).d (.cells #[a.V] 237);have z:Below (c.heap.size+2) ((c.alloc (.cells #[.pointer (some ⟨A.R,0,none⟩)] 145)).alloc (.map #[] 0)) i:=by
  rw[f];exact((Below.refl _ _).alloc (by omega) _).alloc (by omega) _
 rw[<-u]at z;have a4:=C.t z;have r:ai [] c i:=by rw[f];exact((((ah [] c).d _).d _).d _).d _
 have m:ki (A.aa (c.heap.size+1)) text e bs vs a (hp e []) [] i:=by
  refine⟨a4,?_,?_,?_,?_,?_,?_,Y4 _⟩
  .obtain⟨b0,M,O,x,P⟩:=a6;exact⟨b0,(M.aa (by omega)).h r (by simp),O,(r.i _ (aj x) (by simp)).trans x,P⟩
  .rw[g,f];dsimp only;exact(((ah [] _).d _).i _ (by rw[E];omega) (by simp)).trans (aJ u.symm)
  .rw[g,f];dsimp only;exact((((((ah [] _).d _).d _).d _)).i _ (by rw[t];omega) (by simp)).trans (aJ rfl)
  .rw[f,g];dsimp only;exact aJ E.symm
  .refine⟨by simp,[],rfl,?_⟩;rw[g,f];dsimp only;exact((((ah [] _).d _).d _).i _ (by rw[u];omega) (by simp)).trans (aJ t.symm)
  .rw[g];dsimp only;refine⟨by simp[Ad.aa],?_,?_,?_,?_⟩<;>simp only[Ad.aa]<;>omega
 have L:=bL m.vf;have S:=Il (A:=A.aa (c.heap.size+1)) (text:=text) (bs:=bs) (vs:=vs) (a:=a) H (hp e []);have a2:=Ap p (λs q=>(m.nw.2.1 s q).1);have b6:=An d;have J:=Z (Ao S a0 p (λ{F c8} a5 s q=>(a5.nw.2.1 s q).1) m);have I:=Z r;subst f;subst g;dsimp only[kh.V]at L a2;go_in;go_wp2_with fail;refine J.b.mono ?_;rintro o b3 (⟨c7,j,rfl,l,a7⟩|⟨b5,j,_⟩);rotate_left
 .rw[uI]at j;cases j
 rw[uI]at j;cases j
 have b1:=bL l.vq;dsimp only at b1;have a8:=aj l.vq;dsimp only at a8;have D:=l.t (Below.refl _ _).drew;have c1:=oG p D.nw.2.1;have c0:=nS;have b7:=rl 160 λ_ _ _=>by kernel_rfl
 have b4:=Z l;have w:=Z D;have K:=Z a7;go_wp2_with fail;go_region_held2 (λv=>v.cell? ⟨c.heap.size+2,0,none⟩=some (.map (some (c.heap.size+1)))) (go_keep)
  (first|(go_at_call 327;refine(nR _ _ _).mono ?_;rintro o d0 ⟨rfl,k⟩;obtain⟨c9,a1⟩:=OK (w.b.t k).aH (bA d).1;have b2:=bL (w.b.t k).vq;dsimp only at b2 a1;have G:=Z k;clear k))
 all_goals
  go_wp2
  go_ret
  refine⟨ly (a:=decide ((bA d).1∈(eI d).foldl (λ(F:List (List UInt8)) (h:List UInt8×Nat)=>follow e (hp e []) h.1 F) [])) (b:=kI e d) (by simp[kI]),?_⟩
  exact(I.b.ba K.b (by intro h B;simp only[pG,Yc]at B;subst B;exact Ya (by omega))).a (((ah [] b3).ae).a (br [] G.b))
end
def fO(a:St):List ao->Except Mar.M Unit
 |[]=>.ok ()
 |d::b=>if kI a d then .error ⟨9,(bA d).2⟩else fO a b
def Rd.lR{a:Ad}{b:ByteArray}{e:St}{c d:World}(f:Rd a b e c)(g:ai [] c d):Rd a b e d:=f.h g (by simp) (by simp) (by simp) (by simp) (by simp) (by simp) (by simp) (by simp)
def HY{f:Ad}{H:ByteArray}{b:St}{m:List (Nat×Obj)}{x:List Value}{G:Value}{a:List ao}{k:List Nat}{e:World}(a3:Rd f H b e)(b9:lL f.X f.N b.g m x e)(a5:jd m G a k)
  (K:∀c0 n,ay b.g c0=some (some n)->∀v∈eI n,∃r,ay b.g v.1=some (some r)) (b2:∀n∈a,∀v∈eI n,∃r,ay b.g v.1=some (some r)) :
  Calls prog 75 #[.pointer (some ⟨f.R,0,none⟩),G] e λg h=>(fO b a=.ok ()/\g=.returned (.tuple #[])/\ai [] e h)\/(∃i,fO b a=.error i/\ai [] e h/\fe e i.no i.m g h):=by
 obtain⟨b4,b5,a6⟩:=a5;have A:=Z a6;have P:=Z b4;have L:=Z K;have M:=Z b2;have c6:∀(a1 E:Value) (D:World),(Instr.field 160 (.agg #[a1,E]) 1).run prog D=.ok E D:=λ_ _ _=>by kernel_rfl
 have d2:=nS;rcases b5 with⟨rfl,a4,_⟩|⟨a2,c3,c4,rfl,⟨c5,d1⟩,a8,b7⟩
 .have b3:a=[]:=Yv.1 a4;subst b3;go_in;go_wp2;go_loopw [8] (λd l=>d=.int .i64 0/\l=e) (λ_ _=>0)
  case atStart=>exact⟨rfl,rfl⟩
  case round=>
   obtain⟨rfl,rfl⟩:=hrel;go_wp2;go_end0;exact Y8 ⟨rfl,rfl,ah _ _⟩
 .have b6:∀(w:World),lL f.X f.N b.g m x w->∀d (a9:d<a.length) (b0:d<k.length),w.cell? ⟨a2,d,none⟩=some (.iface (cD a[d]) (.pointer (some ⟨k[d],0,none⟩))):=by
   intro w b8 d a9 b0;refine cu (b8.2.1 _ a8).1 b7 ?_;have o:d<(iO a k).length:=by simp;omega
   rw[Yd o];simp
  have R:=Z b6;have S:=Z a3;have O:=Z b9;go_in;go_wp2;go_loopw [8] (λd l=>∃(c:Nat),d=.int .i64 c/\c<=a.length/\U (Rd f H b l)/\U (lL f.X f.N b.g m x l)/\ai [] e l/\U (fO b a=fO b (a.drop c))) (λd _=>a.length-(intOf d).toNat)
  case atStart=>exact⟨0,rfl,by omega,S,O,ah _ e,rfl⟩
  case round=>
   obtain⟨c,rfl,d0,C,q,o,y⟩:=hrel;rcases Yj c a.length with j|c7
   .have t:c<k.length:=by have:=P.b;omega
    have d4:=R.b _ q.b c j t;have c8:(0:Int)<=↑c:=by omega
    have c9:(↑c:Int) < ↑a.length:=by omega
    have z:U (fO b a=if kI b a[c]then .error ⟨9,(bA a[c]).2⟩else fO b (a.drop (c+1))):=by
     refine y.b.trans ?_;rw[Yk j];rfl
    have N:=Z (NB C.b q.b (A.b c j t) L.b (M.b _ (Yy j)));go_wp2_with fail;refine N.b.mono ?_;rintro g c1 ⟨rfl,u⟩;have B:=Z (q.b.h u (by simp) (by simp));have a0:=Z (C.b.lR u);have p:ai [] e c1:=o.a u;cases F:kI b a[c]with
    |true=>
     have d3:=oG (A.b c j t) B.b.2.1;go_wp2_with (first
      |(go_at_call 327;refine(nR _ _ _).mono ?_;rintro g c2 ⟨rfl,s⟩)
      |(go_at_call 70;refine(gL _ _ _).mono ?_;rintro g h ⟨rfl,rfl⟩))
     exact(show bodyPost prog Tryz.f75 (λg h=>(fO b a=.ok ()/\g=.returned (.tuple #[])/\ai [] e h)\/(∃i,fO b a=.error i/\ai [] e h/\fe e i.no i.m g h)) (Exit.panic _) _ _ from aq (Ya ⟨⟨9,(bA a[c]).2⟩,z.b.trans (by rw[F];rfl),(by first|exact(p.a (br [] s)).d _|exact(p.drew.trans (ai.of_below [] s)).alloc _),c2.heap.size,by have:=p.F;have:=s.size;omega,rfl,aJ rfl⟩))
    |false=>
     have I:U (fO b a=fO b (a.drop (c+1))):=z.b.trans (by rw[F];rfl);go_wp2;exact⟨⟨c+1,by go_num,by omega,a0,B,p,I⟩,by simp[intOf];omega⟩
   .have b1:c=a.length:=by omega
    subst b1;have a7:fO b a=.ok ():=by
     refine y.b.trans ?_;rw[List.drop_length];rfl
    have J:=Z a7;go_wp2;go_end0;exact Y8 ⟨J.b,rfl,o⟩
section
variable {d:Ad}{f:Bool}{a:List UInt8×Nat}{e:Unit}{g τ:Type}{b c:St}
def mG(d:List UInt8)(e:PX τ aF):Prop:=∀f b a g c,e f b=.ok (a,g,c)->a.t=d/\Kn b.g c.g
def ph(d:PX τ aF):Prop:=∀e b a f c,d e b=.ok (a,f,c)->(ay c.g a.t).isSome
def Le.kn(a:Le b c):Kn b.g c.g:=a.2.2.2.2.2
def tv(a:aF):mG a.t (cG (τ:=τ) a):=by
 intro f b e g c d;simp only[cG]at d;cases d
 exact⟨rfl,pc _⟩
def tu{i:List UInt8}{f:PX τ g}{h:g->PX τ aF}(m:bK f)(l:∀d,mG i (h d)):mG i (av f h):=by
 intro o b p r c a;cases e:f o b with
 |error q=>rw[bl e]at a;cases a
 |ok n=>
  obtain⟨d,s,t⟩:=n;rw[aE e]at a;obtain⟨j,k⟩:=l d _ _ _ _ _ a;exact⟨j,(m _ _ _ _ _ e).kn.a k⟩
def Cm{a:List UInt8}{b c:PX τ aF}(d:mG a b)(e:mG a c):mG a (if f then b else c):=by cases f<;>assumption
def ve{h:PX τ g}{e:g->PX τ aF}(i:∀d,ph (e d)):ph (av h e):=by
 intro k b l n c a;cases f:h k b with
 |error m=>rw[bl f]at a;cases a
 |ok j=>obtain⟨d,o,p⟩:=j;rw[aE f]at a;exact i d _ _ _ _ _ a
def yd{a b:PX τ aF}(c:ph a)(d:ph b):ph (if f then a else b):=by cases f<;>assumption
def Hh{d:Mar.am}(a:fZ d b=.ok (e,c)):(ay c.g d.text).isSome:=by
 unfold fZ at a;split at a<;>cases a;rename_i f;dsimp only;rw[xJ,f];simp
def BR{n:ByteArray}{o:Unit}(f:name n (fM d) e b=.ok (a,o,c)):(ay c.g a.1).isSome:=by
 unfold name at f;cases m:next n b with
 |error k=>rw[bl (ci m)]at f;cases f
 |ok i=>
  obtain⟨g,j⟩:=i;rw[aE (aW m)]at f;cases l:((g.f:Int)==1)with
  |false=>rw[l]at f;simp only[Ye,if_false,wi]at f;cases f
  |true=>
   rw[l]at f;simp only[if_true]at f
   cases h:fZ g j with
   |error k=>rw[bl (show (fM d).af g e j=.error k from ci h)]at f;cases f
   |ok i=>
    obtain⟨v,p⟩:=i;rw[aE (show (fM d).af g e j=.ok (v,e,p)from aW h)]at f;simp only[cG]at f;cases f
    exact Hh h
def vg{h:ByteArray}{g:List UInt8×Nat->PX Unit aF}(k:∀a,mG a.1 (g a)):ph (av (name h (fM d)) g):=by
 intro m b n p c e;cases f:name h (fM d) m b with
 |error o=>rw[bl f]at e;cases e
 |ok l=>
  obtain⟨a,q,r⟩:=l;rw[aE f]at e;obtain⟨i,j⟩:=k a _ _ _ _ _ e;rw[i];exact j.1 _ (BR f)
def Cl(b:ByteArray)(a:List UInt8×Nat)(c:Ty):mG a.1 (og (τ:=τ) b a c):=by
 unfold og;exact tu (ey (uV _)) λ_=>tv ⟨a.1,a.2,_⟩
def LX(c:ByteArray)(b:Ty)(a:List UInt8×Nat):mG a.1 (oe (τ:=τ) c b a):=by
 unfold oe;refine tu (ey (pP _ _)) λd=>?_;unfold pz;refine Cm (Cl _ _ _) (tu (ey (pP _ _)) λe=>?_);unfold pA;exact Cm (Cl _ _ _) (tv ⟨a.1,a.2,b⟩)
def Ly(d:Ad)(c:ByteArray):ph (dY c (fM d)):=by
 unfold dY;refine ve λb=>?_;unfold od;refine yd (vg λa=>tu (ey (uV _)) λ_=>tv ⟨a.1,a.2,_⟩) (ve λb=>?_);unfold mU;refine yd (vg λa=>tu (ey (xT _)) λ_=>tv ⟨a.1,a.2,_⟩) (ve λe=>?_);unfold py;refine ve λb=>?_;unfold rc;exact yd (vg λa=>tv ⟨a.1,a.2,_⟩) (vg λa=>LX _ _ _)
def GO{f:ByteArray}{e:aF}(a:lX f b=.ok (e,c)):(ay c.g e.t).isSome:=by
 unfold lX hP at a;cases d:dY f (fM mh) () b with
 |error i=>rw[d]at a;cases a
 |ok g=>obtain⟨h,j,k⟩:=g;rw[d]at a;cases a;exact Ly _ _ _ _ _ _ _ d
def Lu{f:ByteArray}(d:gp f b=.ok (a,c)):(ay c.g a.1).isSome:=by
 unfold gp hP at d;cases e:name f (fM mh) () b with
 |error i=>rw[e]at d;cases d
 |ok g=>obtain⟨h,j,k⟩:=g;rw[e]at d;cases d;exact BR e
end
section
variable {n:List UInt8×Nat}{a:Type}
def nL(e:PM a):Prop:=∀b d c,e b=.ok (d,c)->Kn b.g c.g
def dd.k{b:PM a}(d:dd b):nL b:=λf c g e=>(d f c g e).kn
def mH(n:List UInt8×Nat)(d:PM ao):Prop:=∀b a c,d b=.ok (a,c)->bA a=n/\Kn b.g c.g
def lP(d:PM ao):Prop:=∀c b a,d c=.ok (b,a)->(ay a.g (bA b).1).isSome/\Kn c.g a.g
def rX{a:ao}(c:bA a=n):mH n (bS a):=by
 intro e d f b;simp only[bS]at b;cases b
 exact⟨c,pc _⟩
def gK{e:PM a}{f:a->PM ao}(j:nL e)(i:∀c,mH n (f c)):mH n (au e f):=by
 intro l m p b;cases d:e l with
 |error o=>rw[bj d]at b;cases b
 |ok k=>
  obtain⟨c,q⟩:=k;rw[as d]at b;obtain⟨g,h⟩:=i c _ _ _ b;exact⟨g,(j _ _ _ d).a h⟩
def Rb{c:Bool}{a b:PM ao}(d:mH n a)(e:mH n b):mH n (if c then a else b):=by cases c<;>assumption
def qm{e:PM a}{f:a->PM ao}(j:nL e)(i:∀c,lP (f c)):lP (au e f):=by
 intro l m o b;cases d:e l with
 |error n=>rw[bj d]at b;cases b
 |ok k=>
  obtain⟨c,p⟩:=k;rw[as d]at b;obtain⟨g,h⟩:=i c _ _ _ b;exact⟨g,(j _ _ _ d).a h⟩
def tQ{e:ByteArray}{c:List UInt8×Nat->PM ao}(g:∀n,mH n (c n)):lP (au (gp e) c):=by
 intro i j l a;cases b:gp e i with
 |error k=>rw[bj b]at a;cases a
 |ok h=>
  obtain⟨n,m⟩:=h;rw[as b]at a;obtain⟨f,d⟩:=g n _ _ _ a;exact⟨by rw[f];exact d.1 _ (Lu b),(pO _ _ _ _ b).kn.a d⟩
def QF(b:ByteArray)(a:Nat):lP (iv b a):=by
 unfold iv;refine qm (BH _).k λ_=>tQ λn=>?_;exact gK (dN _ _).k λ_=>gK (tn _ _).k λ_=>gK (dN _ _).k λ_=>rX rfl
def QJ(e:ByteArray)(g:Nat):lP (iC e g):=by
 unfold iC;refine qm (uX _).k λ_=>?_;intro i j l a;cases b:lX e i with
 |error k=>rw[bj b]at a;cases a
 |ok h=>
  obtain⟨c,m⟩:=h;rw[as b]at a;obtain⟨f,d⟩:=gK (n:=(c.t,c.m)) (dN _ _).k (λ_=>rX rfl) _ _ _ a;exact⟨by rw[f];exact d.1 _ (GO b),(BD _ _ _ _ b).kn.a d⟩
def Rc(f:ByteArray)(n:List UInt8×Nat):∀(c:Nat) (b:List (List UInt8×Nat×Int)) (d:List (Int×Int)),mH n (go f n c b d):=by
 intro c;induction c with
 |zero=>intro b d g h o a;simp only[go,fj]at a;cases a
 |succ c k=>
  intro b d g h o a;cases e:hX f b.length d g with
  |error p=>rw[th e]at a;cases a
  |ok m=>
   obtain⟨l,q,s⟩:=m;rw[rC e]at a;obtain⟨i,j⟩:=gK (n:=n) (jW _ _).k (λr=>Rb (k _ _) (show mH n (mX f n (b++[l]))from gK (dN _ _).k λ_=>gK (dN _ _).k λ_=>rX rfl)) _ _ _ a;exact⟨i,(BG _ _ _ _ _ _ _ e).kn.a j⟩
def QG(b:ByteArray)(a:Nat):lP (gm b a):=by
 unfold gm;exact qm (uX _).k λ_=>tQ λn=>gK (dN _ _).k λ_=>Rc _ _ _ _ _
def QI(b:ByteArray)(a:Nat):lP (iZ b a):=by
 unfold iZ;exact qm (uX _).k λ_=>tQ λn=>gK (tm (uU _ _ _ (xV _ _)) _).k λ_=>gK (dN _ _).k λ_=>rX rfl
def QK(b:ByteArray)(a:Nat):lP (dP b a):=by
 unfold dP;refine qm (uX _).k λ_=>tQ λn=>?_;unfold oL;refine gK (dN _ _).k λ_=>gK (dN _ _).k λ_=>gK (BJ _).k λd=>?_;unfold qq;refine gK (uZ (uW _ _ _) _).k λc=>?_;unfold rY;refine gK (dN _ _).k λ_=>gK (dN _ _).k λ_=>gK (uZ (BA _ _ _ _) _).k λe=>?_;unfold kM oJ;exact gK (dN _ _).k λ_=>gK (dN _ _).k λ_=>rX rfl
def Ju(d:ByteArray)(c:Int->Bool):nL (mj d c):=by
 intro e g k a;cases b:fR d c e.o e with
 |error h=>rw[vu b]at a;cases a
 |ok f=>
  obtain⟨j,i,l⟩:=f;rw[yi b]at a;cases a
  exact(tl _ _ _ _ _ _ _ b).kn
def xE{j:Type}{e:PM a}{f:a->PM j}(h:nL e)(g:∀c,nL (f c)):nL (au e f):=by
 intro k l n b;cases d:e k with
 |error m=>rw[bj d]at b;cases b
 |ok i=>obtain⟨c,o⟩:=i;rw[as d]at b;exact(h _ _ _ d).a (g c _ _ _ b)
def Jt(a:ByteArray):nL (mW a):=by
 unfold mW;exact xE (dN _ _).k λ_=>xE (Ju _ _) λ_=>xE (dN _ _).k λ_=>(iT _).k
def QH(c:ByteArray)(b:Nat):lP (hC c b):=by
 unfold hC;refine qm ?_ λ_=>tQ λn=>?_
 .intro e d f a;exact(xU _ _ _ _ _ _ a).kn
 .unfold oy;exact gK (tm (BI _) _).k λ_=>gK (Jt _) λ_=>rX rfl
def DH(b:ByteArray):lP (fN b):=by
 unfold fN;refine qm (ot _).k λd=>?_;intro e c f a;unfold dT at a;split at a
 .exact QF _ _ _ _ _ a
 split at a
 .exact QJ _ _ _ _ _ a
 split at a
 .exact QG _ _ _ _ _ a
 split at a
 .exact QI _ _ _ _ _ a
 split at a
 .exact QK _ _ _ _ _ a
 split at a
 .exact QH _ _ _ _ _ a
 .simp only[fj]at a;cases a
end
def So(b:ByteArray)(a:World):Calls prog 71 #[.string b] a λc d=>c=.returned (.pointer (some ⟨a.heap.size,0,none⟩))/\d=a.alloc (.cells #[.string b,.int .i64 0,.int .i64 0,.string ⟨#[]⟩,.int .i64 0,.int .i64 0,.bool false] 222):=by
 go_in;go_wp2;go_ret;exact⟨rfl,rfl⟩
def eN:St:=⟨0,none,0,0,[],[]⟩
def hV(b:ByteArray)(a:World):World:=
 (((a.alloc (.cells #[.string b,.int .i64 0,.int .i64 0,.string ⟨#[]⟩,.int .i64 0,.int .i64 0,.bool false] 222)).alloc (.map #[] 0)).alloc (.map #[] 0)).alloc
  (.cells #[.pointer (some ⟨a.heap.size,0,none⟩),.map (some (a.heap.size+1)),.int .i64 0,.int .i64 0,.map (some (a.heap.size+2))] 151)
def gQ(a:World):Ad:=⟨a.heap.size+3,a.heap.size,a.heap.size+1,a.heap.size+2,[a.heap.size+3,a.heap.size,a.heap.size+1,a.heap.size+2]⟩
def Jy(b:ByteArray){a:World}(l:Gl a)(n:b.size<=4000000000):Rd (gQ a) b eN (hV b a)/\ai [] a (hV b a)/\(hV b a).heap.size=a.heap.size+4:=by
 have d:(a.alloc (.cells #[.string b,.int .i64 0,.int .i64 0,.string ⟨#[]⟩,.int .i64 0,.int .i64 0,.bool false] 222)).heap.size=a.heap.size+1:=by simp
 have e:((a.alloc (.cells #[.string b,.int .i64 0,.int .i64 0,.string ⟨#[]⟩,.int .i64 0,.int .i64 0,.bool false] 222)).alloc (.map #[] 0)).heap.size=a.heap.size+2:=by simp
 have f:(((a.alloc (.cells #[.string b,.int .i64 0,.int .i64 0,.string ⟨#[]⟩,.int .i64 0,.int .i64 0,.bool false] 222)).alloc (.map #[] 0)).alloc (.map #[] 0)).heap.size=a.heap.size+3:=by simp
 have g:(hV b a).heap.size=a.heap.size+4:=by unfold hV;simp
 have c:ai [] a (hV b a):=((((ah [] a).d _).d _).d _).d _;have j:(hV b a).heap[a.heap.size]? = some (.cells #[.string b,.int .i64 0,.int .i64 0,.string ⟨#[]⟩,.int .i64 0,.int .i64 0,.bool false] 222):=
  ((((ah [] _).d _).d _).d _).i _ (by rw[d];omega) (by simp) |>.trans (aJ rfl)
 have bN:(hV b a).heap[a.heap.size+1]? = some (.map #[] 0):=(((ah [] _).d _).d _).i _ (by rw[e];omega) (by simp) |>.trans (aJ d.symm);have h:(hV b a).heap[a.heap.size+2]? = some (.map #[] 0):=((ah [] _).d _).i _ (by rw[f];omega) (by simp) |>.trans (aJ e.symm);have i:(hV b a).heap[a.heap.size+3]? = some (.cells #[.pointer (some ⟨a.heap.size,0,none⟩),.map (some (a.heap.size+1)),.int .i64 0,.int .i64 0,.map (some (a.heap.size+2))] 151):=aJ f.symm;refine⟨⟨i,⟨YV _,_,_,_,_,j⟩,⟨by simp[eN],[],[],(by intro q m;cases m),rfl,bN,(by intro p k;cases k)⟩,?_,?_,h,by simp[gQ],l.h c (by simp) (by simp) (by simp),n,by simp[eN]⟩,c,g⟩
 .simp[gQ]
 .intro r o;simp[gQ]at o;rw[g];omega
def IR:(prog.info? 157).map (λa=>(a.zero,a.size,a.bytes))=some (some .nilIface,1,16):=by kernel_rfl
def CP(a:ao):PM Unit:=λp=>.ok ((),{ p with g:=cL p.g (bA a).1 a })
def eb(e:ByteArray):Nat->List ao->PM (List ao)
 |0,_=>fj 0 0
 |k+1,a=>au (fI e) λc=>if((c.f:Int)==0)then bS a else au (fN e) λb=>au (CP b) λ_=>eb e k (a++[b])
def en(e:ByteArray):Except Mar.M (List ao):=
 if 1200<e.size then .error ⟨1,0⟩else match eb e 69 [] eN with
 |.error b=>.error b
 |.ok (a,p)=>match kD p a with
  |.error b=>.error b
  |.ok _=>match fO p a with
   |.error b=>.error b
   |.ok _=>.ok a
structure hN(b:Ad)(e:ByteArray)(j:World)(a:List ao)(c:List Nat)(n:List (Nat×Obj))(l:List Nat)(o:Value)(p:St)(f:World):Prop where
 B:ai [b.R,b.S,b.N,b.P] j f
 rd:Rd (b.v l) e p f
 E:∀y∈l,j.heap.size<=y
 G:∀g,o.ownBlock=some g->g∈l
 row:f.ownsRow j.heap.size 157 1 o a.length (iO a c)
 ak:c.length=a.length
 c5:bm (b.v l).X n f
 cr:∀i (h:i<a.length) (h':i<c.length),dw n c[i] a[i]
section
variable {b : Ad} {e : ByteArray} {j f q : World} {a : List ao} {c : List Nat} {n : List (Nat × Obj)} {l : List Nat} {o : Value} {p s r : St}
def hN.ck(h:hN b e j a c n l o p f):∃ad d,o=.slice ad a.length d:=by
 rcases h.row.2 with⟨rfl,g⟩|⟨k,d,i,rfl,_⟩
 .exact⟨none,0,by rw[g]⟩
 .exact⟨_,_,rfl⟩
def hN.a4{k:List Nat}(v:Rd b e r j)(d:hN b e j a c n l o p f)(t:ai k f q)(m:∀i∈k,i∈[b.R,b.S,b.N,b.P])(h:Rd (b.v l) e s q):hN b e j a c n l o s q:=by
 obtain⟨y,z,A,B⟩:=v.K;have w:∀i∈k,i∈(b.v l).X:=by
  intro i g;have g:=m i g;simp at g;rcases g with rfl|rfl|rfl|rfl
  .exact h.C.1
  .exact h.C.2.1
  .exact h.C.2.2.1
  .exact h.C.2.2.2
 refine⟨d.B.a (t.l m),h,d.E,d.G,aX d.row t ?_,d.ak,d.c5.h t w,d.cr⟩;intro u x g;have g:=m _ g;have:=d.E _ (d.G u x);simp at g;omega
def hN.t(g:Rd b e r j)(m:hN b e j a c n l o p f)(d:Below f.heap.size f q):hN b e j a c n l o p q:=m.a4 g (br [] d) (by simp) (m.rd.t d)
def hN.hK(g:hN b e j a c n l o p f)(d:Obj):(f.alloc d).ownsRow j.heap.size 157 1 o a.length (iO a c):=aX g.row ((ah [] f).d d) (by simp)
def Ft{B t:World}{g C h:Nat}{d:ao}{bs':List (Nat×Obj)}(E:Rd b e r j)(i:hN b e j a c n l o p f)(K:dw bs' h d)(L:bm (b.v l).X bs' f)(s:Below f.heap.size f B)
  (G:t.ownsRow j.heap.size 157 1 (.slice (some ⟨g,0,none⟩) (a.length+1) C) (a.length+1) (iO a c++[.iface (cD d) (.pointer (some ⟨h,0,none⟩))]))
  (v:B.grownBy t o.ownBlock) (F:o.ownBlock=some g\/g=B.heap.size) (O:g<t.heap.size) :
  hN b e j (a++[d]) (c++[h]) (n++bs') (g::l) (.slice (some ⟨g,0,none⟩) (a.length+1) C) p t:=by
 obtain⟨R,_⟩:=gH G (g:=g) rfl;have q:=i.t E s;have M:=L.h (br [] s) (by simp);have z:∀h,o.ownBlock=some h->j.heap.size<=h/\h∈(b.v l).X:=λh s=>⟨i.E _ (i.G h s),Yf _ (i.G h s)⟩;have N:=eJ v;refine⟨q.B.ba N ?_,qM E (cC b l) q.rd v z F O,?_,?_,?_,by simp[i.ak],(q.c5.bv M).aN v (λh s=>(z h s).2) F,?_⟩
 .intro S P;exact Ya (z S (by simpa using P)).1
 .intro a1 A;rcases Yg.1 A with rfl|A
  .exact R
  .exact i.E a1 A
 .intro a2 D;simp only[Value.ownBlock,Yu]at D;subst D;exact Yb
 .have m:iO (a++[d]) (c++[h])=iO a c++[.iface (cD d) (.pointer (some ⟨h,0,none⟩))]:=by
   unfold iO;rw[List.zip_append i.ak.symm,List.map_append];rfl
  rw[m];simpa using G
 .intro k J a3;by_cases w:k<a.length
  .have x:k<c.length:=by rw[i.ak];exact w
   rw[List.getElem_append_left w,List.getElem_append_left x];exact(show je (n++bs') (.iface (cD a[k]) (.pointer (some ⟨c[k],0,none⟩))) (some a[k])from oX (λa0 y=>Yf _ y) ⟨_,rfl,i.cr k w x⟩).elim (λH u=>by obtain⟨m,q⟩:=u;cases m;exact q)
  .have x:k=a.length:=by simp at J;omega
   have a4:=i.ak;rw[List.getElem_append_right (by omega),List.getElem_append_right (by omega)];have m:k-a.length=0:=by omega
   have I:k-c.length=0:=by omega
   simp only[m,I,List.getElem_cons_zero];exact(show je (n++bs') (.iface (cD d) (.pointer (some ⟨h,0,none⟩))) (some d)from oX (λa0 y=>Ym _ y) ⟨_,rfl,K⟩).elim (λH u=>by obtain⟨m,q⟩:=u;cases m;exact q)
def hN.i6(B:Rd b e r j)(h:hN b e j a c n l o p f)(G:a.length<=1000):∃g,jd (n++g) o a c/\bm b.X (n++g) f:=by
 have A:∀m,j.heap.size<=m->m ∉ b.X:=λm M H=>by have:=B.al _ H;omega
 have x:bm b.X n f:=h.c5.a9 (λP J=>Ym _ J);have w:∀g d (i:d<a.length) (u:d<c.length),dw (n++g) c[d] a[d]:=λg d i u=>
  (show je (n++g) (.iface (cD a[d]) (.pointer (some ⟨c[d],0,none⟩))) (some a[d])from oX (λK k=>Yf _ k) ⟨_,rfl,h.cr d i u⟩).elim (λL C=>by obtain⟨q,z⟩:=C;cases q;exact z)
 rcases h.row.2 with⟨rfl,i⟩|⟨t,y,s,rfl,D,E,F,N,O,v⟩
 .have I:a=[]:=Yv.1 i;refine⟨[],⟨h.ak,Y8 ⟨rfl,i,?_⟩,w []⟩,by simpa using x⟩;subst I;rfl
 .refine⟨[(t,.cells s 157)],⟨h.ak,Ya ⟨t,y,s,rfl,⟨F,G⟩,by simp,?_⟩,w _⟩,?_⟩
  .have q:(iO a c).length=a.length:=by simp[h.ak]
   rw[Nat.mul_one]at v;rw[q];exact v
  .refine x.bv ?_;intro K k;simp only[Yc]at k;subst k;exact⟨E,A _ D⟩
end
section
variable {b:ao}{d:List ao}{f:Mar.M}{e:Mar.am}{c g h:St}
def DL{a:ByteArray}{g:Nat}(b:fI a c=.ok (e,h))(f:((e.f:Int)==0)=true):eb a (g+1) d c=.ok (d,h):=by
 simp only[eb];rw[as b,f];rfl
def DM{a:ByteArray}{e:Nat}(b:fI a c=.error f):eb a (e+1) d c=.error f:=by
 simp only[eb];exact bj b
def DK{a:ByteArray}{j:Nat}(b:fI a c=.ok (e,h))(i:((e.f:Int)==0)=false)(g:fN a h=.error f):eb a (j+1) d c=.error f:=by
 simp only[eb];rw[as b,i];exact bj g
def DN{a:ByteArray}{g:Nat}{f:St}(i:fI a c=.ok (e,h))(k:((e.f:Int)==0)=false)(j:fN a h=.ok (b,f)) :
  eb a (g+1) d c=eb a g (d++[b]) { f with g:=cL f.g (bA b).1 b }:=by
 simp only[eb];rw[as i,k];exact as j
structure lQ(c:St)(d:List ao):Prop where
 k:c.j<=24
 co:c.D<=40
 pr:c.o.length<=4
 aP:d.length<=c.j+c.D+c.o.length
 nm:∀n b,ay c.g n=some (some b)->b∈d\/∃t a v,b=.const t a v
def lQ.le(a:lQ c d)(j:Le c g):lQ g d:=by
 obtain⟨n,o,f,k,l,m⟩:=j;refine⟨k a.k,l a.co,by rw[f];exact a.pr,by rw[f];have:=a.aP;omega,λh b i=>?_⟩;rcases m.2 h b i with e|e
 .exact a.nm h b e
 .exact Ya e
def lQ.cl{n:ByteArray}(e:lQ c d)(m:fN n c=.ok (b,g)):lQ { g with g:=cL g.g (bA b).1 b } (d++[b]):=by
 have f:=PC m;have o:=(DH n _ _ _ m).2;have q:=f.up;have p:=e.aP;refine⟨f.k e.k,f.co e.co,f.pr e.pr,by simp;omega,λk l a=>?_⟩;dsimp only at a;rw[xK]at a;cases j:ay g.g k with
 |none=>rw[j]at a;cases a
 |some r=>
  rw[j]at a;simp only[Option.map_some,Yu]at a;split at a
  .cases a
   exact Y8 (by simp)
  .subst a;rcases o.2 k l j with h|h
   .rcases e.nm k l h with i|i
    .exact Y8 (Yf _ i)
    .exact Ya i
   .exact Ya h
def xF:∀(c:Ty) (b:List UInt8×Nat),b∈cH c->b∈cf c:=by
 intro c;induction c with
 |named i g=>intro b a;exact a
 |arr e h f d=>
  intro b a;cases f with
  |true=>exact d b (by simpa[cH]using a)
  |false=>simp[cH]at a
 |opt e d=>intro b a;simp[cH]at a
 |_=>intro b a;simp[cH]at a
def Bo(b:ao)(h:List UInt8×Nat)(a:h∈eI b):h∈gi b:=by
 cases b with
 |const d c v=>simp[eI]at a
 |typedef b=>exact xF _ _ a
 |enum d c i=>simp[eI]at a
 |struct d c i=>
  simp only[eI,List.mem_flatMap]at a;obtain⟨e,g,f⟩:=a;exact List.mem_flatMap.2 ⟨e,g,xF _ _ f⟩
 |union d c l j=>
  simp only[eI,List.mem_flatMap]at a;obtain⟨e,g,f⟩:=a;exact List.mem_flatMap.2 ⟨e,g,xF _ _ f⟩
 |prog d c m k=>simp[eI]at a
def JT:∀(h:List (List UInt8×Nat)) (i:Unit),aY (fy ⟨0,0,0,0,[]⟩ ⟨#[]⟩ c [] 0) h i=.ok ()->∀g∈h,∃b,ay c.g g.1=some (some b):=by
 intro h;induction h with
 |nil=>intro i _ g e;cases e
 |cons j h m=>
  intro i d g e;simp only[aY]at d;have l:(fy ⟨0,0,0,0,[]⟩ ⟨#[]⟩ c [] 0).af j i=js c j:=rfl;rw[l]at d;cases a:js c j with
  |error f=>rw[a]at d;cases d
  |ok v=>
   rw[a]at d;rcases Yg.1 e with rfl|e
   .unfold js at a;cases k:ay c.g g.1 with
    |none=>rw[k]at a;cases a
    |some n=>
     rw[k]at a;cases n with
     |none=>simp[oq]at a
     |some b=>exact⟨b,rfl⟩
   .exact m _ d g e
def Bs(f:kD c d=.ok ()):∀b∈d,∀a∈eI b,∃e,ay c.g a.1=some (some e):=by
 intro b g a h;exact JT _ _ f a (List.mem_flatMap.2 ⟨b,g,Bo b a h⟩)
def JU(k:lQ c d)(h:kD c d=.ok ()):∀e b,ay c.g e=some (some b)->∀a∈eI b,∃g,ay c.g a.1=some (some g):=by
 intro e b j a f;rcases k.nm e b j with i|⟨m,l,v,rfl⟩
 .exact Bs h b i a f
 .simp[eI]at f
def Rq:lQ eN []:=⟨by simp[eN],by simp[eN],by simp[eN],by simp,by intro c b a;simp[eN,ay]at a⟩
def Hj{d a:Ad}(b:eF d a){e:ByteArray}{f:World}(g:Rd d e c f) :
  Calls prog 73 #[.pointer (some ⟨a.R,0,none⟩)] f (ue [a.R,a.S,a.N,a.P] d e f (fN e c)):=by
 have:=Hi g;rw[b.1,b.2.1,b.2.2.1,b.2.2.2]at this;exact this
end
section
variable {a:List ao}{b:Mar.M}{c:St}
def sm(i:ByteArray)(d:World)(f:Ending)(c:World):Prop:=
 (∃a h j e,en i=.ok a/\f=.returned h/\ai [] d c/\jd e h a j/\∀g∈e,c.heap[g.1]? = some g.2)\/(∃b,en i=.error b/\ai [] d c/\fe d b.no b.m f c)
def DP{a:ByteArray}(c:¬1200<a.size)(d:eb a 69 [] eN=.error b):en a=.error b:=by unfold en;rw[Y2 c,d]
def QQ{d:ByteArray}(e:¬1200<d.size)(f:eb d 69 [] eN=.ok (a,c))(g:kD c a=.error b):en d=.error b:=by unfold en;rw[Y2 e,f];simp only[g]
def QP{d:ByteArray}(e:¬1200<d.size)(g:eb d 69 [] eN=.ok (a,c))(h:kD c a=.ok ())(f:fO c a=.error b):en d=.error b:=by unfold en;rw[Y2 e,g];simp only[h,f]
def QS{b:ByteArray}(d:¬1200<b.size)(f:eb b 69 [] eN=.ok (a,c))(g:kD c a=.ok ())(e:fO c a=.ok ()):en b=.ok a:=by unfold en;rw[Y2 d,f];simp only[g,e]
def zK(d:ByteArray){c:World}(b6:Gl c):Calls prog 44 #[.string d] c (sm d c):=by
 have k8:=jr;have k6:=HU;have k5:=rl 160 λ_ _ _=>by kernel_rfl
 have l1:=nS;obtain⟨j1,i1,i8,i9,g1⟩:=info_parts IR;by_cases c2:1200<d.size
 .have g5:U (en d=.error ⟨1,0⟩):=by show _=_;unfold en;rw[Y9 c2]
  have f5:(1200:Int) < ↑d.size:=by omega
  go_in;go_wp2_with (go_at_call 70;refine(gL _ _ _).mono ?_;rintro B c8 ⟨rfl,rfl⟩);exact aq (Ya ⟨⟨1,0⟩,g5.b,(by first|exact(ah [] c).d _|exact(ai.refl [] c).drew.alloc _),c.heap.size,Y4 _,rfl,aJ rfl⟩)
 .obtain⟨c3,f3,l0⟩:=Jy d b6 (by omega);have k9:¬(1200:Int) < ↑d.size:=by omega
  have G:=Z c2;have m:=Z c3;have F:=Z f3;have d9:U (hN (gQ c) d (hV d c) [] [] [] [] (.slice none 0 0) eN (hV d c)):=⟨ah _ _,c3,by simp,(by intro e4 b6;cases b6),⟨rfl,Y8 ⟨rfl,rfl⟩⟩,rfl,(by intro M k;cases k),(by intro p i;cases i)⟩;clear c3 f3 c2;go_in;go_wp2_with (first|(go_at_call 71;refine(So _ _).mono ?_;rintro B c8 ⟨rfl,rfl⟩));go_loopw [4] (λc7 j2=>∃(a:List ao) (l:List Nat) (n:List (Nat×Obj)) (u:List Nat) (O:St),U (lQ O a)/\U (hN (gQ c) d (hV d c) a l n u c7 O j2)/\U (eb d 69 [] eN=eb d (69-a.length) a O)) (λc7 _=>69-uP c7)
  case atStart=>exact⟨[],[],[],[],eN,Rq,d9,rfl⟩
  case round=>
   obtain⟨a,l,n,u,O,A,r,d1⟩:=hrel;clear d9;obtain⟨ad,S,rfl⟩:=r.b.ck;have k7:a.length<=68:=by have C:=A.b.aP;have k2:=A.b.k;have k3:=A.b.co;have k4:=A.b.pr;omega
   have z:U (eb d 69 [] eN=eb d ((68-a.length)+1) a O):=by
    have C:=d1.b;rw[show 69-a.length=(68-a.length)+1 by omega]at C;exact C
   have h4:wr.cell? ⟨c.heap.size+3,0,none⟩=some (.pointer (some ⟨c.heap.size,0,none⟩)):=r.b.rd.r.1;clear d1;go_wp2_with fail;refine(yp (cC (gQ c) u) r.b.rd).mono ?_;rintro B j4 ⟨c0,⟨d0,j7,y,rfl,f9⟩|⟨b,y,w,b4,rfl,x⟩⟩;rotate_left
   .have c6:=r.b.B.F;exact(show bodyPost prog Tryz.f44 (sm d c) (Exit.panic _) _ j4 from aq (Ya ⟨b,DP G.b (z.b.trans (DM y)),(F.b.ba r.b.B (by intro D e;simp[gQ]at e;exact Ya (by omega))).ba c0 (by intro D e;simp[gQ]at e;exact Ya (by omega)),w,by omega,rfl,x⟩))
   have f:=Z (r.b.a4 m.b c0 (by simp) f9);have a6:=Z (A.b.le (uY _ _ _ _ y));clear c0 f9 r A;dsimp only[cq];cases I:((d0.f:Int)==0)with
   |true=>
    have i2:((d0.f:Int) != 0)=false:=by simp[bne,I]
    have f1:=z.b.trans (DL y I);have a4:=Z f1;obtain⟨R,b5,b9⟩:=f.b.i6 m.b (by omega);have c4:=jk m.b.C f.b.rd;have g9:=Z (JR c4 b9 b5);have h1:=Z c4;have d5:=Z b9;have P:=Z b5;clear f1 z c4 b9 b5;go_wp2_with fail;refine g9.b.mono ?_;rintro B q (⟨o,rfl,j⟩|⟨b,o,c1,w,b4,rfl,x⟩);rotate_left
    .have c6:=f.b.B.F;exact(show bodyPost prog Tryz.f44 (sm d c) (Exit.panic _) _ q from aq (Ya ⟨b,QQ G.b a4.b o,(F.b.ba f.b.B (by intro D e;simp[gQ]at e;exact Ya (by omega))).a c1,w,by omega,rfl,x⟩))
    have c5:=h1.b.lR j;obtain⟨g2,b0,j3,e5,e6,e7,e8⟩:=c5.nm;have f7:lL (gQ c).X (gQ c).N j7.g ((n++R)++b0) j3 q:=⟨g2,(d5.b.h j (by simp)).bv e5,e6,e7,λp i b1=>oX (λM k=>Ym _ k) (e8 p i b1)⟩;have f0:jd ((n++R)++b0) (.slice ad a.length S) a l:=⟨P.b.ak,P.b.row.l (λM k=>Yf _ k),λp i b1=>(show je ((n++R)++b0) (.iface (cD a[p]) (.pointer (some ⟨l[p],0,none⟩))) (some a[p])from oX (λM k=>Yf _ k) ⟨_,rfl,P.b.cr p i b1⟩).elim (λj8 h9=>by obtain⟨h5,h6⟩:=h9;cases h5;exact h6)⟩
    have h0:=Z (HY c5 f7 f0 (JU a6.b o) (Bs o));have g6:=Z (d5.b.h j (by simp));have a5:=Z j;have d7:=Z o;clear c5 g2 e5 e6 e7 e8 f7 f0 j o;go_wp2_with fail;refine h0.b.mono ?_;rintro B j5 (⟨a0,rfl,f4⟩|⟨b,a0,c1,w,b4,rfl,x⟩);rotate_left
    .have c6:=f.b.B.F;have g1:=a5.b.F;exact(show bodyPost prog Tryz.f44 (sm d c) (Exit.panic _) _ j5 from aq (Ya ⟨b,QP G.b a4.b d7.b a0,((F.b.ba f.b.B (by intro D e;simp[gQ]at e;exact Ya (by omega))).a a5.b).a c1,w,by omega,rfl,x⟩))
    have g7:=Z a0;have d6:=Z f4;clear a0 f4;go_wp2;go_ret;refine Y8 ⟨a,_,l,n++R,QS G.b a4.b d7.b g7.b,rfl,?_,P.b,λM k=>((g6.b.h d6.b (by simp)) M k).1⟩;exact((F.b.ba f.b.B (by intro D e;simp[gQ]at e;exact Ya (by omega))).a a5.b).a d6.b
   |false=>
    have i2:((d0.f:Int) != 0)=true:=by simp[bne,I]
    have l3:=y;go_wp2_with fail;refine(Hj (cC (gQ c) u) f.b.rd).mono ?_;rintro B q ⟨j,⟨h,a3,a9,e3,K,rfl,a1,e9,f2⟩|⟨b,K,w,b4,rfl,x⟩⟩;rotate_left
    .have c6:=f.b.B.F;exact(show bodyPost prog Tryz.f44 (sm d c) (Exit.panic _) _ q from aq (Ya ⟨b,DP G.b (z.b.trans (DK y I K)),(F.b.ba f.b.B (by intro D e;simp[gQ]at e;exact Ya (by omega))).ba j (by intro D e;simp[gQ]at e;exact Ya (by omega)),w,by omega,rfl,x⟩))
    have e0:=f.b.a4 m.b j (by simp) a1;have h2:=Z (a6.b.cl K);have g3:=Z (z.b.trans (DN y I K));obtain⟨l5,i4⟩:=Option.isSome_iff_exists.1 (DH d _ _ _ K).1;have e1:=e0.t m.b (Below.refl _ _).drew;have b7:=f2.h (br [] (Below.refl q.heap.size q).drew) (by simp);have i7:=oG e9 b7;have j9:q.cell? ⟨c.heap.size+3,1,none⟩=some (.map (some (c.heap.size+1))):=a1.r.2.1;have d8:=Z e1;have d3:=Z b7;have d2:=Z e9;have l4:c.heap.size+3<q.heap.size:=a1.K.1;clear z j a1 f2 f a6 e0 e1 b7 h4;go_wp2_with fail;refine cR (λc8=>c8.cell? ⟨c.heap.size+3,1,none⟩=some (.map (some (c.heap.size+1)))) (L:=8) (by kernel_rfl) rfl (by kernel_rfl) (by kernel_rfl) ?_ (λh7=>?_)
    .go_keep
    refine bH [0,1,2,3,4,7] ?_;iterate 6 (refine bO (v:=?_) rfl (by kernel_rfl) (λ_ _ _ i=>i) (by rfl) (by assumption) ?_ ?_;rotate_left;focus (intro c b2;(try dsimp only at b2);go_simp;(try with_reducible rfl));(try simp only[aK,aL,List.set]))
    refine bI ?_;refine cj 5 (by kernel_rfl) rfl λa7 H=>?_;(go_simp;go_at_call 327;refine(nR _ _ _).mono ?_;rintro B c9 ⟨rfl,b3⟩;have s:=d8.b.t m.b b3;have k0:c9.cell? ⟨c.heap.size+3,1,none⟩=some (.map (some (c.heap.size+1))):=s.rd.r.2.1;have b8:=d3.b.h (br [] b3) (by simp);obtain⟨E,f8,f6⟩:=fK.aH s.rd.nm s.rd.C.2.2.1 i4 d2.b b8;have g0:=Rd.kj s.rd f6;have e2:=Z (s.a4 m.b (gV _ _ _) (by intro j6 J;simp only[Yc]at J;subst J;simp[Ad.v]) g0);have d4:=Z (b8.h (gV c9 (c.heap.size+1) E) (by intro j6 J;simp only[Yc]at J;subst J;exact s.rd.C.2.2.1));dsimp only[Ad.v,gQ]at f8;clear b3 s b8 f6 g0);refine H.out _ _ ?_ (λh7=>?_)
    .go_keep
    clear H a7;(try simp only[aK,aL,List.set]);refine tk (i:=6) (v:=?_) rfl (by kernel_rfl) (λ_ _ _ i=>i) (by rfl) (by assumption) ?_ ?_;rotate_left
    .intro c b2;(try dsimp only at b2);go_simp;(try with_reducible rfl)
    (try simp only[aK,aL,List.set]);refine cP (by kernel_rfl) rfl λa7 H=>?_;go_simp;refine H.out _ _ ?_;clear H a7;(try simp only[aK,aL,List.set]);obtain⟨g,a2⟩:∃g,g=dm c9 (c.heap.size+1) E:=⟨_,rfl⟩;rw[<-a2];have a8:U (hN (gQ c) d (hV d c) a l n u (.slice ad a.length S) { a3 with g:=cL a3.g (bA h).1 h } g):=by rw[a2];exact e2
    have g8:U (bm ((gQ c).v u).X e3 g):=by rw[a2];exact d4
    clear e2 d4 f8 a2 i7 d8 d3;have i5:∀E,(g.alloc E).ownsRow (hV d c).heap.size 157 1 (.slice ad a.length S) a.length (iO a l):=λE=>a8.b.hK E;have l2:(hV d c).heap.size<=g.heap.size:=a8.b.B.F;have i3:a.length+1<=maxLen:=by unfold maxLen;omega
    have o:(a.length+1)*16<=140737488355328:=by omega
    have j0:Value.nilIface.cells.size=1:=rfl;go_wp2_with (first
     |(at_builtin;refine wpList_append_lies _ (by rfl) _ _ _ (by rfl) (hV d c).heap.size 157 j1 _ 1 16 underlying99 i1 i8 i9 g1 j0 (by omega) (.slice ad a.length S) a.length (iO a l) (by rfl) (i5 _) ⟨g.heap.size,0,none⟩ 1 1 [.iface (cD h) (.pointer (some ⟨a9,0,none⟩))] (by rfl) (by rfl) (World.news_of_block (cs:=#[.iface (cD h) (.pointer (some ⟨a9,0,none⟩))]) (t:=157) (fr:=(0,0)) (heap_alloc_new g _)) (by simp[Value.oneCell']) (by omega) i3 o (by simp;omega) (g.heap.size+1) (by simp) ?_;intro e4 k1 l6 i6 i0 h8 f5))
    have h3:=Z (Ft m.b a8.b d2.b g8.b ((Below.refl g.heap.size g).alloc (Y4 _) _) i6 i0 (by simpa using h8) f5);have g4:U (eb d 69 [] eN=eb d (69-(a++[h]).length) (a++[h]) { a3 with g:=cL a3.g (bA h).1 h }):=by
     have C:=g3.b;rw[show 68-a.length=69-(a++[h]).length by simp]at C;exact C
    exact⟨⟨a++[h],l++[a9],n++e3,e4::u,_,h2,h3,g4⟩,by simp[uP];omega⟩
end
def Ep(a:Nat)(b:World):Calls prog 43 #[.iface 143 (.pointer (some ⟨a,0,none⟩))] b λc d=>c=.returned (.iface 143 (.pointer (some ⟨a,0,none⟩)))/\d=b:=by
 have f:=mw 143 a 20 143 λe=>by kernel_rfl
 go_in;go_wp2;go_ret;exact⟨rfl,rfl⟩
def Jj(a:Nat):List UInt8:=
 if((a:Int)==0)then [105,110,116]else if((a:Int)==1)then [117,110,115,105,103,110,101,100]else if((a:Int)==2)then [104,121,112,101,114]else if((a:Int)==3)then [117,110,115,105,103,110,101,100,32,104,121,112,101,114]else [98,111,111,108]
def ib:Ty->List UInt8
 |.named b _=>b
 |.plain a=>Jj a
 |_=>[118,111,105,100]
section
variable {a d:List (Nat×Obj)}{c b:Type}
structure df where
 g4:Int
 g1:Int
 id:Option (List Int)
 b1:Bool
inductive dg where
 |hole
 |call (dest:Nat)
 |ret
 |fin
 |jump (dest:Nat)
 |num (n:df)
 |text (n:Int) (f:Bool)
 |struct (n:Int) (f:Bool)
 |array (n:Int) (f:Bool) (dest:Nat)
 |again
 |choice (n:df) (ways:List (Int×Nat×Nat)) (other:Option (Nat×Nat))
def bE[DecidableEq b](d:List (b×c))(a:b)(v:c):List (b×c):=if a∈d.map (·.1)then d.map λe=>if e.1=a then (a,v)else e else d++[(a,v)]
def Lg[DecidableEq b](a:List (b×c))(d:b)(v:c):(bE a d v).map (·.1)=if d∈a.map (·.1)then a.map (·.1)else a.map (·.1)++[d]:=by
 unfold bE;split
 .rw[List.map_map];apply List.map_congr_left;intro f _;simp only[Function.comp];split
  .rename_i e;exact e.symm
  .rfl
 .simp
def pQ[DecidableEq b]{e:List (b×c)}(a:(e.map (·.1)).Nodup)(i:b)(v:c):((bE e i v).map (·.1)).Nodup:=by
 rw[Lg];split
 .exact a
 .rename_i h;rw[YJ];refine⟨a,by simp,?_⟩;intro j g k d f;simp at d;subst d;subst f;exact h g
structure aT where
 q:List dg
 cx:List (List UInt8×Nat)
 ds:List (List UInt8×df)
 aw:List (Nat×List UInt8)
def be(b:dg)(a:aT):aT:={ a with q:=a.q++[b] }
def dB(b:Nat)(c:dg)(a:aT):aT:={ a with q:=a.q.set b c }
def lV(b:List UInt8)(a:aT):aT:={ a with q:=a.q++[.call 0],aw:=a.aw++[(a.q.length,b)] }
def yL(a:List UInt8)(b:aT):aT:=be .fin (lV a b)
def ef(a:Nat):df:=if a=0 then ⟨-2147483648,2147483647,none,false⟩else if a=1 then ⟨0,4294967295,none,false⟩else if a=4 then ⟨0,1,none,false⟩else ⟨-9223372036854775808,9223372036854775807,none,true⟩
def iG:Ty->Prop
 |.arr _ _ _=>False
 |.opt _=>False
 |_=>True
def gy:Ty->Prop
 |.arr a _ _=>iG a
 |.opt a=>iG a
 |_=>True
def dr:Ty->aT->aT
 |.named f _,a=>lV f a
 |.plain e,a=>be (.num (ef e)) a
 |.opaq c b,a=>be (.text c b) a
 |.str c b,a=>be (.text c b) a
 |.arr d c b,a=>dB a.q.length (.array c b ((dr d (be .hole a)).q.length+1)) (be .again (dr d (be .hole a)))
 |.opt d,a=>dB a.q.length (.choice (ef 4) [(0,(dr d (be .hole a)).q.length,0),(1,a.q.length+1,1)] none) (dr d (be .hole a))
 |.void,a=>a
def wo:df:=⟨0,0,none,false⟩
def nB(b:aT):Ty->df
 |.named c _=>(ay b.ds c).getD wo
 |.plain a=>ef a
 |_=>wo
def tc:Ty->Bool
 |.void=>true
 |_=>false
def fa(a:aF)(b:aT):Nat×Nat:=(b.q.length,if tc a.k then 0 else 1)
def ku(a:aF)(b:aT):aT:=dr a.k b
def jV(a:List (List UInt8×Nat×Int)):df:=⟨-2147483648,2147483647,if a=[]then none else some (a.map (·.2.2)),false⟩
def yW(b:List aF)(a:aT):aT:=b.foldl (λa c=>dr c.k a) (be (.struct b.length true) a)
structure mI where
 s:aT
 cO:List (Int×Nat×Nat)
 e5:Option (Nat×Nat)
 b0:List Nat
def fl(q:mI)(a:List Int×aF):mI:=
 { s:=be (.jump 0) (ku a.2 q.s),cO:=a.1.foldl (λb c=>bE b c (fa a.2 q.s)) q.cO,e5:=if a.1=[]then some (fa a.2 q.s)else q.e5,b0:=q.b0++[(ku a.2 q.s).q.length] }
def hR(c:List Nat)(a:aT):aT:=c.foldl (λa b=>dB b (.jump a.q.length) a) a
def tS(d:aF)(c:List (List Int×aF))(b:aT):aT:=
 let a:=c.foldl fl ⟨be .hole b,[],none,[]⟩
 hR a.b0 (dB b.q.length (.choice (nB b d.k) a.cO a.e5) a.s)
def qV(c:List UInt8)(b:Nat)(a:aT):aT:={ be .ret a with cx:=bE a.cx c b }
def jQ(c:ao)(a:aT):aT:=match c with
 |.typedef c=>qV c.t a.q.length (dr c.k a)
 |.enum b _ d=>qV b a.q.length (be (.num (jV d)) { a with ds:=bE a.ds b (jV d) })
 |.struct b _ d=>qV b a.q.length (yW d a)
 |.union b _ f e=>qV b a.q.length (tS f e a)
 |_=>a
def rA(a:aT):aT:=a.aw.foldl (λa b=>dB b.1 (.call ((ay a.cx b.2).getD 0)) a) a
def lE:aT:=⟨[],[],[],[]⟩
def ek(p:aT×List (List UInt8×Nat))(a:ao):aT×List (List UInt8×Nat):=
 if(ay p.1.cx (bA a).1).isSome then (yL (bA a).1 p.1,bE p.2 (bA a).1 p.1.q.length)else p
def nD(b:Ty)(a:aT):aT:=be .fin (dr b a)
def cI(a:Int):Int:=a % 4294967296
def iz(b:aT×List (Int×Nat×Nat))(a:es):aT×List (Int×Nat×Nat):=
 (nD a.cc (nD a.b3 b.1),bE b.2 (cI a.num) (b.1.q.length,(nD a.b3 b.1).q.length))
def oO(v:eH)(a:aT):aT×List (Int×Nat×Nat):=v.u.foldl iz (a,[])
structure jj where
 lo:Int
 hi:Int
 vs:List (Int×List (Int×Nat×Nat))
def kN(a:aT×jj)(v:eH):aT×jj:=
 ((oO v a.1).1,⟨min a.2.lo (cI v.num),max a.2.hi (cI v.num),bE a.2.vs (cI v.num) (oO v a.1).2⟩)
def qc(a:List eH)(b:aT):aT×jj:=
 a.foldl kN (b,⟨(a.head?.map λv=>cI v.num).getD 0,(a.head?.map λv=>cI v.num).getD 0,[]⟩)
def gI(q:aT×List (Int×jj))(b:ao):aT×List (Int×jj):=match b with
 |.prog _ _ a c=>((qc a q.1).1,bE q.2 (cI c) (qc a q.1).2)
 |_=>q
def Dl(a:List ao):aT×List (List UInt8×Nat):=a.foldl ek (a.foldl (λc b=>jQ b c) lE,[])
def yv(a:List ao):aT×List (Int×jj):=a.foldl gI ((Dl a).1,[])
def wk(a:List ao):List dg×List (List UInt8×Nat):=((rA (yv a).1).q,(Dl a).2)
def kE(a:List (Value×Value)):Obj:=.map (a.mapIdx λc b=>⟨b.1,b.2,c⟩).toArray a.length
abbrev ru(a:Nat):Value:=.int .i64 a
def jB(b:List (Int×Nat×Nat)):Obj:=kE (b.map λa=>(.int .i64 a.1,.agg #[.int .i64 a.2.1,.int .i64 a.2.2]))
def jv(b:List (List UInt8×Nat)):Obj:=kE (b.map λa=>(.string ⟨a.1.toArray⟩,.int .i64 a.2))
def wx(a:List (Nat×Obj))(v:Value):Option (List Int)->Prop
 |none=>v=.slice none 0 0
 |some b=>b≠[]/\fv a 2 v b.length (b.map λc=>Value.int .i64 c)
def iI(a:List (Nat×Obj))(g:List Value)(b:df):Prop:=∃c,g=[.int .i64 b.g4,.int .i64 b.g1,c,.bool b.b1]/\wx a c b.id/\∃d e f,c=.slice d e f
def sq(a:List (Nat×Obj))(v:Value):Option (Nat×Nat)->Prop
 |none=>v=.pointer none
 |some c=>∃b,v=.pointer (some ⟨b,0,none⟩)/\(b,Obj.cells #[.int .i64 c.1,.int .i64 c.2] 394)∈a
def jl(a:List (Nat×Obj))(v:Value):dg->Prop
 |.hole=>∃h k,v=.iface h k
 |.call d=>v=.iface 271 (.agg #[.int .i64 d])
 |.ret=>v=.iface 257 (.agg #[])
 |.fin=>v=.iface 397 (.agg #[])
 |.jump d=>v=.iface 396 (.agg #[.int .i64 d])
 |.num b=>∃c,v=.iface 247 (.agg c.toArray)/\iI a c b
 |.text b e=>v=.iface 379 (.agg #[.int .i64 b,.bool e])
 |.struct b e=>v=.iface 387 (.agg #[.int .i64 b,.bool e])
 |.array b e d=>v=.iface 449 (.agg #[.int .i64 b,.bool e,.int .i64 d])
 |.again=>v=.iface 450 (.agg #[])
 |.choice b j i=>∃c f g,v=.iface 392 (.agg (c++[.map (some f),g]).toArray)/\iI a c b/\(f,jB j)∈a/\sq a g i
def fv.L(n:∀o∈a,o∈d){c:TypeId}{v:Value}{e:Nat}{f:List Value}(b:fv a c v e f):fv d c v e f:=by
 rcases b with b|⟨i,g,h,j,k,l,m⟩
 .exact Y8 b
 .exact Ya ⟨i,g,h,j,k,n _ l,m⟩
def iI.L(j:∀l∈a,l∈d){e:List Value}{c:df}(g:iI a e c):iI d e c:=by
 obtain⟨k,h,b,i⟩:=g;refine⟨k,h,?_,i⟩;cases f:c.id with
 |none=>rw[f]at b;exact b
 |some m=>rw[f]at b;exact⟨b.1,b.2.L j⟩
def jl.L(b:∀r∈a,r∈d){v:Value}{h:dg}(e:jl a v h):jl d v h:=by
 cases h with
 |num o=>obtain⟨c,f,g⟩:=e;exact⟨c,f,g.L b⟩
 |choice o t p=>
  obtain⟨c,n,q,f,g,k,i⟩:=e;refine⟨c,n,q,f,g.L b,b _ k,?_⟩;cases p with
  |none=>exact i
  |some s=>obtain⟨j,l,m⟩:=i;exact⟨j,l,b _ m⟩
 |_=>exact e
def jl.nd{v:Value}{x:dg}(b:jl a v x):∃d g,v=.iface d g:=by
 cases x with
 |hole=>exact b
 |num f=>obtain⟨e,c,_⟩:=b;exact⟨_,_,c⟩
 |choice f k i=>obtain⟨e,h,j,c,_⟩:=b;exact⟨_,_,c⟩
 |_=>exact⟨_,_,b⟩
end
end Go.Proofs.YtjdhaegijjednaaGreatDoor
namespace Go.Proofs.YtjdhaegijjednaaGreatDoor
open Go.Proofs.Tryz
def hu(b:List ao):aT:=b.foldl (λs a=>jQ a s) lE
def GA(b:List ao)(a:ao):hu (b++[a])=jQ a (hu b):=by simp[hu]
def hJ(s:aT):Prop:=∀a∈s.aw,a.1<s.q.length
variable {s : aT}
def jn(a:hJ s)(d:dg):hJ (be d s):=λc b=>by
 have:=a c b;simp[be];omega
def ux(a:hJ s)(c:Nat)(e:dg):hJ (dB c e s):=λd b=>by
 simp only[dB,YF];exact a d b
def Ae(b:hJ s)(d:List UInt8):hJ (lV d s):=λc a=>by
 simp only[lV,Yn,Yc,Yq,YC,List.length_nil]at a ⊢;rcases a with a|rfl
 .have:=b c a;omega
 .simp
def sH:∀(c:Ty) (s:aT),hJ s->hJ (dr c s):=by
 intro c;induction c with
 |plain h=>intro s a;exact jn a _
 |named i g=>intro s a;exact Ae a _
 |opaq e d=>intro s a;exact jn a _
 |str e d=>intro s a;exact jn a _
 |arr f e d b=>intro s a;exact ux (jn (b _ (jn a _)) _) _ _
 |opt f b=>intro s a;exact ux (b _ (jn a _)) _ _
 |void=>intro s a;exact a
def oc{h d:Type}(b:d->aT)(g:d->h->d)(i:∀a e,hJ (b a)->hJ (b (g a e))):∀(c:List h) (a:d),hJ (b a)->hJ (b (c.foldl g a)):=by
 intro c;induction c with
 |nil=>intro a f;exact f
 |cons e c j=>intro a f;exact j _ (i a e f)
def Gc(h:ao)(s:aT)(b:hJ s):hJ (jQ h s):=by
 have f:∀{m:aT} (l:List UInt8) (a:Nat),hJ m->hJ (qV l a m):=λl a p=>jn p .ret;cases h with
 |const a c o=>exact b
 |prog a c o g=>exact b
 |typedef h=>exact f _ _ (sH _ _ b)
 |enum j a i=>exact f _ _ (jn (s:={ s with ds:=bE s.ds j (jV i) }) b _)
 |struct j a i=>exact f _ _ (oc (λk=>k) (λs (e:aF)=>dr e.k s) (λc (e:aF) d=>sH e.k c d) i _ (jn b _))
 |union j a q n=>exact f _ _ (oc (λk=>k) (λs (g:Nat)=>dB g (.jump s.q.length) s) (λc g d=>ux d g _) _ _ (ux (oc mI.s fl (λc e d=>jn (sH e.2.k _ d) _) n _ (jn b _)) _ _))
def MV{ds:List ao}:hJ (yv ds).1:=by
 refine oc Prod.fst gI (λc b a=>?_) ds _ (oc Prod.fst ek (λc b a=>?_) ds _ (oc (λf=>f) (λs (b:ao)=>jQ b s) (λc b a=>Gc b c a) ds _ (λi d=>by simp[lE]at d)))
 .cases b with
  |prog g h e j=>exact oc Prod.fst kN (λc v a=>oc Prod.fst iz (λc k a=>jn (sH _ _ (jn (sH _ _ a) _)) _) v.u _ a) e _ a
  |_=>exact a
 .unfold ek;split
  .exact jn (Ae a _) _
  .exact a
end Go.Proofs.YtjdhaegijjednaaGreatDoor
namespace Go.Proofs.YtjdhaegijjednaaGreatDoor
open Go.RowKit
open Go.MapKept
open Go.Proofs.Tryz
section
variable {i k j:TypeId}{h:TypeDesc}{e d:Type}
section
variable {f : Program} {w : World}
def OM(A:f.underlying i=some (.map j k))(q:f.underlying j=some h){a:Value}(r:IsKey h a)(z:Instr.keyThatStays a a=pure a){l:Nat}{c:Array MapEntry}{m:Nat}
  (p:w.heap[l]? = some (.map c m)) (u:∀e∈c.toList,IsKey h e.key) (x:∃e∈c.toList,e.key=a) (v:Value) :
  ∃(d:Nat) (b:MapEntry),c.toList[d]? = some b/\b.key=a/\
   (Instr.mapUpdate i (.map (some l)) a v).run f w=.ok () (dm w l (.map (c.modify d λb=>{ b with key:=a,val:=v }) m)):=by
 have t:=λs=>MapKept.run_checkKey (w:=w) q r s 9999;rcases findNow_spec r c.toList 0 u with⟨n,g⟩|⟨d,b,n,g,o⟩
 .obtain⟨e,B,C⟩:=x;exact absurd C (g e B)
 .refine⟨d,b,g,o,?_⟩;have y:c[d]? = some b:=by simpa using g
  simp[Instr.mapUpdate,Instr.findKey,run_underlying A,run_underlying q,MapKept.run_getObj_map p,t,n,y,o,z,MapKept.run_setObj_map _ p,Result.andThen]
def yM(a:ByteArray):Instr.keyThatStays (.string a) (.string a)=pure (.string a):=by
 unfold Instr.keyThatStays;rw[Y9 (by show (a==a)=true;exact(MapKept.bytes_beq a a).2 rfl)]
def PA(a:Int):Instr.keyThatStays (.int .i64 a) (.int .i64 a)=pure (.int .i64 a):=by
 unfold Instr.keyThatStays;rw[Y9 (by show ((IntKind.i64==IntKind.i64)&&(a==a))=true;simp)]
def pN[DecidableEq d](L:f.underlying i=some (.map j k))(J:f.underlying j=some h)(l:d->Value)(m:e->Value)(A:∀c,IsKey h (l c))(N:∀c,Instr.keyThatStays (l c) (l c)=pure (l c))(H:∀s F,l s=l F->s=F)
  {p:Nat} {a:List (d×e)} (I:w.heap[p]? = some (kE (a.map λg=>(l g.1,m g.2)))) (M:(a.map (·.1)).Nodup) (c:d) (v:e) :
  (Instr.mapUpdate i (.map (some p)) (l c) (m v)).run f w=.ok () (dm w p (kE ((bE a c v).map λg=>(l g.1,m g.2)))):=by
 have K:∀E∈((a.map λg=>(l g.1,m g.2)).mapIdx λb g=>(⟨g.1,g.2,b⟩:MapEntry)).toArray.toList,IsKey h E.key:=by
  intro E r;simp only[List.toList_toArray]at r;obtain⟨b,o,rfl⟩:=List.mem_mapIdx.1 r;simp only[List.getElem_map];exact A _
 by_cases t:c∈a.map (·.1)
 .obtain⟨g,a0,x⟩:=YE.1 t;obtain⟨b,o,rfl⟩:=List.getElem_of_mem a0;obtain⟨y,q,n,G,C⟩:=OM L J (A c) (N c) I K ⟨⟨l a[b].1,m a[b].2,b⟩,by
    simp only[List.toList_toArray];rw[List.mem_mapIdx];exact⟨b,by simpa using o,by simp⟩,by simp[x]⟩ (m v)
  rw[C];simp only[List.toList_toArray,List.getElem?_mapIdx]at n;have u:y<a.length:=by
   by_cases u:y<a.length
   .exact u
   .rw[YA (by simp;omega)]at n;cases n
  rw[Yd (by simpa using u)]at n;simp at n;subst n;simp only at G;have O:b=y:=by
   have a1:(a.map (·.1))[b]'(by simpa using o)=(a.map (·.1))[y]'(by simpa using u):=by simp[x,H _ _ G]
   exact ts M _ _ _ _ a1
  subst O;refine Yo (λD=>Result.ok () (dm w p D)) ?_;unfold kE bE;rw[Y9 t];simp only[YU];refine Yo (λs=>Obj.map s _) ?_;apply Array.ext';simp only[Array.toList_modify];apply List.ext_getElem
  .simp
  .intro z a2 R;have P:z<a.length:=by simp at R;omega
   by_cases B:b=z
   .subst B;simp[List.getElem_modify,x]
   .have S:¬a[z].1=c:=λq=>B (ts M b z (by simpa using o) (by simpa using P) (by simp[x,q]));simp[List.getElem_modify,B,S]
 .have C:=vE L J (A c) I K (by
   intro E r q;simp only[List.toList_toArray]at r;obtain⟨b,o,rfl⟩:=List.mem_mapIdx.1 r;simp only[List.getElem_map]at q;exact t (YE.2 ⟨a[b]'(by simpa using o),Yy _,H _ _ q⟩)) (m v)
  rw[C];refine Yo (λD=>Result.ok () (dm w p D)) ?_;unfold kE bE;rw[Y2 t];simp[List.mapIdx_append]
def fP[DecidableEq d](b:List (d×e))(a:d):Option e:=(b.find? λc=>c.1==a).map (·.2)
def Ks[DecidableEq d]{c:List (d×e)}{b:d}(f:∀a∈c,a.1≠b):fP c b=none:=by
 unfold fP;rw[List.find?_eq_none.2 (λa g=>by simp[f a g])];rfl
def Kt[DecidableEq d]{b:List (d×e)}{f:d}(c:(b.map (·.1)).Nodup){g:d×e}(a:g∈b)(h:g.1=f):fP b f=some g.2:=by
 induction b with
 |nil=>cases a
 |cons l m k=>
  unfold fP;simp only[List.map_cons,List.nodup_cons]at c;rcases Yg.1 a with rfl|a
  .simp[h]
  .have j:l.1≠f:=λi=>c.1 (by rw[i,<-h];exact List.mem_map_of_mem a);have:=k c.2 a;unfold fP at this;simp only[List.find?_cons,Yi.2 j];exact this
def Bt(a:List (List UInt8×e))(b:List UInt8):ay a b=fP a b:=by
 unfold ay fP;refine Yo (λc=>Option.map _ (List.find? c a)) ?_;funext d;rw[Bool.eq_iff_iff];simp only[beq_iff_eq]
def xN[DecidableEq d](J:f.underlying i=some (.map j k))(G:f.underlying j=some h)(g:d->Value)(m:e->Value)(y:∀n,IsKey h (g n))(E:∀s t,g s=g t->s=t)
  {r:Nat} {c:List (d×e)} (F:w.heap[r]? = some (kE (c.map λa=>(g a.1,m a.2)))) (L:(c.map (·.1)).Nodup) {z:Value} (K:(zeroValue k).run f w=.ok z w) (n:d) (o:Bool) :
  (Instr.lookup i (.map (some r)) (g n) o).run f w=.ok (match fP c n with
   |some v=>if o then .tuple #[m v,.bool true]else m v
   |none=>if o then .tuple #[z,.bool false]else z) w:=by
 have H:∀D∈((c.map λa=>(g a.1,m a.2)).mapIdx λl a=>(⟨a.1,a.2,l⟩:MapEntry)).toArray.toList,IsKey h D.key:=by
  intro D B;simp only[List.toList_toArray]at B;obtain⟨l,A,rfl⟩:=List.mem_mapIdx.1 B;simp only[List.getElem_map];exact y _
 rcases tg J G (y n) F H K o with⟨b,p⟩|⟨C,u,b,p,x⟩
 .rw[Ks (λa I u=>?_),p];obtain⟨l,A,rfl⟩:=List.getElem_of_mem I;refine b ⟨g c[l].1,m c[l].2,l⟩ ?_ (by simp[u]);simp only[List.toList_toArray];rw[List.mem_mapIdx];exact⟨l,by simpa using A,by simp⟩
 .simp only[List.toList_toArray,List.getElem?_mapIdx]at b;have q:C<c.length:=by
   by_cases q:C<c.length
   .exact q
   .rw[YA (by simp;omega)]at b;cases b
  rw[Yd (by simpa using q)]at b;simp at b;subst b;simp only at p x;rw[Kt L (Yy q) (E _ _ p),x]
end
def rW(a b:List UInt8)(c:(Value.string ⟨a.toArray⟩)=.string ⟨b.toArray⟩):a=b:=by
 simpa using c
def Ja(a b:Int)(c:(Value.int .i64 a)=.int .i64 b):a=b:=by
 simpa using c
structure dD(w:World)(b:List Nat)(Fr c:List (Nat×Obj))(a:World):Prop where
 B:ai [] w a
 E:∀y∈b,w.heap.size<=y
 K:∀y∈b,y<a.heap.size
 H:b.Nodup
 hf:bm b Fr a
 hb:bm b c a
 d8:(Fr.map (·.1)).Nodup
 e8:∀p∈Fr,w.heap.size<=p.1
 e9:∀p∈Fr,∀q∈c,p.1≠q.1
section
variable {w a g : World} {b : List Nat} {Fr c : List (Nat × Obj)}
def dD.a4{i:List Nat}(d:dD w b Fr c a)(e:ai i a g)(h:∀f∈i,f∈b):dD w b Fr c g:=
 ⟨d.B.ba e (λf j=>Ya (d.E f (h f j))),d.E,λl k=>Yr (d.K l k) e.F,d.H,d.hf.h e h,d.hb.h e h,d.d8,d.e8,d.e9⟩
def dD.t(d:dD w b Fr c a)(e:Below a.heap.size a g):dD w b Fr c g:=d.a4 (br [] e) (by simp)
def wz{A B:List Nat}{r:Option Nat}{i:Nat}(e:dD w (A++(r.toList++B)) Fr c a)(E:a.grownBy g r)(u:r=some i\/i=a.heap.size)(G:i<g.heap.size)(H:w.heap.size<=i):dD w (A++([i]++B)) Fr c g:=by
 have F:=eJ E;have m:=e.a4 F (λK k=>Ym _ (Yf _ k));have t:∀d∈A++([i]++B),d=i\/d∈A++(r.toList++B):=by
  intro d b;simp only[Yn,Yc]at b ⊢;rcases b with b|rfl|b
  .exact Ya (Y8 b)
  .exact Y8 rfl
  .exact Ya (Ya (Ya b))
 have x:∀q:List (Nat×Obj),bm (A++(r.toList++B)) q a->∀f∈q,f.1 ∉ A++([i]++B):=by
  intro q s f h k;rcases t _ k with l|k
  .rcases u with y|y
   .exact(s f h).2 (by rw[l,y];simp)
   .have:=aj (s f h).1;omega
  .exact(s f h).2 k
 refine⟨m.B,?_,?_,?_,λf h=>⟨(m.hf f h).1,x _ e.hf f h⟩,λf h=>⟨(m.hb f h).1,x _ e.hb f h⟩,e.d8,e.e8,e.e9⟩
 .intro d b;rcases t d b with rfl|b
  .exact H
  .exact e.E d b
 .intro d b;rcases t d b with rfl|b
  .exact G
  .exact m.K d b
 .rcases u with rfl|rfl
  .exact e.H
  .have C:∀d∈A,d<a.heap.size:=λd b=>e.K d (Yf _ b);have D:∀d∈B,d<a.heap.size:=λd b=>e.K d (Ym _ (Ym _ b));have v:=e.H;rw[YJ]at v ⊢;obtain⟨I,z,J⟩:=v;rw[YJ]at z;refine⟨I,?_,?_⟩
   .rw[YJ];refine⟨by simp,z.2.1,?_⟩;intro o n p j l;simp at n;have:=D p j;omega
   .intro o n p j l;rcases Yn.1 j with j|j
    .simp at j;have:=C o n;omega
    .exact J o n p (Ym _ j) l
def dD.d(e:dD w b Fr c a)(i:Obj):dD w b ((a.heap.size,i)::Fr) c (a.alloc i):=by
 have g:=e.a4 ((ah [] a).d i) (by simp);refine⟨g.B,e.E,g.K,e.H,?_,g.hb,?_,?_,?_⟩
 .intro f d;rcases Yg.1 d with rfl|d
  .exact⟨aJ rfl,λh=>by have:=e.K _ h;simp at this⟩
  .exact g.hf f d
 .simp only[List.map_cons,List.nodup_cons];refine⟨?_,e.d8⟩;intro h;obtain⟨f,d,l⟩:=YE.1 h;have:=aj (e.hf f d).1;omega
 .intro f d;rcases Yg.1 d with rfl|d
  .exact e.B.F
  .exact e.e8 f d
 .intro f d k j;rcases Yg.1 d with rfl|d
  .have:=aj (e.hb k j).1;simp only;omega
  .exact e.e9 f d k j
def dD.e6{f:Nat}{o r:Obj}(d:dD w b ((f,o)::Fr) c a)(l:ai [f] a g)(t:g.heap[f]? = some r):dD w b ((f,r)::Fr) c g:=by
 have p:w.heap.size<=f:=d.e8 (f,o) (by simp);have q:=d.d8;simp only[List.map_cons,List.nodup_cons]at q;have s:f ∉ b:=(d.hf (f,o) (by simp)).2;refine⟨d.B.ba l (by simpa using p),d.E,λv u=>Yr (d.K v u) l.F,d.H,?_,?_,d.d8,?_,?_⟩
 .intro j e;rcases Yg.1 e with rfl|e
  .exact⟨t,s⟩
  .obtain⟨h,n⟩:=d.hf j (Y5 _ e);exact⟨(l.i _ (aj h) (by simp;exact λm=>q.1 (m▸List.mem_map_of_mem e))).trans h,n⟩
 .intro k i;obtain⟨h,n⟩:=d.hb k i;exact⟨(l.i _ (aj h) (by simp;exact λm=>d.e9 (f,o) (by simp) k i m.symm)).trans h,n⟩
 .intro j e;rcases Yg.1 e with rfl|e
  .exact p
  .exact d.e8 j (Y5 _ e)
 .intro j e k i;rcases Yg.1 e with rfl|e
  .exact d.e9 (f,o) (by simp) k i
  .exact d.e9 j (Y5 _ e) k i
def dD.gO{j:Nat}{k:Obj}(d:dD w b ((j,k)::Fr) c a):dD w b Fr ((j,k)::c) a:=by
 have g:=d.d8;simp only[List.map_cons,List.nodup_cons]at g;refine⟨d.B,d.E,d.K,d.H,λf e=>d.hf f (Y5 _ e),?_,g.2,λf e=>d.e8 f (Y5 _ e),?_⟩
 .intro f e;rcases Yg.1 e with rfl|e
  .exact d.hf _ (by simp)
  .exact d.hb f e
 .intro f e l h;rcases Yg.1 h with rfl|h
  .intro i;simp only at i;exact g.1 (by rw[<-i];exact List.mem_map_of_mem e)
  .exact d.e9 f (Y5 _ e) l h
def dD.a9{Fr':List (Nat×Obj)}(e:dD w b Fr c a)(g:∀d∈Fr',d∈Fr)(h:(Fr'.map (·.1)).Nodup):dD w b Fr' c a:=
 ⟨e.B,e.E,e.K,e.H,λd f=>e.hf d (g d f),e.hb,h,λd f=>e.e8 d (g d f),λd f=>e.e9 d (g d f)⟩
def dD.cg{f:Nat×Obj}(d:dD w b (f::Fr) c a):dD w b Fr c a:=d.a9 (λ_ e=>Y5 _ e) (List.nodup_cons.1 d.d8).2
end
end
def xX{e d h:Type}[DecidableEq e](b:d->h)(c:List (e×d))(f:e)(v:d):(bE c f v).map (λa=>(a.1,b a.2))=bE (c.map λa=>(a.1,b a.2)) f (b v):=by
 have g:(c.map λa=>(a.1,b a.2)).map (·.1)=c.map (·.1):=by rw[List.map_map];rfl
 unfold bE;rw[g];split
 .rw[List.map_map,List.map_map];apply List.map_congr_left;intro a _;simp only[Function.comp];split<;>rfl
 .simp
def xY{b d:Type}[DecidableEq b]{f:List (b×d)}{e:b}{v:d}{c:b×d}(a:c∈bE f e v):c∈f\/c=(e,v):=by
 unfold bE at a;split at a
 .obtain⟨h,g,rfl⟩:=YE.1 a;split
  .exact Ya rfl
  .exact Y8 g
 .rcases Yn.1 a with a|a
  .exact Y8 a
  .exact Ya (by simpa using a)
def Kq{c g:Type}[DecidableEq c]{f:List (c×g)}{e:c}{v:g}(b:fP f e=some v):∃a∈f,a.1=e/\a.2=v:=by
 unfold fP at b;rw[Option.map_eq_some_iff]at b;obtain⟨a,d,rfl⟩:=b;exact⟨a,List.mem_of_find?_eq_some d,by simpa using List.find?_some d,rfl⟩
structure eS where
 C:Nat
 B:Nat
 E:Nat
def fp(a:eS)(f e:Value):List Nat:=[a.C,a.B,a.E]++(f.ownBlock.toList++e.ownBlock.toList)
abbrev kY(a:Nat×List UInt8):List Value:=[.int .i64 a.1,.string ⟨a.2.toArray⟩]
def ug(h:List (Nat×Obj))(v:Value)(b:df):Prop:=∃a,v=.agg a.toArray/\iI h a b
structure Cp(w:World)(a:eS)(Fr h:List (Nat×Obj))(b:aT)(f e:Value)(j:List (dg×Value))(et:List (List UInt8×df×Value))(c:World):Prop where
 G:dD w (fp a f e) Fr h c
 I:c.heap[a.C]? = some (.cells #[f,.map (some a.B),.map (some a.E),e] 167)
 d6:c.heap[a.B]? = some (jv b.cx)
 gA:(b.cx.map (·.1)).Nodup
 d0:c.heap[a.E]? = some (kE (et.map λp=>(.string ⟨p.1.toArray⟩,p.2.2)))
 f8:(et.map (·.1)).Nodup
 he:b.ds=et.map λp=>(p.1,p.2.1)
 hg:∀p∈et,ug h p.2.2 p.2.1
 row:c.ownsRow w.heap.size 273 1 f b.q.length (j.map (·.2))
 gC:b.q=j.map (·.1)
 g6:∀p∈j,jl h p.2 p.1
 g2:c.ownsRow w.heap.size 269 2 e b.aw.length (b.aw.flatMap kY)
def cK(w:World)(a:eS)(Fr h:List (Nat×Obj))(b:aT)(c:World):Prop:=∃d f e j et,(∀g∈h,g∈d)/\Cp w a Fr d b f e j et c
section
variable {w c l : World} {a : eS} {Fr h : List (Nat × Obj)} {b : aT} {f e : Value} {j : List (dg × Value)} {et : List (List UInt8 × df × Value)}
def Cp.b8(d:Cp w a Fr h b f e j et c):cK w a Fr h b c:=⟨h,f,e,j,et,λ_ g=>g,d⟩
def Mi(a:eS)(f e:Value):a.C∈fp a f e/\a.B∈fp a f e/\a.E∈fp a f e/\(∀b,f.ownBlock=some b->b∈fp a f e)/\(∀b,e.ownBlock=some b->b∈fp a f e):=by
 unfold fp;refine⟨by simp,by simp,by simp,?_,?_⟩<;>(intro b c;simp[c])
def Cp.hc(n:Cp w a Fr h b f e j et c):a.C≠a.B/\a.C≠a.E/\a.B≠a.E/\(∀d,f.ownBlock=some d->d≠a.C/\d≠a.B/\d≠a.E)/\(∀d,e.ownBlock=some d->d≠a.C/\d≠a.B/\d≠a.E/\f.ownBlock≠some d):=by
 have m:=n.G.H;unfold fp at m;rw[YJ,YJ]at m;obtain⟨l,⟨p,q,o⟩,k⟩:=m;simp only[List.nodup_cons,Yg,List.not_mem_nil,not_or,or_false]at l;refine⟨l.1.1,l.1.2,l.2.1,?_,?_⟩
 .intro d i;refine⟨λg=>k a.C (by simp) d (by simp[i]) g.symm,λg=>k a.B (by simp) d (by simp[i]) g.symm,λg=>k a.E (by simp) d (by simp[i]) g.symm⟩
 .intro d i;refine⟨λg=>k a.C (by simp) d (by simp[i]) g.symm,λg=>k a.B (by simp) d (by simp[i]) g.symm,λg=>k a.E (by simp) d (by simp[i]) g.symm,λg=>o d (by simp[g]) d (by simp[i]) rfl⟩
def Cp.f6{s:List Nat}{r n:List (Nat×Obj)}(d:Cp w a Fr h b f e j et c)(k:ai s c l)(i:∀z∈s,z ∉ fp a f e)(t:∀m∈h,m∈n)(y:dD w (fp a f e) r n l):Cp w a r n b f e j et l:=by
 obtain⟨A,B,C,D,E⟩:=Mi a f e;refine⟨y,(k.i _ (aj d.I) (λg=>i _ g A)).trans d.I,(k.i _ (aj d.d6) (λg=>i _ g B)).trans d.d6,d.gA,(k.i _ (aj d.d0) (λg=>i _ g C)).trans d.d0,d.f8,d.he,
  λm q=>?_,aX d.row k (λo p g=>i _ g (D o p)),d.gC,λm q=>(d.g6 m q).L t,aX d.g2 k (λo p g=>i _ g (E o p))⟩
 obtain⟨u,v,x⟩:=d.hg m q;exact⟨u,v,x.L t⟩
def Cp.t(d:Cp w a Fr h b f e j et c)(g:Below c.heap.size c l):Cp w a Fr h b f e j et l:=d.f6 (br [] g) (by simp) (λ_ i=>i) (d.G.t g)
def Cp.d(g:Cp w a Fr h b f e j et c)(d:Obj):Cp w a ((c.heap.size,d)::Fr) h b f e j et (c.alloc d):=g.f6 ((ah [] c).d d) (by simp) (λ_ i=>i) (g.G.d d)
def Cp.e6{d:Nat}{o k:Obj}(g:Cp w a ((d,o)::Fr) h b f e j et c)(i:ai [d] c l)(m:l.heap[d]? = some k):Cp w a ((d,k)::Fr) h b f e j et l:=
 g.f6 i (by simpa using (g.G.hf (d,o) (by simp)).2) (λ_ n=>n) (g.G.e6 i m)
def Cp.gO{g:Nat}{i:Obj}(d:Cp w a ((g,i)::Fr) h b f e j et c):Cp w a Fr ((g,i)::h) b f e j et c:=d.f6 (ah [] c) (by simp) (λ_ k=>Y5 _ k) d.G.gO
def Cp.cg{i:Nat×Obj}(d:Cp w a (i::Fr) h b f e j et c):Cp w a Fr h b f e j et c:=d.f6 (ah [] c) (by simp) (λ_ g=>g) d.G.cg
def Cp.a9{Fr':List (Nat×Obj)}(d:Cp w a Fr h b f e j et c)(k:∀l∈Fr',l∈Fr)(g:(Fr'.map (·.1)).Nodup):Cp w a Fr' h b f e j et c:=d.f6 (ah [] c) (by simp) (λ_ i=>i) (d.G.a9 k g)
def Cp.ck(g:Cp w a Fr h b f e j et c):∃ad d,f=.slice ad b.q.length d:=by
 rcases g.row.2 with⟨rfl,i⟩|⟨l,d,k,rfl,_⟩
 .exact⟨none,0,by rw[i]⟩
 .exact⟨_,_,rfl⟩
def Cp.k6(g:Cp w a Fr h b f e j et c):∃ad d,e=.slice ad b.aw.length d:=by
 rcases g.g2.2 with⟨rfl,i⟩|⟨l,d,k,rfl,_⟩
 .exact⟨none,0,by rw[i]⟩
 .exact⟨_,_,rfl⟩
def Cp.r(d:Cp w a Fr h b f e j et c):c.cell? ⟨a.C,0,none⟩=some f/\c.cell? ⟨a.C,1,none⟩=some (.map (some a.B))/\c.cell? ⟨a.C,2,none⟩=some (.map (some a.E))/\c.cell? ⟨a.C,3,none⟩=some e/\(∀g,c.frozen? ⟨a.C,g,none⟩=false)/\a.C<c.heap.size:=by
 refine⟨?_,?_,?_,?_,?_,aj d.I⟩<;>simp[World.cell?,World.frozen?,d.I]
def Et{y m:World}{g o:Nat}{z:dg}{v:Value}(l:Cp w a Fr h b f e j et c)(M:jl h v z)(r:Below c.heap.size c y)
  (H:m.ownsRow w.heap.size 273 1 (.slice (some ⟨g,0,none⟩) (b.q.length+1) o) (b.q.length+1) (j.map (·.2)++[v]))
  (s:y.grownBy m f.ownBlock) (J:f.ownBlock=some g\/g=y.heap.size) (K:g<m.heap.size) :
  Cp w a Fr h (be z b) (.slice (some ⟨g,0,none⟩) (b.q.length+1) o) e (j++[(z,v)]) et (m.setCell ⟨a.C,0,none⟩ (.slice (some ⟨g,0,none⟩) (b.q.length+1) o)):=by
 obtain⟨L,_⟩:=gH H (g:=g) rfl;have k:=l.t r;obtain⟨R,S,a0,I,D⟩:=l.hc;have G:dD w (fp a (.slice (some ⟨g,0,none⟩) (b.q.length+1) o) e) Fr h m:=wz (A:=[a.C,a.B,a.E]) (B:=e.ownBlock.toList) k.G s J K L;have p:ai [a.C] m (m.setCell ⟨a.C,0,none⟩ (.slice (some ⟨g,0,none⟩) (b.q.length+1) o)):=(ah [a.C] m).O (by simp) _;have t:=eJ s;have x:∀d,d=a.C\/d=a.B\/d=a.E->d ∉ f.ownBlock.toList:=by
  intro d r u;have:=I d (by simpa using u);omega
 have P:∀d,e.ownBlock=some d->d ∉ f.ownBlock.toList:=by
  intro d r u;exact(D d r).2.2.2 (by simpa using u)
 have N:g≠a.C:=by
  have:=G.H;simp[fp,Value.ownBlock]at this;omega
 refine⟨G.a4 p (by simp[fp]),bu (i:=0) ((t.i _ (aj k.I) (x _ (Y8 rfl))).trans k.I) _,?_,l.gA,?_,l.f8,l.he,l.hg,?_,?_,?_,?_⟩
 .exact(p.i _ (by have:=aj k.d6;have:=s.size;omega) (by simp;omega)).trans ((t.i _ (aj k.d6) (x _ (Ya (Y8 rfl)))).trans k.d6)
 .exact(p.i _ (by have:=aj k.d0;have:=s.size;omega) (by simp;omega)).trans ((t.i _ (aj k.d0) (x _ (Ya (Ya rfl)))).trans k.d0)
 .have:=aX H p (by
   intro F q;simp only[Value.ownBlock,Yu]at q;subst q;simpa using N)
  simpa[be]using this
 .simp[be,l.gC]
 .intro O n;rcases Yn.1 n with n|n
  .exact l.g6 O n
  .simp only[Yc]at n;subst n;exact M
 .exact aX (aX k.g2 t P) p (λF q=>by simpa using (D F q).1)
def Es{z n:World}{g o:Nat}{k:Nat×List UInt8}(m:Cp w a Fr h b f e j et c)(s:Below c.heap.size c z)
  (G:n.ownsRow w.heap.size 269 2 (.slice (some ⟨g,0,none⟩) (b.aw.length+1) o) (b.aw.length+1) (b.aw.flatMap kY++kY k))
  (t:z.grownBy n e.ownBlock) (F:e.ownBlock=some g\/g=z.heap.size) (K:g<n.heap.size) :
  Cp w a Fr h { b with aw:=b.aw++[k] } f (.slice (some ⟨g,0,none⟩) (b.aw.length+1) o) j et (n.setCell ⟨a.C,3,none⟩ (.slice (some ⟨g,0,none⟩) (b.aw.length+1) o)):=by
 obtain⟨M,_⟩:=gH G (g:=g) rfl;have l:=m.t s;obtain⟨P,R,S,I,v⟩:=m.hc;have L:dD w (fp a f (.slice (some ⟨g,0,none⟩) (b.aw.length+1) o)) Fr h n:=by
  have J:=wz (A:=[a.C,a.B,a.E]++f.ownBlock.toList) (B:=[]) (r:=e.ownBlock) (by simpa[fp,YN]using l.G) t F K M;simpa[fp,Value.ownBlock,YN]using J
 have p:ai [a.C] n (n.setCell ⟨a.C,3,none⟩ (.slice (some ⟨g,0,none⟩) (b.aw.length+1) o)):=(ah [a.C] n).O (by simp) _;have u:=eJ t;have y:∀d,d=a.C\/d=a.B\/d=a.E->d ∉ e.ownBlock.toList:=by
  intro d s x;have:=v d (by simpa using x);omega
 have O:∀d,f.ownBlock=some d->d ∉ e.ownBlock.toList:=by
  intro d s x;exact(v d (by simpa using x)).2.2.2 s
 have N:g≠a.C:=by
  rcases F with H|H
  .exact(v g H).1
  .have:=aj l.I;omega
 refine⟨L.a4 p (by simp[fp]),bu (i:=3) ((u.i _ (aj l.I) (y _ (Y8 rfl))).trans l.I) _,?_,m.gA,?_,m.f8,m.he,m.hg,?_,m.gC,m.g6,?_⟩
 .exact(p.i _ (by have:=aj l.d6;have:=t.size;omega) (by simp;omega)).trans ((u.i _ (aj l.d6) (y _ (Ya (Y8 rfl)))).trans l.d6)
 .exact(p.i _ (by have:=aj l.d0;have:=t.size;omega) (by simp;omega)).trans ((u.i _ (aj l.d0) (y _ (Ya (Ya rfl)))).trans l.d0)
 .exact aX (aX l.row u O) p (λD q=>by simpa using (I D q).1)
 .have:=aX G p (by
   intro D q;simp only[Value.ownBlock,Yu]at q;subst q;simpa using N)
  simpa using this
def sg{i:Nat}{x:dg}{v:Value}(d:Cp w a Fr h b f e j et c)(C:jl h v x)(M:i<b.q.length) :
  ∃g k,f=.slice (some ⟨g,0,none⟩) b.q.length k/\b.q.length<=k/\c.frozen? ⟨g,i,none⟩=false/\(∃E,c.cell? ⟨g,i,none⟩=some E)/\g<c.heap.size/\Cp w a Fr h (dB i x b) f e (j.set i (x,v)) et (c.setCell ⟨g,i,none⟩ v):=by
 obtain⟨F,G,H,r,s⟩:=d.hc;rcases d.row.2 with⟨rfl,L⟩|⟨g,k,p,rfl,y,m,q,z,A,B⟩
 .omega
 .have n:g∈fp a (.slice (some ⟨g,0,none⟩) b.q.length k) e:=by simp[fp,Value.ownBlock]
  have l:ai [g] c (c.setCell ⟨g,i,none⟩ v):=(ah [g] c).O (by simp) _;obtain⟨I,J,K⟩:=r g rfl;refine⟨g,k,rfl,q,by simp[World.frozen?,m],⟨p[i]'(by omega),?_⟩,aj m,d.G.a4 l (by simpa using n),?_,?_,d.gA,?_,d.f8,d.he,d.hg,⟨?_,Ya ⟨g,k,p.setIfInBounds i v,?_,y,bu m v,?_,z,?_,?_⟩⟩,?_,?_,?_⟩
  .simp[World.cell?,m]
  .exact(l.i _ (aj d.I) (by simp;omega)).trans d.I
  .exact(l.i _ (aj d.d6) (by simp;omega)).trans d.d6
  .exact(l.i _ (aj d.d0) (by simp;omega)).trans d.d0
  .have:=d.row.1;simpa[dB]using this
  .simp[dB]
  .simpa[dB]using q
  .simpa using A
  .simp only[dB,YF,Array.toList_setIfInBounds];rw[List.take_set,B];simp[List.map_set]
  .simp[dB,d.gC,List.map_set]
  .intro D o;rcases List.mem_or_eq_of_mem_set o with o|rfl
   .exact d.g6 D o
   .exact C
  .exact aX d.g2 l (λt u=>by
    have:=(s t u).2.2.2;intro n;simp at n;subst n;exact this rfl)
def Cp.i7(g:Cp w a Fr h b f e j et c)(k:List UInt8)(i:Nat) :
  (Instr.mapUpdate 103 (.map (some a.B)) (.string ⟨k.toArray⟩) (.int .i64 i)).run prog c=.ok () (dm c a.B (jv (bE b.cx k i)))/\
  Cp w a Fr h { b with cx:=bE b.cx k i } f e j et (dm c a.B (jv (bE b.cx k i))):=by
 obtain⟨r,s,t,p,q⟩:=g.hc;have l:=gV c a.B (jv (bE b.cx k i));refine⟨pN (P:=prog) (T:=103) (kt:=9) (et:=3) (d:=.string) (by kernel_rfl) (by kernel_rfl) (λo:List UInt8=>.string ⟨o.toArray⟩) (λo:Nat=>.int .i64 o) (λ_=>trivial) (λ_=>yM _) rW g.d6 g.gA k i,?_⟩;refine⟨g.G.a4 l (by simp[fp]),?_,ka (aj g.d6) _,pQ g.gA _ _,?_,g.f8,g.he,g.hg,aX g.row l ?_,g.gC,g.g6,aX g.g2 l ?_⟩
 .exact(l.i _ (aj g.I) (by simp;omega)).trans g.I
 .exact(l.i _ (aj g.d0) (by simp;omega)).trans g.d0
 .intro m n;simpa using (p m n).2.1
 .intro m n;simpa using (q m n).2.1
def Cp.k7(m:Cp w a Fr h b f e j et c)(k:List UInt8)(g:Bool) :
  (Instr.lookup 103 (.map (some a.B)) (.string ⟨k.toArray⟩) g).run prog c=.ok (match ay b.cx k with
   |some v=>if g then .tuple #[.int .i64 v,.bool true]else .int .i64 v
   |none=>if g then .tuple #[.int .i64 0,.bool false]else .int .i64 0) c:=by
 rw[Bt];have i:=xN (P:=prog) (T:=103) (kt:=9) (et:=3) (d:=.string) (by kernel_rfl) (by kernel_rfl) (λl:List UInt8=>.string ⟨l.toArray⟩) (λl:Nat=>.int .i64 l) (λ_=>trivial) rW m.d6 m.gA (z:=.int .i64 0) (by kernel_rfl) k g;cases n:fP b.cx k with
 |none=>rw[n]at i;exact i
 |some v=>rw[n]at i;exact i
def Cp.n5{v:Value}{x:df}(g:Cp w a Fr h b f e j et c)(u:ug h v x)(i:List UInt8) :
  ∃q,(Instr.mapUpdate 164 (.map (some a.E)) (.string ⟨i.toArray⟩) v).run prog c=.ok () (dm c a.E q)/\
  Cp w a Fr h { b with ds:=bE b.ds i x } f e j (bE et i (x,v)) (dm c a.E q):=by
 obtain⟨z,A,B,r,s⟩:=g.hc;have t:=pN (P:=prog) (T:=164) (kt:=9) (et:=247) (d:=.string) (by kernel_rfl) (by kernel_rfl) (λp:List UInt8=>.string ⟨p.toArray⟩) (λp:df×Value=>p.2) (λ_=>trivial) (λ_=>yM _) rW g.d0 g.f8 i (x,v);refine⟨_,t,?_⟩;have k:=gV c a.E (kE ((bE et i (x,v)).map λl=>(.string ⟨l.1.toArray⟩,l.2.2)));refine⟨g.G.a4 k (by simp[fp]),?_,?_,g.gA,ka (aj g.d0) _,pQ g.f8 _ _,?_,?_,aX g.row k ?_,g.gC,g.g6,aX g.g2 k ?_⟩
 .exact(k.i _ (aj g.I) (by simp;omega)).trans g.I
 .exact(k.i _ (aj g.d6) (by simp;omega)).trans g.d6
 .show bE b.ds i x=_;rw[g.he];exact(xX (λy:df×Value=>y.1) et i (x,v)).symm
 .intro l o;rcases xY o with o|rfl
  .exact g.hg l o
  .exact u
 .intro m n;simpa using (r m n).2.2
 .intro m n;simpa using (s m n).2.2.1
def Cp.nx(i:Cp w a Fr h b f e j et c)(g:List UInt8):∃v,(Instr.lookup 164 (.map (some a.E)) (.string ⟨g.toArray⟩) false).run prog c=.ok v c/\ug h v ((ay b.ds g).getD wo):=by
 have o:=xN (P:=prog) (w:=c) (T:=164) (kt:=9) (et:=247) (d:=.string) (by kernel_rfl) (by kernel_rfl) (λk:List UInt8=>.string ⟨k.toArray⟩) (λk:df×Value=>k.2) (λ_=>trivial) rW i.d0 i.f8 (z:=.agg #[.int .i64 0,.int .i64 0,.slice none 0 0,.bool false]) (by kernel_rfl) g false;refine⟨_,o,?_⟩;have p:ug h (.agg #[.int .i64 0,.int .i64 0,.slice none 0 0,.bool false]) wo:=⟨[.int .i64 0,.int .i64 0,.slice none 0 0,.bool false],rfl,_,rfl,rfl,_,_,_,rfl⟩;have l:ay b.ds g=(fP et g).map (·.1):=by
  rw[Bt,i.he];unfold fP;rw[List.find?_map];simp only[Option.map_map];rfl
 rw[l];cases m:fP et g with
 |none=>simpa using p
 |some r=>
  obtain⟨q,n,_,rfl⟩:=Kq m;simpa using i.hg q n
end
section
variable {d:Bool}{rs:gu}{a:Ty}{b c τ:Type}
def gB(Q:b->Prop)(c:PM b):Prop:=∀d a e,c d=.ok (a,e)->Q a
def gP(Q:b->Prop)(d:PX τ b):Prop:=∀a f c e g,d a f=.ok (c,e,g)->Q c
def lJ(c:τ->Prop)(f:PX τ b):Prop:=∀a g e d h,c a->f a g=.ok (e,d,h)->c d
def hH{Q:b->Prop}{a:b}(d:Q a):gB Q (bS a):=by
 intro f e g c;simp only[bS]at c;cases c
 exact d
def qw{Q:b->Prop}(d c:Nat):gB Q (fj d c):=by
 intro f e g a;simp only[fj]at a;cases a
def se{Q:c->Prop}{g:b->Prop}{f:PM b}{h:b->PM c}(j:gB g f)(i:∀a,g a->gB Q (h a)):gB Q (au f h):=by
 intro l m o d;cases e:f l with
 |error n=>rw[bj e]at d;cases d
 |ok k=>obtain⟨a,p⟩:=k;rw[as e]at d;exact i a (j _ _ _ e) _ _ _ d
def Su(a:PM b):gB (λ_=>True) a:=λ_ _ _ _=>trivial
def dv{Q:c->Prop}{e:PM b}{d:b->PM c}(f:∀a,gB Q (d a)):gB Q (au e d):=se (Su e) λa _=>f a
def hq{Q:b->Prop}{a c:PM b}(e:gB Q a)(f:gB Q c):gB Q (if d then a else c):=by cases d<;>assumption
def nF{Q:b->Prop}{c:b}(e:Q c):gP Q (cG (τ:=τ) c):=by
 intro a h f g i d;simp only[cG]at d;cases d
 exact e
def Ei{Q:b->Prop}{e:PM b}(f:gB Q e):gP Q (lift (τ:=τ) e):=by
 intro a h j l m c;cases d:e h with
 |error k=>rw[ci d]at c;cases c
 |ok g=>obtain⟨i,n⟩:=g;rw[aW d]at c;cases c;exact f _ _ _ d
def tV{Q:c->Prop}{R:b->Prop}{g:PX τ b}{h:b->PX τ c}(j:gP R g)(i:∀d,R d->gP Q (h d)):gP Q (av g h):=by
 intro a l m o q e;cases f:g a l with
 |error n=>rw[bl f]at e;cases e
 |ok k=>obtain⟨d,p,r⟩:=k;rw[aE f]at e;exact i d (j _ _ _ _ _ f) _ _ _ _ _ e
def SI(a:PX τ b):gP (λ_=>True) a:=λ_ _ _ _ _ _=>trivial
def hI{Q:c->Prop}{e:PX τ b}{d:b->PX τ c}(f:∀a,gP Q (d a)):gP Q (av e d):=tV (SI e) λa _=>f a
def oQ{Q:b->Prop}{a c:PX τ b}(e:gP Q a)(f:gP Q c):gP Q (if d then a else c):=by cases d<;>assumption
def Ej{ρ:Type}{Q:b->Prop}{e:PX τ b}(f:gP Q e):gP Q (hn (ρ:=ρ) e):=by
 rintro⟨a,l⟩ h i m o c;cases d:e a h with
 |error k=>rw[rF d]at c;cases c
 |ok g=>obtain⟨j,n,p⟩:=g;rw[rG d]at c;cases c;exact f _ _ _ _ _ d
def rx{I:τ->Prop}{g:PX τ b}{h:b->PX τ c}(k:lJ I g)(i:∀e,lJ I (h e)):lJ I (av g h):=by
 intro a m n p r j d;cases f:g a m with
 |error o=>rw[bl f]at d;cases d
 |ok l=>obtain⟨e,q,s⟩:=l;rw[aE f]at d;exact i e _ _ _ _ _ (k _ _ _ _ _ j f) d
def ry{f:τ->Prop}(e:PM b):lJ f (lift (τ:=τ) e):=by
 intro a i k m n g c;cases d:e i with
 |error l=>rw[ci d]at c;cases c
 |ok h=>obtain⟨j,o⟩:=h;rw[aW d]at c;cases c;exact g
def xA{d:τ->Prop}(e:b):lJ d (cG (τ:=τ) e):=by
 intro a i g h j f c;simp only[cG]at c;cases c
 exact f
def Jc{c:τ->Prop}(g:ByteArray)(nh:Nat){d:PX τ Unit}(e:lJ c d):∀(a b:Nat),lJ c (hh g nh d a b):=by
 intro a;induction a with
 |zero=>intro b;exact ry _
 |succ a f=>
  intro b;unfold hh;refine rx ?_ λh=>?_
  .split
   .exact xA _
   .exact ry _
  .cases h
   .exact rx (ry _) λi=>rx (ry _) λ_=>rx e λ_=>f _
   .exact xA _
def Jb{a:τ->Prop}(c:ByteArray)(nh:Nat){b:PX τ Unit}(d:lJ a b):lJ a (eu c nh b):=by
 unfold eu;exact rx (ry _) λ_=>Jc c nh d _ _
def SD{I:τ->Prop}{d:PX τ Unit}(e:lJ I d){a:τ}(f:I a):gB I (hZ d a):=by
 intro h i m b;cases c:d a h with
 |error k=>rw[tI c]at b;cases b
 |ok g=>obtain⟨j,l,n⟩:=g;rw[oC c]at b;cases b;exact e _ _ _ _ _ f c
def SE{Q:b->Prop}{e:PX τ b}(g:gP Q e)(a:τ):gB (λf=>Q f.1) (fE e a):=by
 intro h i m c;cases d:e a h with
 |error k=>rw[nz d]at c;cases c
 |ok f=>obtain⟨j,l,n⟩:=f;rw[qi d]at c;cases c;exact g _ _ _ _ _ d
def SA{Q:b->Prop}{d:PX Unit b}(e:gP Q d):gB Q (hP d):=by
 intro g h l a;cases c:d () g with
 |error j=>rw[wK c]at a;cases a
 |ok f=>obtain⟨i,k,m⟩:=f;rw[wM c]at a;cases a;exact e _ _ _ _ _ c
def gh:Ty->Prop
 |.plain a=>a<=4
 |.named _ _=>True
 |_=>False
def jc:Ty->Prop
 |.plain b=>b<=4
 |.named _ _=>True
 |.opaq _ _=>True
 |.str _ _=>True
 |.arr a _ _=>gh a
 |.opt a=>gh a
 |.void=>False
def oR(a:Ty):Prop:=jc a\/a=.void
def zH(b:gh a):iG a:=by cases a<;>simp[gh,iG]at *
def gh.i2(b:gh a):jc a:=by cases a<;>simp[gh,jc]at *<;>exact b
def jc.fb(b:jc a):gy a:=by
 cases a with
 |arr c e d=>exact zH b
 |opt c=>exact zH b
 |_=>trivial
def oR.fb(b:oR a):gy a:=by
 rcases b with b|rfl
 .exact b.fb
 .trivial
def SH(a:ByteArray):gB gh (kf a):=by
 unfold kf;refine dv λb=>?_;unfold hE;refine hq (hH trivial) (hq (hH (by simp[gh])) (hq (hH (by simp[gh])) (hq (hH (by simp[gh])) (hq ?_ (qw _ _)))));exact dv λc=>hq (hH (by simp[gh])) (dv λ_=>hH (by simp[gh]))
def SF(b:ByteArray):gB (λa:Ty×(Int->Bool)=>gh a.1) (nA b):=by
 unfold nA;refine dv λc=>?_;unfold iW;exact hq (dv λ_=>hH trivial) (hq (hH (by simp[gh])) (hq (dv λ_=>hH (by simp[gh])) (hq (hH (by simp[gh])) (qw _ _))))
def zp(d:ByteArray)(h:cM τ):gP (λb=>jc b.k) (dY d h):=by
 unfold dY;refine hI λe=>?_;unfold od;refine oQ (hI λa=>hI λg=>nF trivial) (hI λe=>?_);unfold mU;refine oQ (hI λa=>hI λg=>nF trivial) (tV (Ei (SH d)) λi c=>?_);unfold py;refine hI λe=>?_;unfold rc;refine oQ (hI λa=>nF c) (hI λa=>?_);unfold oe;refine hI λe=>?_;unfold pz;have f:gP (τ:=τ) (λb=>jc b.k) (og d a i):=by
  unfold og;exact hI λg=>nF c
 refine oQ f (hI λj=>?_);unfold pA;exact oQ f (nF c.i2)
def Eh(d:ByteArray)(c:cM τ):gP (λb=>oR b.k) (iu d c):=by
 unfold iu;refine tV (R:=λb=>oR b.k) (hI λk=>?_) λb g=>hI λ_=>nF g;unfold mO;refine oQ (nF (Ya rfl)) ?_;intro a i e h j f;exact Y8 (zp d c a i e h j f)
def kP(rs:gu):Prop:=∀a∈rs,oR a.2.k
def kP.fw(e:kP rs){d:List Int}{b:aF}(f:oR b.k):kP (rs++[(d,b)]):=by
 intro c a;rcases Yn.1 a with a|a
 .exact e c a
 .simp only[Yc]at a;subst a;exact f
def Sv(c:ByteArray)(a:kP rs):gP kP (kX c rs):=by
 unfold kX;exact hI λe=>oQ (hI λ_=>tV (Ej (Eh _ _)) λd b=>nF (a.fw b)) (nF a)
def Sz(d:ByteArray)(f:Int->Bool):∀(a:Nat) {rs:gu},kP rs->gP kP (ht d f a rs):=by
 intro a;induction a with
 |zero=>intro rs _;exact Ei (qw _ _)
 |succ a e=>
  intro rs b;unfold ht;exact hI λg=>tV (Ej (Eh _ _)) λh c=>hI λi=>oQ (e (b.fw c)) (Sv d (b.fw c))
def oT:ao->Prop
 |.typedef b=>jc b.k
 |.struct _ _ d=>∀c∈d,jc c.k
 |.union _ _ e a=>gh e.k/\kP a
 |_=>True
def SC(f:ByteArray)(h:List UInt8×Nat):∀(b:Nat) (d:List (List UInt8×Nat×Int)) (c:List (Int×Int)),gB oT (go f h b d c):=by
 intro b;induction b with
 |zero=>intro d c;exact qw _ _
 |succ b g=>
  intro d c j k p a;cases e:hX f d.length c j with
  |error l=>rw[th e]at a;cases a
  |ok i=>
   obtain⟨n,m,q⟩:=i;rw[rC e]at a;refine dv (Q:=oT) (λo=>hq (g _ _) ?_) _ _ _ a;unfold mX;exact dv λ_=>dv λ_=>hH trivial
def SB(h:ByteArray):gB oT (fN h):=by
 unfold fN;refine dv λw=>?_;unfold dT;refine hq ?_ (hq ?_ (hq ?_ (hq ?_ (hq ?_ (hq ?_ (qw _ _))))))
 .unfold iv;exact dv λ_=>dv λf=>dv λ_=>dv λ_=>dv λ_=>hH trivial
 .unfold iC;exact dv λ_=>se (SA (zp _ _)) λk d=>dv λ_=>hH d
 .unfold gm;exact dv λ_=>dv λf=>dv λ_=>SC _ _ _ _ _
 .unfold iZ;refine dv λ_=>dv λf=>se (SD (I:=λg:List aF×List (List UInt8)=>∀c∈g.1,jc c.k) (Jb _ _ ?_) (by simp)) λg n=>dv λ_=>hH n;rintro⟨r,a⟩ q j u x m e;cases d:dY h (aS 0 0) a q with
  |error s=>rw[yK d]at e;cases e
  |ok i=>
   obtain⟨k,v,y⟩:=i;rw[vY d]at e;refine rx (I:=λg:List aF×List (List UInt8)=>∀c∈g.1,jc c.k) (ry _) (λ_=>xA ()) _ _ _ _ _ ?_ e;intro c b;rcases Yn.1 b with b|b
   .exact m c b
   .simp only[Yc]at b;subst b;exact zp _ _ _ _ _ _ _ d
 .unfold dP;refine dv λ_=>dv λf=>?_;unfold oL;refine dv λ_=>dv λ_=>se (SF h) λi o=>?_;unfold qq;refine dv λc=>?_;unfold rY;refine dv λ_=>dv λ_=>se (SE (Sz h i.2 13 (rs:=[]) (by intro j l;cases l)) _) λt p=>?_;unfold kM oJ;exact dv λ_=>dv λ_=>hH ⟨o,p⟩
 .unfold hC;refine dv λ_=>dv λf=>?_;unfold oy;exact dv λ_=>dv λ_=>hH trivial
def ua(b:List ao):Prop:=∀a∈b,oT a
def SG(d:ByteArray):∀(b:Nat) {ds:List ao},ua ds->gB ua (eb d b ds):=by
 intro b;induction b with
 |zero=>intro ds _;exact qw _ _
 |succ b g=>
  intro ds c;unfold eb;refine dv λi=>hq (hH c) (se (SB d) λh f=>dv λ_=>g ?_);intro e a;rcases Yn.1 a with a|a
  .exact c e a
  .simp only[Yc]at a;subst a;exact f
def QT{d:ByteArray}{ds:List ao}(a:en d=.ok ds):ua ds:=by
 unfold en at a;split at a
 .cases a
 .cases c:eb d 69 [] eN with
  |error h=>rw[c]at a;cases a
  |ok e=>
   obtain⟨g,i⟩:=e;rw[c]at a;simp only at a;have b:=SG d 69 (ds:=[]) (by intro f b;cases b) _ _ _ c;split at a
   .cases a
   .split at a
    .cases a
    .cases a
     exact b
def ho:Ty->Nat
 |.arr a _ _=>ho a+2
 |.opt a=>ho a+1
 |.void=>0
 |_=>1
def rZ(a:Ty):∀b,(dr a b).q.length=b.q.length+ho a:=by
 induction a with
 |arr d f e c=>intro b;simp[dr,dB,be,ho,c];omega
 |opt d c=>intro b;simp[dr,dB,be,ho,c];omega
 |_=>intro b;simp[dr,be,lV,ho]
def pw(d:gy a):ho a<=3:=by
 cases a with
 |arr b e c=>cases b<;>simp[gy,iG,ho]at *
 |opt b=>cases b<;>simp[gy,iG,ho]at *
 |_=>simp[ho]
end
end Go.Proofs.YtjdhaegijjednaaGreatDoor
namespace Go.Proofs.YtjdhaegijjednaaGreatDoor
open Go.Proofs.Tryz
def Kr{p t:Type}[DecidableEq p](v:t)(a b:p)(c:List (p×t)):fP (bE c b v) a=if a=b then some v else fP c a:=by
 unfold bE;split
 .rename_i g;induction c with
  |nil=>simp at g
  |cons j c r=>
   by_cases h:j.1=b
   .by_cases e:a=b
    .subst e;simp[fP,h]
    .have q:fP (c.map λi=>if i.1=b then (b,v)else i) a=fP c a:=by
      clear r g;induction c with
      |nil=>rfl
      |cons s c o=>
       unfold fP at o ⊢;simp only[List.map_cons,List.find?_cons];by_cases n:s.1=b
       .have f:(b==a)=false:=by simpa using λd=>e d.symm
        have l:(s.1==a)=false:=by rw[n];exact f
        simp only[n,if_true,f]
        exact o
       .simp only[n,if_false]
        split
        .rfl
        .exact o
     have f:(b==a)=false:=by simpa using λd=>e d.symm
     have l:(j.1==a)=false:=by rw[h];exact f
     unfold fP at q ⊢;simp only[List.map_cons,List.find?_cons,h,if_true,f,Y2 e]
     exact q
   .have u:b∈c.map (·.1):=by
     simp only[List.map_cons,Yg]at g;rcases g with k|k
     .exact absurd k.symm h
     .exact k
    have:=r u;unfold fP at this ⊢;simp only[List.map_cons,List.find?_cons,h,if_false]
    by_cases m:j.1=a
    .have:a≠b:=λd=>h (m.trans d);simp[m,this]
    .have l:(j.1==a)=false:=by simpa using m
     simp only[l];exact this
 .rename_i g;by_cases e:a=b
  .subst e;have:c.find? (λi=>i.1==a)=none:=List.find?_eq_none.2 (λi w=>by simp;exact λd=>g (d▸List.mem_map_of_mem w));simp[fP,List.find?_append,this]
  .have f:(b==a)=false:=by simpa using λd=>e d.symm
   simp[fP,List.find?_append,f,e]
def Hv(b:List Nat):∀(a:aT),(hR b a).q=b.foldl (λe c=>e.set c (.jump a.q.length)) a.q/\(hR b a).aw=a.aw/\(hR b a).cx=a.cx/\(hR b a).ds=a.ds:=by
 induction b with
 |nil=>intro a;exact⟨rfl,rfl,rfl,rfl⟩
 |cons c b j=>
  intro a;obtain⟨d,g,h,i⟩:=j (dB c (.jump a.q.length) a);have f:(dB c (.jump a.q.length) a).q.length=a.q.length:=by simp[dB]
  rw[f]at d;exact⟨d,g,h,i⟩
end Go.Proofs.YtjdhaegijjednaaGreatDoor
namespace Go.Proofs.YtjdhaegijjednaaGreatDoor
open Go.RowKit
open Go.MapKept
open Go.Proofs.Tryz
section
variable {d:eS}{f:List (Nat×Obj)}{e:List (dg×Value)}{h:List (List UInt8×df×Value)}{g i:Value}{a:aT}{b c:World}
def IY:(prog.info? 273).map (λa=>(a.zero,a.size,a.bytes))=some (some .nilIface,1,16):=by kernel_rfl
def IP:(prog.info? 269).map (λa=>(a.zero,a.size,a.bytes))=some (some (.agg #[.int .i64 0,.string ⟨#[]⟩]),2,24):=by kernel_rfl
def hY{Fr:List (Nat×Obj)}{v:Value}{x:dg}(m:Cp c d Fr f a i g e h b)(s:jl f v x)(b0:a.q.length<1000000) :
  Calls prog 131 #[.pointer (some ⟨d.C,0,none⟩),v] b λo a2=>o=.returned (.int .i64 a.q.length)/\∃a1,Cp c d Fr f (be x a) a1 g (e++[(x,v)]) h a2:=by
 obtain⟨p,u,rfl⟩:=s.nd
 obtain⟨ad,l,rfl⟩:=m.ck;obtain⟨a3,a4,a5,a6,a9,J⟩:=m.r;obtain⟨a0,G,N,O,P⟩:=info_parts IY;have n:=Z m;have y:=Z s;have b1:c.heap.size<=b.heap.size:=m.G.B.F;have L:∀j,(b.alloc j).ownsRow c.heap.size 273 1 (.slice ad a.q.length l) a.q.length (e.map (·.2)):=λj=>aX m.row ((ah [] b).d j) (by simp);have H:a.q.length+1<=maxLen:=by unfold maxLen;omega
 have I:(a.q.length+1)*16<=140737488355328:=by omega
 have R:Value.nilIface.cells.size=1:=rfl;have D:∀j k,(b.alloc j).grownBy k (Value.slice ad a.q.length l).ownBlock->k.cell? ⟨d.C,0,none⟩=some (.slice ad a.q.length l)/\(∀S,k.frozen? ⟨d.C,S,none⟩=false)/\d.C<k.heap.size:=by
  intro j k F;have q:k.heap[d.C]? = some (.cells #[.slice ad a.q.length l,.map (some d.B),.map (some d.E),g] 167):=
   (F.block _ (by simp;omega) (λo=>(n.b.hc.2.2.2.1 _ o.symm).1 rfl)).trans ((((ah [] b).d j).i _ J (by simp)).trans n.b.I)
  refine⟨?_,?_,aj q⟩<;>simp[World.cell?,World.frozen?,q]
 have w:=Z D;go_in;go_wp2_with (first
  |(at_builtin;refine wpList_append_lies _ (by rfl) _ _ _ (by rfl) c.heap.size 273 a0 _ 1 16 underlying102 G N O P R (by omega) (.slice ad a.q.length l) a.q.length (e.map (·.2)) (by rfl) (L _) ⟨b.heap.size,0,none⟩ 1 1 [.iface p u] (by rfl) (by rfl) (World.news_of_block (cs:=#[.iface p u]) (t:=273) (fr:=(0,0)) (heap_alloc_new b _)) (by simp[Value.oneCell']) (by omega) H I (by simp;omega) (b.heap.size+1) (by simp) ?_;intro a8 a7 b5 M r A K;obtain⟨b2,b3,b4⟩:=w.b _ _ r))
 go_ret;have z:=Et n.b y.b ((Below.refl b.heap.size b).alloc (Y4 _) _) M r (by simpa using A) K;exact⟨by simp,_,z⟩
def lf{Fr:List (Nat×Obj)}(j:Cp c d Fr f a i g e h b) :
  Calls prog 128 #[.pointer (some ⟨d.C,0,none⟩)] b λk l=>k=.returned (.int .i64 a.q.length)/\l=b:=by
 obtain⟨ad,q,rfl⟩:=j.ck;obtain⟨m,n,o,p,r,s⟩:=j.r;go_in;go_wp2;go_ret;exact⟨rfl,rfl⟩
abbrev BY(a:df)(b:Value):Array Value:=#[.int .i64 a.g4,.int .i64 a.g1,b,.bool a.b1]
def yh(a:Nat):(ef a).id=none:=by
 unfold ef;split
 .rfl
 .split
  .rfl
  .split<;>rfl
def xc(a:Nat)(c:World):Calls prog 207 #[.int .i64 a] c λi m=>i=.returned (.agg (BY (ef a) (.slice none 0 0)))/\Below c.heap.size c m:=by
 have d:∀h,Below c.heap.size c (c.alloc h):=λh=>(Below.refl _ _).alloc (Y4 _) _;by_cases e:a=0
 .have j:((a:Int)==0)=true:=by simp[e]
  have b:U (ef a=⟨-2147483648,2147483647,none,false⟩):=by show _=_;simp[ef,e]
  go_in;go_wp2;exact bodyPost_ret (v:=.agg #[.int .i64 (-2147483648),.int .i64 2147483647,.slice none 0 0,.bool false]) (by simp[results,results207,go_sem]) rfl ⟨by rw[b.b],d _⟩
 .have j:((a:Int)==0)=false:=by simp;omega
  by_cases f:a=1
  .have k:((a:Int)==1)=true:=by simp[f]
   have b:U (ef a=⟨0,4294967295,none,false⟩):=by show _=_;simp[ef,f]
   go_in;go_wp2;exact bodyPost_ret (v:=.agg #[.int .i64 0,.int .i64 4294967295,.slice none 0 0,.bool false]) (by simp[results,results207,go_sem]) rfl ⟨by rw[b.b],d _⟩
  .have k:((a:Int)==1)=false:=by simp;omega
   by_cases g:a=4
   .have l:((a:Int)==4)=true:=by simp[g]
    have b:U (ef a=⟨0,1,none,false⟩):=by show _=_;simp[ef,g]
    go_in;go_wp2;exact bodyPost_ret (v:=.agg #[.int .i64 0,.int .i64 1,.slice none 0 0,.bool false]) (by simp[results,results207,go_sem]) rfl ⟨by rw[b.b],d _⟩
   .have l:((a:Int)==4)=false:=by simp;omega
    have b:U (ef a=⟨-9223372036854775808,9223372036854775807,none,true⟩):=by show _=_;simp[ef,e,f,g]
    go_in;go_wp2;exact bodyPost_ret (v:=.agg #[.int .i64 (-9223372036854775808),.int .i64 9223372036854775807,.slice none 0 0,.bool true]) (by simp[results,results207,go_sem]) rfl ⟨by rw[b.b],d _⟩
end
section
variable {b:eS}{f:List (Nat×Obj)}{h:List (dg×Value)}{j:List (List UInt8×df×Value)}{e g:Value}{a:aT}{c d:World}
def LZ(b:Nat×List UInt8):∀c∈kY b,c.oneCell'=true:=by
 intro c a;simp at a;rcases a with rfl|rfl<;>rfl
def Cp.nl{i:World}{Fr:List (Nat×Obj)}{m:Obj}(k:Cp d b Fr f a g e h j c)(o:(c.alloc m).grownBy i e.ownBlock) :
  i.cell? ⟨b.C,3,none⟩=some e/\(∀q,i.frozen? ⟨b.C,q,none⟩=false)/\b.C<i.heap.size:=by
 have p:=aj k.I;have l:i.heap[b.C]? = some (.cells #[g,.map (some b.B),.map (some b.E),e] 167):=
  (o.block _ (by simp;omega) (λn=>(k.hc.2.2.2.2 _ n.symm).1 rfl)).trans ((((ah [] c).d m).i _ p (by simp)).trans k.I)
 refine⟨?_,?_,aj l⟩<;>simp[World.cell?,World.frozen?,l]
def FU{Fr:List (Nat×Obj)}(q:List UInt8)(l:Cp d b Fr f a g e h j c)(J:a.q.length<1000000)(a6:a.aw.length<1000000) :
  Calls prog 206 #[.pointer (some ⟨b.C,0,none⟩),.string ⟨q.toArray⟩] c λw R=>w=.returned (.tuple #[])/\cK d b Fr f (lV q a) R:=by
 obtain⟨ad,s,rfl⟩:=l.k6;obtain⟨a0,a1,a2,a3,a8,z⟩:=l.r;obtain⟨P,F,K,M,N⟩:=info_parts IP;have E:Below c.heap.size c c.drew:=(Below.refl _ _).drew;have A:=Z (hY (v:=.iface 271 (.agg #[.int .i64 0])) (x:=.call 0) (l.t E) rfl J)
 have G:a.aw.length+1<=maxLen:=by unfold maxLen;omega
 have H:(a.aw.length+1)*24<=140737488355328:=by omega
 have O:(Value.agg #[.int .i64 0,.string ⟨#[]⟩]).cells.size=2:=by decide
 go_in;go_wp2_with fail;refine cR (λS=>S.cell? ⟨b.C,3,none⟩=some (.slice ad a.aw.length s)) (L:=15) (by kernel_rfl) rfl (by kernel_rfl) (by kernel_rfl) ?_ (λu=>?_)
 .go_keep
 refine bH [0,1,2,3,4,5,6,7,9] ?_;iterate 9 (refine bO (v:=?_) rfl (by kernel_rfl) (λ_ _ _ l=>l) (by rfl) (by assumption) ?_ ?_;rotate_left;focus (intro d p;(try dsimp only at p);go_simp;(try with_reducible rfl));(try simp only[aK,aL,List.set]))
 refine bI ?_;refine cj 8 (by kernel_rfl) rfl λr o=>?_;(go_simp;go_at_call 131;refine A.b.mono ?_;rintro w m ⟨rfl,b4,n⟩;have n:=Z n;have a7:m.cell? ⟨b.C,3,none⟩=some (.slice ad a.aw.length s):=n.b.r.2.2.2.1;have b0:d.heap.size<=m.heap.size:=n.b.G.B.F;have a9:b.C<m.heap.size:=n.b.r.2.2.2.2.2);refine o.out _ _ ?_ (λu=>?_)
 .go_keep
 (try simp only[aK,aL,List.set]);refine tk (i:=10) (v:=?_) rfl (by kernel_rfl) (λ_ _ _ l=>l) (by rfl) (by assumption) ?_ ?_;rotate_left
 .intro d p;(try dsimp only at p);go_simp;(try with_reducible rfl)
 (try simp only[aK,aL,List.set]);refine cj 11 (by kernel_rfl) rfl λr o=>?_;go_simp;refine o.out _ _ ?_ (λu=>?_)
 .go_keep
 (try simp only[aK,aL,List.set]);refine cj 12 (by kernel_rfl) rfl λr o=>?_;(refine step_append_lies _ (by rfl) _ _ _ (by rfl) d.heap.size 269 P _ 2 24 underlying165 F K M N O (by omega) (.slice ad a.aw.length s) a.aw.length (a.aw.flatMap kY) (by rfl) (aX n.b.g2 ((ah [] m).d _) (by simp)) ⟨m.heap.size,0,none⟩ 1 1 (kY (a.q.length,q)) (by rfl) (by rfl) (World.news_of_block (cs:=(kY (a.q.length,q)).toArray) (t:=269) (fr:=(0,0)) (heap_alloc_new m _)) (LZ _) (by omega) G H (by simp;omega) (m.heap.size+1) (by simp) ?_;intro a5 a4 b5 I y D z;obtain⟨b1,b2,b3⟩:=n.b.nl y);refine o.out _ _ ?_ (λu=>?_)
 .go_keep
 (try simp only[aK,aL,List.set]);refine bH [13,14] ?_;iterate 2 (refine bO (v:=?_) rfl (by kernel_rfl) (λ_ _ _ l=>l) (by rfl) (by assumption) ?_ ?_;rotate_left;focus (intro d p;(try dsimp only at p);go_simp;(try with_reducible rfl));(try simp only[aK,aL,List.set]))
 refine bI ?_;refine cP (by kernel_rfl) rfl λr o=>?_;go_simp;refine o.out _ _ ?_;(try simp only[aK,aL,List.set]);have B:=Es (k:=(a.q.length,q)) n.b ((Below.refl m.heap.size m).alloc (Y4 _) _) I y (by simpa using D) z;go_wp2;go_end0;exact⟨rfl,B.b8⟩
end
section
variable {c:eS}{d:List (Nat×Obj)}{f:List (dg×Value)}{g:List (List UInt8×df×Value)}{h j:Value}{n:Nat}{a:aT}{b e:World}
def yg(d:List (Nat×Obj)){n:df}(a:n.id=none):iI d [.int .i64 n.g4,.int .i64 n.g1,.slice none 0 0,.bool n.b1] n:=⟨.slice none 0 0,rfl,by rw[a];rfl,_,_,_,rfl⟩
structure aU(a:aT)(n:Nat):Prop where
 q:a.q.length+n<1000000
 aw:a.aw.length<=a.q.length
def aU.bn(b:aU a (n+1))(c:dg):aU (be c a) n:=⟨by simp[be];have:=b.q;omega,by simp[be];have:=b.aw;omega⟩
def aU.call(b:aU a (n+1))(c:List UInt8):aU (lV c a) n:=⟨by simp[lV];have:=b.q;omega,by simp[lV];have:=b.aw;omega⟩
def aU.bh{c:Nat}(b:aU a n)(d:c<=n):aU a c:=⟨by have:=b.q;omega,b.aw⟩
def aU.aH(b:aU a n)(i:Nat)(c:dg):aU (dB i c a) n:=⟨by simpa[dB]using b.q,by simpa[dB]using b.aw⟩
def sr(d:Ty):∀{a:aT} {n:Nat},aU a (n+ho d)->aU (dr d a) n:=by
 induction d with
 |named d c=>intro a n b;exact b.call d
 |plain f=>intro a n b;exact b.bn _
 |opaq f g=>intro a n b;exact b.bn _
 |str f g=>intro a n b;exact b.bn _
 |void=>intro a n b;exact b
 |arr h f g e=>intro a n b;exact(aU.bn (e (aU.bn (aU.bh b (by simp only[ho];omega)) _)) _).aH _ _
 |opt h e=>intro a n b;exact(e (aU.bn (aU.bh b (by simp only[ho];omega)) _)).aH _ _
def RK{Fr:List (Nat×Obj)}(i:List UInt8)(l:Nat)(r:Cp e c Fr d a j h f g b)(n:aU a 1) :
  Calls prog 129 #[.pointer (some ⟨c.C,0,none⟩),.iface 260 (.agg #[.string ⟨i.toArray⟩,.int .i64 l])] b λm t=>m=.returned (.tuple #[])/\cK e c Fr d (lV i a) t:=by
 have w:∀k,(Instr.typeAssert (.iface 260 (.agg #[.string ⟨i.toArray⟩,.int .i64 l])) 240 260 true).run prog k=.ok (.tuple #[.agg #[.string ⟨i.toArray⟩,.int .i64 l],.bool true]) k:=λk=>by kernel_rfl
 have u:=n.q;have v:=n.aw;have s:∀o,Below b.heap.size b (b.alloc o):=λo=>(Below.refl _ _).alloc (Y4 _) _;have p:=Z r;go_in;go_wp2_with fail;refine(FU i (p.b.t (s _)) (by omega) (by omega)).mono ?_;rintro m x ⟨rfl,q⟩;go_wp2;go_end0;exact⟨rfl,q⟩
def RO{Fr:List (Nat×Obj)}(i:Nat)(r:Cp e c Fr d a j h f g b)(m:aU a 1) :
  Calls prog 129 #[.pointer (some ⟨c.C,0,none⟩),.iface 372 (.agg #[.int .i64 i])] b λl u=>l=.returned (.tuple #[])/\cK e c Fr d (be (.num (ef i)) a) u:=by
 have A:∀k,(Instr.typeAssert (.iface 372 (.agg #[.int .i64 i])) 240 260 true).run prog k=.ok (.tuple #[.agg #[.string ⟨#[]⟩,.int .i64 0],.bool false]) k:=λk=>by kernel_rfl
 have B:∀k,(Instr.typeAssert (.iface 372 (.agg #[.int .i64 i])) 240 372 true).run prog k=.ok (.tuple #[.agg #[.int .i64 i],.bool true]) k:=λk=>by kernel_rfl
 have w:=m.q;have y:=m.aw;have s:∀n,Below b.heap.size b (b.alloc n):=λn=>(Below.refl _ _).alloc (Y4 _) _;have o:=Z r;go_in;go_wp2_with fail;refine(xc i _).mono ?_;rintro l D ⟨rfl,t⟩;have p:=(o.b.t (s _)).t t;go_wp2_with fail;refine(hY (v:=.iface 247 (.agg (BY (ef i) (.slice none 0 0)))) (x:=.num (ef i)) p ⟨[.int .i64 (ef i).g4,.int .i64 (ef i).g1,.slice none 0 0,.bool (ef i).b1],rfl,yg _ (yh i)⟩ (by omega)).mono ?_
 rintro l E ⟨rfl,z,q⟩;go_wp2;go_end0;exact⟨rfl,q.b8⟩
def RL{Fr:List (Nat×Obj)}(n:Int)(k:Bool)(r:Cp e c Fr d a j h f g b)(m:aU a 1) :
  Calls prog 129 #[.pointer (some ⟨c.C,0,none⟩),.iface 377 (.agg #[.int .i64 n,.bool k])] b λl t=>l=.returned (.tuple #[])/\cK e c Fr d (be (.text n k) a) t:=by
 have y:∀i,(Instr.typeAssert (.iface 377 (.agg #[.int .i64 n,.bool k])) 240 260 true).run prog i=.ok (.tuple #[.agg #[.string ⟨#[]⟩,.int .i64 0],.bool false]) i:=λi=>by kernel_rfl
 have z:∀i,(Instr.typeAssert (.iface 377 (.agg #[.int .i64 n,.bool k])) 240 372 true).run prog i=.ok (.tuple #[.agg #[.int .i64 0],.bool false]) i:=λi=>by kernel_rfl
 have A:∀i,(Instr.typeAssert (.iface 377 (.agg #[.int .i64 n,.bool k])) 240 377 true).run prog i=.ok (.tuple #[.agg #[.int .i64 n,.bool k],.bool true]) i:=λi=>by kernel_rfl
 have u:=m.q;have v:=m.aw;have s:∀o,Below b.heap.size b (b.alloc o):=λo=>(Below.refl _ _).alloc (Y4 _) _;have p:=Z r;go_in;go_wp2_with fail;refine(hY (x:=.text n k) (p.b.t (s _)) rfl (by omega)).mono ?_;rintro l B ⟨rfl,w,q⟩;go_wp2;go_end0;exact⟨rfl,q.b8⟩
def RP{Fr:List (Nat×Obj)}(n:Int)(k:Bool)(r:Cp e c Fr d a j h f g b)(m:aU a 1) :
  Calls prog 129 #[.pointer (some ⟨c.C,0,none⟩),.iface 380 (.agg #[.int .i64 n,.bool k])] b λl t=>l=.returned (.tuple #[])/\cK e c Fr d (be (.text n k) a) t:=by
 have y:∀i,(Instr.typeAssert (.iface 380 (.agg #[.int .i64 n,.bool k])) 240 260 true).run prog i=.ok (.tuple #[.agg #[.string ⟨#[]⟩,.int .i64 0],.bool false]) i:=λi=>by kernel_rfl
 have z:∀i,(Instr.typeAssert (.iface 380 (.agg #[.int .i64 n,.bool k])) 240 372 true).run prog i=.ok (.tuple #[.agg #[.int .i64 0],.bool false]) i:=λi=>by kernel_rfl
 have A:∀i,(Instr.typeAssert (.iface 380 (.agg #[.int .i64 n,.bool k])) 240 377 true).run prog i=.ok (.tuple #[.agg #[.int .i64 0,.bool false],.bool false]) i:=λi=>by kernel_rfl
 have B:∀i,(Instr.typeAssert (.iface 380 (.agg #[.int .i64 n,.bool k])) 240 380 true).run prog i=.ok (.tuple #[.agg #[.int .i64 n,.bool k],.bool true]) i:=λi=>by kernel_rfl
 have u:=m.q;have v:=m.aw;have s:∀o,Below b.heap.size b (b.alloc o):=λo=>(Below.refl _ _).alloc (Y4 _) _;have p:=Z r;go_in;go_wp2_with fail;refine(hY (x:=.text n k) (p.b.t (s _)) rfl (by omega)).mono ?_;rintro l D ⟨rfl,w,q⟩;go_wp2;go_end0;exact⟨rfl,q.b8⟩
def RQ{Fr:List (Nat×Obj)}  (n:Cp e c Fr d a j h f g b) (k:aU a 1) :
  Calls prog 129 #[.pointer (some ⟨c.C,0,none⟩),.iface 444 (.agg #[])] b λm o=>m=.returned (.tuple #[])/\cK e c Fr d (a) o:=by
 have r:∀i,(Instr.typeAssert (.iface 444 (.agg #[])) 240 260 true).run prog i=.ok (.tuple #[.agg #[.string ⟨#[]⟩,.int .i64 0],.bool false]) i:=λi=>by kernel_rfl
 have s:∀i,(Instr.typeAssert (.iface 444 (.agg #[])) 240 372 true).run prog i=.ok (.tuple #[.agg #[.int .i64 0],.bool false]) i:=λi=>by kernel_rfl
 have t:∀i,(Instr.typeAssert (.iface 444 (.agg #[])) 240 377 true).run prog i=.ok (.tuple #[.agg #[.int .i64 0,.bool false],.bool false]) i:=λi=>by kernel_rfl
 have u:∀i,(Instr.typeAssert (.iface 444 (.agg #[])) 240 380 true).run prog i=.ok (.tuple #[.agg #[.int .i64 0,.bool false],.bool false]) i:=λi=>by kernel_rfl
 have v:∀i,(Instr.typeAssert (.iface 444 (.agg #[])) 240 382 true).run prog i=.ok (.tuple #[.agg #[.nilIface,.int .i64 0,.bool false],.bool false]) i:=λi=>by kernel_rfl
 have w:∀i,(Instr.typeAssert (.iface 444 (.agg #[])) 240 385 true).run prog i=.ok (.tuple #[.agg #[.nilIface],.bool false]) i:=λi=>by kernel_rfl
 have p:=k.q;have q:=k.aw;have l:=Z n;go_in;go_wp2;go_end0;exact⟨rfl,l.b.b8⟩
def qu{Fr:List (Nat×Obj)}{t:Ty}(m:iG t)(i:Cp e c Fr d a j h f g b)(k:aU a 1) :
  Calls prog 129 #[.pointer (some ⟨c.C,0,none⟩),bW t] b λo s=>o=.returned (.tuple #[])/\cK e c Fr d (dr t a) s:=by
 cases t with
 |named t r=>exact RK t r i k
 |plain p=>exact RO p i k
 |opaq n l=>exact RL n l i k
 |str n l=>exact RP n l i k
 |void=>exact RQ i k
 |arr q n l=>exact absurd m (by simp[iG])
 |opt q=>exact absurd m (by simp[iG])
end
section
variable {b:eS}{e:List (Nat×Obj)}{a:aT}{c d:World}
def tD(b:dg)(a:aT):(be b a).q.length=a.q.length+1:=by simp[be]
def kR{Fr g:List (Nat×Obj)}(n:∀f∈e,f∈g)(k:cK d b Fr g a c):cK d b Fr e a c:=by
 obtain⟨h,q,p,i,j,l,m⟩:=k;exact⟨h,q,p,i,j,λf o=>l f (n f o),m⟩
def cK.cg{m:Nat×Obj}{Fr:List (Nat×Obj)}(i:cK d b (m::Fr) e a c):cK d b Fr e a c:=by
 obtain⟨f,n,l,g,h,j,k⟩:=i;exact⟨f,n,l,g,h,j,k.cg⟩
def FI{Fr:List (Nat×Obj)}{a3 a2:Value}{N:List (dg×Value)}{O:List (List UInt8×df×Value)}{f:Ty}(j:Int)(g:Bool)(a0:iG f)(h:Cp d b Fr e a a3 a2 N O c)(I:aU a 3) :
  Calls prog 208 #[.pointer (some ⟨b.C,0,none⟩),.agg #[bW f,.int .i64 j,.bool g]] c λl a4=>l=.returned (.tuple #[])/\cK d b Fr e (dr (.arr f j g) a) a4:=by
 have z:=h.d (.cells #[bW f,.int .i64 j,.bool g] 382);have c0:=I.q;have a1:aU (be .hole a) 2:=I.bn _;have b3:ho f<=1:=by cases f<;>simp[iG,ho]at *
 have u:=rZ f (be .hole a);have t:(be .hole a).q.length=a.q.length+1:=by simp[be]
 obtain⟨a5,x,G⟩:=fk f;have L:=Z G;rw[G]at z ⊢;clear h;go_in;go_wp2_with fail;refine(hY (v:=.iface 449 (.agg #[.int .i64 0,.bool false,.int .i64 0])) (x:=.hole) z ⟨_,_,rfl⟩ (by omega)).mono ?_
 rintro l c6 ⟨rfl,c3,o⟩;obtain⟨B,D,E,F⟩:=dS (o.G.hf _ Yb).1;go_wp2_with fail;have q:=qu a0 o (a1.bh (by omega));rw[L.b]at q;refine q.mono ?_;rintro l c7 ⟨rfl,a6,c4,c2,b1,b2,H,A⟩;clear q o B D E F;go_wp2_with fail;refine(hY (v:=.iface 450 (.agg #[])) (x:=.again) A rfl (by rw[u,t];omega)).mono ?_
 rintro l c8 ⟨rfl,c5,k⟩;clear A;obtain⟨B,D,E,F⟩:=dS (k.G.hf _ Yb).1;have s:(be .again (dr f (be .hole a))).q.length=a.q.length+ho f+2:=by rw[tD,u,t];omega
 obtain⟨a7,a8,a9,b0,b6,b9⟩:=k.r;obtain⟨P,M,rfl,b4,b5,⟨d0,c1⟩,b7,p⟩:=sg (i:=a.q.length) (x:=.array j g ((dr f (be .hole a)).q.length+1)) (v:=.iface 449 (.agg #[.int .i64 j,.bool g,.int .i64 ((be .again (dr f (be .hole a))).q.length:Int)])) (k.t (Below.refl _ _).drew) (by simp[jl,be]) (by rw[s];omega)
 have p:=Z p;have K:=Z (lf (k.t (Below.refl _ _).drew));have b8:(a.q.length:Int)<((be .again (dr f (be .hole a))).q.length:Int):=by rw[s];omega
 have J:=Z H;clear k H s u t;generalize S:(be .again (dr f (be .hole a))).q.length=y at *
 clear S;go_wp2_with fail;refine cR (λw=>w.cell? ⟨b.C,0,none⟩=some (.slice (some ⟨P,0,none⟩) y M)/\w.cell? ⟨c.heap.size,1,none⟩=some (.int .i64 j)/\w.cell? ⟨c.heap.size,2,none⟩=some (.bool g)) (L:=12) (by kernel_rfl) rfl (by kernel_rfl) (by kernel_rfl) ?_ (λR=>?_)
 .go_keep
 refine bH [0,1,2,3,4,5,6,7] ?_;iterate 8 (refine bO (v:=?_) rfl (by kernel_rfl) (λ_ _ _ h=>h) (by rfl) (by assumption) ?_ ?_;rotate_left;focus (intro d r;(try dsimp only at r);go_simp;(try with_reducible rfl));(try simp only[aK,aL,List.set]))
 refine bI ?_;refine cj 8 (by kernel_rfl) rfl λn m=>?_;(go_simp;go_at_call 128;refine K.b.mono ?_;rintro l c9 ⟨rfl,rfl⟩);refine m.out _ _ ?_ (λR=>?_)
 .go_keep
 clear m n;(try simp only[aK,aL,List.set]);refine bH [9,10,11] ?_;iterate 3 (refine bO (v:=?_) rfl (by kernel_rfl) (λ_ _ _ h=>h) (by rfl) (by assumption) ?_ ?_;rotate_left;focus (intro d r;(try dsimp only at r);go_simp;(try with_reducible rfl));(try simp only[aK,aL,List.set]))
 refine bI ?_;refine cP (by kernel_rfl) rfl λn m=>?_;go_simp;refine m.out _ _ ?_;clear m n;(try simp only[aK,aL,List.set]);go_wp2;go_end0;exact⟨rfl,(kR J.b p.b.b8).cg⟩
end
section
variable {e:eS}{g:List (Nat×Obj)}{h:List (dg×Value)}{et:List (List UInt8×df×Value)}{j k:Value}{b t:Ty}{a:aT}{f c:World}
def zi{W:World}{m:Nat}{l:List (Int×Nat×Nat)}(e:W.heap[m]? = some (jB l))(f:(l.map (·.1)).Nodup)(b:Int)(c a:Nat) :
  (Instr.mapUpdate 389 (.map (some m)) (.int .i64 b) (.agg #[.int .i64 c,.int .i64 a])).run prog W=.ok () (dm W m (jB (bE l b (c,a)))):=
 pN (P:=prog) (T:=389) (kt:=2) (et:=394) (d:=.int .i64) (by kernel_rfl) (by kernel_rfl) (λb:Int=>.int .i64 b) (λa:Nat×Nat=>.agg #[.int .i64 a.1,.int .i64 a.2]) (λ_=>rfl) (λ_=>PA _) Ja e f b (c,a)
def Gs(c:World):Calls prog 207 #[.int .i64 4] c λa b=>a=.returned (.agg #[.int .i64 0,.int .i64 1,.slice none 0 0,.bool false])/\Below c.heap.size c b:=xc 4 c
def JY(c:World)(b:Obj):c.heap.size<(c.alloc b).heap.size:=by simp
def Mh{Fr:List (Nat×Obj)}(b0:iG b)(o:Cp c e Fr g a k j h et f)(N:aU a 2) :
  Calls prog 209 #[.pointer (some ⟨e.C,0,none⟩),.agg #[bW b]] f λq b7=>q=.returned (.tuple #[])/\cK c e Fr g (dr (.opt b) a) b7:=by
 have d7:=jr;have G:=o.d (.cells #[bW b] 385);have d8:=N.q;have b3:aU (be .hole a) 1:=N.bn _;have c9:ho b<=1:=by cases b<;>simp[iG,ho]at *
 have O:=rZ b (be .hole a);have M:(be .hole a).q.length=a.q.length+1:=by simp[be]
 obtain⟨b9,a1,J⟩:=fk b;have a4:=Z J;rw[J]at G ⊢;clear o;go_in;go_wp2_with fail;refine(hY (v:=.iface 392 (.agg #[.int .i64 0,.int .i64 0,.slice none 0 0,.bool false,.map none,.pointer none])) (x:=.hole) G ⟨_,_,rfl⟩ (by omega)).mono ?_
 rintro q e4 ⟨rfl,e2,z⟩;have a5:=bL (z.G.hf _ Yb).1;go_wp2_with fail;have E:=qu b0 z (b3.bh (by omega));rw[a4.b]at E;refine E.mono ?_;rintro q d ⟨rfl,c0,e3,e1,c6,c7,K,H⟩;clear E z a5;have L:(dr b (be .hole a)).q.length=a.q.length+1+ho b:=by rw[O,M]
 have A:=H.d (.map #[] 0);have b6:=zi (W:=d.alloc (.map #[] 0)) (m:=d.heap.size) (l:=[]) (aJ rfl) (by simp) 0 (dr b (be .hole a)).q.length 0;obtain⟨W1,t⟩:∃W1,W1=dm (d.alloc (.map #[] 0)) d.heap.size (jB (bE [] 0 ((dr b (be .hole a)).q.length,0))):=⟨_,rfl⟩;have P:ai [d.heap.size] (d.alloc (.map #[] 0)) W1:=by rw[t];exact gV _ _ _
 have w:W1.heap[d.heap.size]? = some (jB [(0,(dr b (be .hole a)).q.length,0)]):=by rw[t];exact ka (JY _ _) _
 have I:=A.e6 P w;rw[<-t,show (((0:Nat)):Int)=0 from rfl]at b6;have S:=zi (W:=W1) (m:=d.heap.size) w (by simp) 1 (a.q.length+1) 1;obtain⟨s,u⟩:∃s,s=dm W1 d.heap.size (jB (bE [(0,(dr b (be .hole a)).q.length,0)] 1 (a.q.length+1,1))):=⟨_,rfl⟩;have R:ai [d.heap.size] W1 s:=by rw[u];exact gV _ _ _
 have a0:s.heap[d.heap.size]? = some (jB [(0,(dr b (be .hole a)).q.length,0),(1,a.q.length+1,1)]):=by rw[u];exact ka (aj w) _
 have p:=(I.e6 R a0).gO;rw[<-u,show (((1:Nat)):Int)=1 from rfl]at S;rw[show (((a.q.length+1:Nat)):Int)=(a.q.length:Int)+1 by omega]at S;have a3:=Z (lf A);obtain⟨c1,c2,c3,c4,d3,d6⟩:=p.r;obtain⟨ad,a6,rfl⟩:=p.ck;have d5:(a.q.length:Int)<((dr b (be .hole a)).q.length:Int):=by rw[L];omega
 have b1:a.q.length<(dr b (be .hole a)).q.length:=by omega
 have p:=Z p;have a2:=Z K;have d9:a.q.length<1000000:=by omega
 clear A I H K w a0 P R t u L O M;generalize a8:(dr b (be .hole a)).q.length=y at *
 go_wp2_with fail;refine a3.b.mono ?_;rintro q e5 ⟨rfl,rfl⟩;go_wp2_with fail;refine cR (λb8=>b8.cell? ⟨e.C,0,none⟩=some (.slice ad y a6)) (L:=10) (by kernel_rfl) rfl (by kernel_rfl) (by kernel_rfl) ?_ (λa7=>?_)
 .go_keep
 refine bH [0,1,2,3,4,6] ?_;iterate 6 (refine bO (v:=?_) rfl (by kernel_rfl) (λ_ _ _ o=>o) (by rfl) (by assumption) ?_ ?_;rotate_left;focus (intro c F;(try dsimp only at F);go_simp;(try with_reducible rfl));(try simp only[aK,aL,List.set]))
 refine bI ?_;refine cj 5 (by kernel_rfl) rfl λx r=>?_;(go_simp;go_at_call 207;refine(Gs _).mono ?_;rintro q e6 ⟨rfl,a9⟩;have B:=(p.b.t (Below.refl _ _).drew).t a9;have d0:=B.r.1;obtain⟨c8,c5,b4,d1,d2,⟨e7,e0⟩,d4,D⟩:=sg (i:=a.q.length) (x:=.choice (ef 4) [(0,y,0),(1,a.q.length+1,1)] none) (v:=.iface 392 (.agg #[.int .i64 0,.int .i64 1,.slice none 0 0,.bool false,.map (some d.heap.size),.pointer none])) B ⟨[.int .i64 0,.int .i64 1,.slice none 0 0,.bool false],d.heap.size,.pointer none,rfl,yg (n:=ef 4) _ (yh 4),by simp,rfl⟩ (by rw[a8];exact b1);have D:=Z D;clear B;cases b4)
 refine r.out _ _ ?_ (λa7=>?_)
 .go_keep
 clear r x;(try simp only[aK,aL,List.set]);refine bH [7,8,9] ?_;iterate 3 (refine bO (v:=?_) rfl (by kernel_rfl) (λ_ _ _ o=>o) (by rfl) (by assumption) ?_ ?_;rotate_left;focus (intro c F;(try dsimp only at F);go_simp;(try with_reducible rfl));(try simp only[aK,aL,List.set]))
 refine bI ?_;refine cP (by kernel_rfl) rfl λx r=>?_;go_simp;refine r.out _ _ ?_;clear r x;(try simp only[aK,aL,List.set]);go_wp2;go_end0;exact⟨rfl,(kR (λb5 b2=>Y5 _ (a2.b b5 b2)) D.b.b8).cg⟩
def RJ{Fr:List (Nat×Obj)}(l:Int)(i:Bool)(v:iG b)(r:Cp c e Fr g a k j h et f)(w:aU a 3) :
  Calls prog 129 #[.pointer (some ⟨e.C,0,none⟩),.iface 382 (.agg #[bW b,.int .i64 l,.bool i])] f λq y=>q=.returned (.tuple #[])/\cK c e Fr g (dr (.arr b l i) a) y:=by
 obtain⟨m,n,p⟩:=fk b;have s:=Z p;rw[p];have z:∀d,(Instr.typeAssert (.iface 382 (.agg #[.iface m n,.int .i64 l,.bool i])) 240 260 true).run prog d=.ok (.tuple #[.agg #[.string ⟨#[]⟩,.int .i64 0],.bool false]) d:=λd=>by kernel_rfl
 have A:∀d,(Instr.typeAssert (.iface 382 (.agg #[.iface m n,.int .i64 l,.bool i])) 240 372 true).run prog d=.ok (.tuple #[.agg #[.int .i64 0],.bool false]) d:=λd=>by kernel_rfl
 have B:∀d,(Instr.typeAssert (.iface 382 (.agg #[.iface m n,.int .i64 l,.bool i])) 240 377 true).run prog d=.ok (.tuple #[.agg #[.int .i64 0,.bool false],.bool false]) d:=λd=>by kernel_rfl
 have D:∀d,(Instr.typeAssert (.iface 382 (.agg #[.iface m n,.int .i64 l,.bool i])) 240 380 true).run prog d=.ok (.tuple #[.agg #[.int .i64 0,.bool false],.bool false]) d:=λd=>by kernel_rfl
 have E:∀d,(Instr.typeAssert (.iface 382 (.agg #[.iface m n,.int .i64 l,.bool i])) 240 382 true).run prog d=.ok (.tuple #[.agg #[.iface m n,.int .i64 l,.bool i],.bool true]) d:=λd=>by kernel_rfl
 have u:∀b,Below f.heap.size f (f.alloc b):=λb=>(Below.refl _ _).alloc (Y4 _) _;have o:=λx=>FI l i v (r.t (u x)) w;rw[s.b]at o;have o:=Z o;clear r p;go_in;go_wp2_with fail;refine(o.b _).mono ?_;rintro q F ⟨rfl,t⟩;go_wp2;go_end0;exact⟨rfl,t⟩
def RM{Fr:List (Nat×Obj)}(t:iG b)(p:Cp c e Fr g a k j h et f)(u:aU a 2) :
  Calls prog 129 #[.pointer (some ⟨e.C,0,none⟩),.iface 385 (.agg #[bW b])] f λo w=>o=.returned (.tuple #[])/\cK c e Fr g (dr (.opt b) a) w:=by
 obtain⟨i,l,n⟩:=fk b;have q:=Z n;rw[n];have x:∀d,(Instr.typeAssert (.iface 385 (.agg #[.iface i l])) 240 260 true).run prog d=.ok (.tuple #[.agg #[.string ⟨#[]⟩,.int .i64 0],.bool false]) d:=λd=>by kernel_rfl
 have y:∀d,(Instr.typeAssert (.iface 385 (.agg #[.iface i l])) 240 372 true).run prog d=.ok (.tuple #[.agg #[.int .i64 0],.bool false]) d:=λd=>by kernel_rfl
 have z:∀d,(Instr.typeAssert (.iface 385 (.agg #[.iface i l])) 240 377 true).run prog d=.ok (.tuple #[.agg #[.int .i64 0,.bool false],.bool false]) d:=λd=>by kernel_rfl
 have A:∀d,(Instr.typeAssert (.iface 385 (.agg #[.iface i l])) 240 380 true).run prog d=.ok (.tuple #[.agg #[.int .i64 0,.bool false],.bool false]) d:=λd=>by kernel_rfl
 have B:∀d,(Instr.typeAssert (.iface 385 (.agg #[.iface i l])) 240 382 true).run prog d=.ok (.tuple #[.agg #[.nilIface,.int .i64 0,.bool false],.bool false]) d:=λd=>by kernel_rfl
 have D:∀d,(Instr.typeAssert (.iface 385 (.agg #[.iface i l])) 240 385 true).run prog d=.ok (.tuple #[.agg #[.iface i l],.bool true]) d:=λd=>by kernel_rfl
 have s:∀b,Below f.heap.size f (f.alloc b):=λb=>(Below.refl _ _).alloc (Y4 _) _;have m:=λv=>Mh t (p.t (s v)) u;rw[q.b]at m;have m:=Z m;clear p n;go_in;go_wp2_with fail;refine(m.b _).mono ?_;rintro o E ⟨rfl,r⟩;go_wp2;go_end0;exact⟨rfl,r⟩
def uz{Fr:List (Nat×Obj)}(n:gy t)(d:Cp c e Fr g a k j h et f)(i:aU a 3) :
  Calls prog 129 #[.pointer (some ⟨e.C,0,none⟩),bW t] f λo r=>o=.returned (.tuple #[])/\cK c e Fr g (dr t a) r:=by
 cases t with
 |arr b m l=>exact RJ m l n d i
 |opt b=>exact RM n d (i.bh (by omega))
 |named t q=>exact qu (t:=.named t q) trivial d (i.bh (by omega))
 |plain p=>exact qu (t:=.plain p) trivial d (i.bh (by omega))
 |opaq m l=>exact qu (t:=.opaq m l) trivial d (i.bh (by omega))
 |str m l=>exact qu (t:=.str m l) trivial d (i.bh (by omega))
 |void=>exact qu (t:=.void) trivial d (i.bh (by omega))
def xg{Fr:List (Nat×Obj)}(l:gy t)(i:Cp c e Fr g a k j h et f)(m:aU a 4) :
  Calls prog 134 #[.pointer (some ⟨e.C,0,none⟩),bW t] f λb u=>b=.returned (.int .i64 a.q.length)/\cK c e Fr g (nD t a) u:=by
 have s:(dr t a).q.length<1000000:=by
  have A:=rZ t a;have B:=pw l;have D:=m.q;omega
 have d:=Z (uz l i (m.bh (by omega)));obtain⟨x,w,q⟩:=fk t;rw[q]at d ⊢;go_in;go_wp2_with fail;refine(lf i).mono ?_;rintro b H ⟨rfl,rfl⟩;go_wp2_with fail;refine d.b.mono ?_;rintro b I ⟨rfl,p,F,E,y,z,r,n⟩;go_wp2_with fail;refine(hY (v:=.iface 397 (.agg #[])) (x:=.fin) n rfl s).mono ?_
 rintro b J ⟨rfl,G,o⟩;go_wp2;go_ret;exact⟨rfl,p,_,_,_,_,r,o⟩
end
section
variable {b:eS}{e:Nat}{d:List (Nat×Obj)}{h:List (dg×Value)}{i:List (List UInt8×df×Value)}{j k:Value}{g:Obj}{s:aT}{f a:World}
def cK.dF{Fr:List (Nat×Obj)}(h:cK a b Fr d s f)(c:a.heap[e]? = some g):f.heap[e]? = some g:=by
 obtain⟨_,_,_,_,_,_,i⟩:=h;exact(i.G.B.i _ (aj c) (by simp)).trans c
def Cp.dF{Fr:List (Nat×Obj)}(c:Cp a b Fr d s k j h i f)(l:a.heap[e]? = some g):f.heap[e]? = some g:=c.b8.dF l
def yz(b:List Ty):∀{s:aT} {n:Nat},(∀a∈b,gy a)->aU s (n+3*b.length)->aU (b.foldl (λs a=>dr a s) s) n:=by
 induction b with
 |nil=>intro s n _ c;exact c
 |cons a b f=>
  intro s n d c;have g:=pw (d a (by simp));exact f (λa e=>d a (Y5 _ e)) (sr a (c.bh (by simp only[YC];omega)))
def Qr{Fr:List (Nat×Obj)}{I:List (Nat×Obj)}{a7:Nat}{R:List UInt8}{g:List aF}(b2:dw I e (.struct R a7 g))(N:∀O∈I,a.heap[O.1]? = some O.2)(c3:∀o∈g,gy o.k)(J:Cp a b Fr d s k j h i f)(M:aU s (4+3*g.length)) :
  Calls prog 132 #[.pointer (some ⟨b.C,0,none⟩),.pointer (some ⟨e,0,none⟩)] f λp d0=>p=.returned (.tuple #[])/\cK a b Fr d (yW g s) d0:=by
 obtain⟨e9,b0,c1⟩:=b2;have L:=N _ b0;obtain⟨e5,e6,e7,_⟩:=dS (J.dF L);have G:=Z (λ(v:World) (r:cK a b Fr d (be (.struct g.length true) s) v)=>dS (r.dF L));have e4:=M.q;have b8:aU (be (.struct g.length true) s) (3+3*g.length):=aU.bn (M.bh (by omega)) _;have a3:=Z b8;have H:=Z c3;have F:=Z J;rcases c1 with⟨rfl,a9,_⟩|⟨r,d4,d5,rfl,⟨d8,e3⟩,b3,D⟩
 .have b7:g=[]:=Yv.1 a9;subst b7;go_in;go_wp2_with fail;refine(hY (x:=.struct 0 true) F.b rfl (by omega)).mono ?_;rintro p S ⟨rfl,c9,q⟩;obtain⟨c6,c7,c8,_⟩:=G.b _ q.b8;have y:=Z q.b8;go_wp2;go_loopw [21] (λl E=>l=.int .i64 0/\E=S) (λ_ _=>0)
  case atStart=>exact⟨rfl,rfl⟩
  case round=>
   obtain⟨rfl,rfl⟩:=hrel;go_wp2;go_end0;exact⟨rfl,y.b⟩
 .have b4:=N _ b3;have c0:∀(v:World) (P:aT),cK a b Fr d P v->∀l (u:l<g.length),v.cell? ⟨r,l*3,none⟩=some (.string ⟨g[l].t.toArray⟩)/\v.cell? ⟨r,l*3+1,none⟩=some (.int .i64 g[l].m)/\v.cell? ⟨r,l*3+2,none⟩=some (bW g[l].k):=by
   intro v P a8 l u;have A:=a8.dF b4;have z:=lc (c:=hk) (n:=3) (λ_=>rfl) g l;refine⟨cu A D ?_,cu A D ?_,cu A D ?_⟩
   .have:=z 0 u (by omega);simpa using this
   .have:=z 1 u (by omega);simpa using this
   .have:=z 2 u (by omega);simpa using this
  have a2:=Z c0;go_in;go_wp2_with fail;refine(hY (x:=.struct g.length true) F.b rfl (by omega)).mono ?_;rintro p S ⟨rfl,c9,q⟩;obtain⟨c6,c7,c8,_⟩:=G.b _ q.b8;have y:=Z q.b8;go_wp2;go_loopw [21] (λl E=>∃(m:Nat),l=.int .i64 m/\m<=g.length/\U (cK a b Fr d ((g.take m).foldl (λs o=>dr o.k s) (be (.struct g.length true) s)) E)) (λl _=>g.length-(intOf l).toNat)
  case atStart=>exact⟨0,rfl,by omega,y⟩
  case round=>
   obtain⟨m,rfl,e2,w⟩:=hrel;rcases Yj m g.length with B|d9
   .obtain⟨f0,f1,c5⟩:=a2.b _ _ w.b m B;obtain⟨d2,f3,K⟩:=fk g[m].k;have a4:=Z K;rw[K]at c5;have e0:(0:Int)<=↑m:=by omega
    have e1:(↑m:Int) < ↑g.length:=by omega
    obtain⟨d3,f2,e8,d6,d7,b1,a5⟩:=w.b;have b9:aU ((g.take m).foldl (λs o=>dr o.k s) (be (.struct g.length true) s)) 3:=by
     have p:=yz ((g.take m).map (·.k)) (s:=be (.struct g.length true) s) (n:=3) (by intro R c2;obtain⟨o,b6,rfl⟩:=YE.1 c2;exact H.b o (List.mem_of_mem_take b6)) (a3.b.bh (by simp;omega));rw[List.foldl_map]at p;exact p
    have t:=λc4=>uz (H.b g[m] (Yy B)) (a5.t ((Below.refl wr.heap.size wr).alloc (Y4 _) c4)) b9;rw[a4.b]at t;have t:=Z t;have a1:=Z b1;go_wp2_with fail;refine(t.b _).mono ?_;rintro p d1 ⟨rfl,a6⟩;have a0:U (cK a b Fr d ((g.take (m+1)).foldl (λs o=>dr o.k s) (be (.struct g.length true) s)) d1):=by
     rw[Yt B,YS];exact kR a1.b a6
    go_wp2;exact⟨⟨m+1,by go_num,by omega,a0⟩,by simp[intOf];omega⟩
   .have b5:m=g.length:=by omega
    subst b5;go_wp2;go_end0;refine⟨rfl,?_⟩;have:=w.b;rw[YG]at this;exact this
end
section
variable {c:eS}{d:List (Nat×Obj)}{f:List (dg×Value)}{g:List (List UInt8×df×Value)}{h i:Value}{b:aT}{a e:World}
abbrev mi(e d:Int)(c:Option Addr)(a b:Nat)(f:Bool):List Value:=[.int .i64 e,.int .i64 d,.slice c a b,.bool f]
def iI.bY{a:List Value}{j:df}(f:iI d a j):∃i h c b e k,a=mi i h c b e k:=by
 obtain⟨l,g,_,m,n,o,rfl⟩:=f;exact⟨_,_,_,_,_,_,g⟩
def OH{Fr:List (Nat×Obj)}{u:Ty}(J:gh u)(z:Cp e c Fr d b i h f g a) :
  Calls prog 210 #[.pointer (some ⟨c.C,0,none⟩),bW u] a λy P=>∃o n q r s p,y=.returned (.agg (mi o n q r s p).toArray)/\iI d (mi o n q r s p) (nB b u)/\Below a.heap.size a P:=by
 have H:∀m,Below a.heap.size a (a.alloc m):=λm=>(Below.refl _ _).alloc (Y4 _) _;have x:∀m D,Below a.heap.size a ((a.alloc m).alloc D):=λm D=>(H m).alloc (by simp) _;cases u with
 |named t l=>
  have O:∀k,(Instr.typeAssert (.iface 260 (.agg #[.string ⟨t.toArray⟩,.int .i64 l])) 240 260 true).run prog k=.ok (.tuple #[.agg #[.string ⟨t.toArray⟩,.int .i64 l],.bool true]) k:=λk=>by kernel_rfl
  have G:=(z.t (x (.cells #[.int .i64 0,.int .i64 0,.slice none 0 0,.bool false] 247) (.cells #[.string ⟨t.toArray⟩,.int .i64 l] 260))).t (Below.refl _ _).drew;obtain⟨v,a6,a3,rfl,A⟩:=G.nx t;obtain⟨o,n,q,r,s,p,rfl⟩:=A.bY;obtain⟨S,a0,a1,a2,a5,I⟩:=z.r;have F:=Z A;dsimp only[bW];go_in;go_wp2;go_region;go_wp2;refine bodyPost_ret (v:=.agg #[.int .i64 o,.int .i64 n,.slice q r s,.bool p]) (by simp[results,results210,go_sem]) rfl ⟨o,n,q,r,s,p,rfl,F.b,?_⟩;exact(x _ _).drew
 |plain j=>
  have O:∀k,(Instr.typeAssert (.iface 372 (.agg #[.int .i64 j])) 240 260 true).run prog k=.ok (.tuple #[.agg #[.string ⟨#[]⟩,.int .i64 0],.bool false]) k:=λk=>by kernel_rfl
  have b1:∀k,(Instr.typeAssert (.iface 372 (.agg #[.int .i64 j])) 240 372 true).run prog k=.ok (.tuple #[.agg #[.int .i64 j],.bool true]) k:=λk=>by kernel_rfl
  dsimp only[bW];go_in;go_wp2_with fail;refine(xc j _).mono ?_;rintro y R ⟨rfl,B⟩;have w:R.heap[a.heap.size]? = some (.cells #[.int .i64 0,.int .i64 0,.slice none 0 0,.bool false] 247):=
   (B.block _ (by simp;omega)).trans ((Below.heap_alloc _ _ _ (by simp)).trans (aJ rfl))
  obtain⟨a7,a8,a9,b0,a4⟩:=iE w;have I:=aj w;obtain⟨K,L,M,N,_⟩:=iE (yF (k':=.int .i64 (ef j).g4) (t':=.int .i64 (ef j).g1) (n':=.slice none 0 0) (a':=.bool (ef j).b1) w);have E:=Z (((((x _ _).trans (B.mono (by simp;omega))).setCell (p:=⟨a.heap.size,0,none⟩) (Y4 _) (.int .i64 (ef j).g4)).setCell (p:=⟨a.heap.size,1,none⟩) (Y4 _) (.int .i64 (ef j).g1)).setCell (p:=⟨a.heap.size,2,none⟩) (Y4 _) (.slice none 0 0) |>.setCell (p:=⟨a.heap.size,3,none⟩) (Y4 _) (.bool (ef j).b1));go_wp2;exact bodyPost_ret (v:=.agg #[.int .i64 (ef j).g4,.int .i64 (ef j).g1,.slice none 0 0,.bool (ef j).b1]) (by simp[results,results210,go_sem,K,L,M,N]) rfl ⟨(ef j).g4,(ef j).g1,none,0,0,(ef j).b1,rfl,yg _ (yh j),E.b⟩
 |_=>simp[gh]at J
def FE{Fr:List (Nat×Obj)}{j:aF}{ca:Option Addr}{cn cc:Nat}(a1:gy j.k)(E:Cp e c Fr d b i h f g a)(a0:aU b 3) :
  Calls prog 211 #[.pointer (some ⟨c.C,0,none⟩),.agg #[.slice ca cn cc,.string ⟨j.t.toArray⟩,.int .i64 j.m,bW j.k]] a λs a2=>s=.returned (.agg #[.int .i64 (fa j b).1,.int .i64 (fa j b).2])/\cK e c Fr d (ku j b) a2:=by
 have n:=(E.d (.cells #[.slice ca cn cc,.string ⟨j.t.toArray⟩,.int .i64 j.m,bW j.k] 363)).d (.cells #[.int .i64 0,.int .i64 0] 394);have m:=Z (lf n);have q:=n.d (.cells #[.int .i64 b.q.length,.int .i64 1] 394);cases o:tc j.k with
 |true=>
  have A:j.k=.void:=by cases z:j.k<;>rw[z]at o<;>simp[tc]at o
  have F:∀l,(Instr.typeAssert (.iface 444 (.agg #[])) 240 444 true).run prog l=.ok (.tuple #[.agg #[],.bool true]) l:=λl=>by kernel_rfl
  have w:U (fa j b=(b.q.length,0)):=by show _=_;simp[fa,A,tc]
  have I:U (ku j b=b):=by show _=_;simp[ku,A,dr]
  rw[A]at n q m ⊢;dsimp only[bW]at n q m ⊢;have J:=Z E;go_in;go_wp2_with fail;refine m.b.mono ?_;rintro s a3 ⟨rfl,rfl⟩;go_wp2;refine bodyPost_ret (v:=.agg #[.int .i64 b.q.length,.int .i64 0]) (by simp[results,results211,go_sem]) rfl ⟨by rw[w.b];rfl,?_⟩;rw[I.b];exact((((J.b.d _).d _).d _).cg.cg.cg).b8
 |false=>
  have F:∀l,(Instr.typeAssert (bW j.k) 240 444 true).run prog l=.ok (.tuple #[.agg #[],.bool false]) l:=by
   intro l;cases z:j.k with
   |void=>rw[z]at o;simp[tc]at o
   |_=>kernel_rfl
  have w:U (fa j b=(b.q.length,1)):=by show _=_;simp[fa,o]
  obtain⟨a4,b6,R⟩:=fk j.k;have r:=uz a1 q a0;rw[R]at n q m F r ⊢;have r:=Z r;go_in;go_wp2_with fail;refine m.b.mono ?_;rintro s a3 ⟨rfl,rfl⟩;go_wp2_with fail;refine r.b.mono ?_;rintro s k ⟨rfl,a5,b5,b4,b1,b2,S,x⟩;have G:=(x.G.hf _ Yb).1;have u:=(x.G.hf _ (Y5 _ Yb)).1;have D:=x.cg;simp only[World.size_alloc,Nat.add_assoc]at G u D;have L:k.cell? ⟨a.heap.size+2,0,none⟩=some (.int .i64 b.q.length)/\k.cell? ⟨a.heap.size+2,1,none⟩=some (.int .i64 1):=by constructor<;>simp[World.cell?,G]
  have P:k.cell? ⟨a.heap.size+1,0,none⟩=some (.int .i64 0)/\k.cell? ⟨a.heap.size+1,1,none⟩=some (.int .i64 0)/\∀B,k.frozen? ⟨a.heap.size+1,B,none⟩=false:=by refine⟨?_,?_,?_⟩<;>simp[World.cell?,World.frozen?,u]
  obtain⟨a6,a7⟩:=L;obtain⟨a8,a9,b0⟩:=P;have H:=bu (i:=1) (bu (i:=0) u (.int .i64 b.q.length)) (.int .i64 1);have M:((k.setCell ⟨a.heap.size+1,0,none⟩ (.int .i64 b.q.length)).setCell ⟨a.heap.size+1,1,none⟩ (.int .i64 1)).cell? ⟨a.heap.size+1,0,none⟩=some (.int .i64 b.q.length)/\((k.setCell ⟨a.heap.size+1,0,none⟩ (.int .i64 b.q.length)).setCell ⟨a.heap.size+1,1,none⟩ (.int .i64 1)).cell? ⟨a.heap.size+1,1,none⟩=some (.int .i64 1):=by constructor<;>simp[World.cell?,H]
  obtain⟨N,O⟩:=M;have y:=D.e6 (((ah [a.heap.size+1] k).O (p:=⟨a.heap.size+1,0,none⟩) (by simp) (.int .i64 b.q.length)).O (p:=⟨a.heap.size+1,1,none⟩) (by simp) (.int .i64 1)) H;have y:=Z y;have b3:=aj u;have K:=Z S;go_wp2;refine bodyPost_ret (v:=.agg #[.int .i64 b.q.length,.int .i64 1]) (by simp[results,results211,go_sem,N,O]) rfl ⟨by rw[w.b];rfl,?_⟩;exact kR K.b y.b.cg.cg.b8
end
section
variable {d:List Int}{b:Value}{a e c:World}
abbrev rB(b:Value):Obj:=.cells #[.int .i64 (-2147483648),.int .i64 2147483647,b,.bool false] 247
abbrev sf:Obj:=.cells #[.int .i64 0,.int .i64 0,.slice none 0 0,.bool false] 247
structure lK(a:World)(k:Nat)(d:List Int)(b:Value)(v:World):Prop where
 G:dD a ([a.heap.size+1]++(b.ownBlock.toList++[])) [(a.heap.size,sf)] [] v
 I:v.heap[a.heap.size+1]? = some (rB b)
 row:v.ownsRow a.heap.size 2 1 b k (d.map λn=>Value.int .i64 n)
 nn:k=0->b=.slice none 0 0
def lK.cl{v:World}{f g h:Nat}{n:Int}(j:lK a f d b v)(m:Below v.heap.size v e)
  (s:c.ownsRow a.heap.size 2 1 (.slice (some ⟨g,0,none⟩) (f+1) h) (f+1) ((d.map λn=>Value.int .i64 n)++[.int .i64 n])) (o:e.grownBy c b.ownBlock) (u:b.ownBlock=some g\/g=e.heap.size) (y:g<c.heap.size) :
  lK a (f+1) (d++[n]) (.slice (some ⟨g,0,none⟩) (f+1) h) (c.setCell ⟨a.heap.size+1,2,none⟩ (.slice (some ⟨g,0,none⟩) (f+1) h)):=by
 obtain⟨D,_⟩:=gH s (g:=g) rfl;have t:=j.G.t m;have x:=eJ o;have r:=wz (A:=[a.heap.size+1]) (B:=[]) t o u y D;have p:ai [a.heap.size+1] c (c.setCell ⟨a.heap.size+1,2,none⟩ (.slice (some ⟨g,0,none⟩) (f+1) h)):=(ah [a.heap.size+1] c).O (by simp) _;have q:=j.G.H;have C:=r.H;simp at q C;have w:a.heap.size+1 ∉ b.ownBlock.toList:=by
  intro z;exact q.1 (by simpa using z)
 have k:e.heap[a.heap.size+1]? = some (rB b):=(m.block _ (aj j.I)).trans j.I;refine⟨r.a4 p (by simp),bu (i:=2) ((x.i _ (aj k) w).trans k) _,?_,by omega⟩;have:=aX s p (by
  intro E l;simp only[Value.ownBlock,Yu]at l;subst l;simp;omega)
 simpa using this
def lK.ck{v:World}{e:Nat}(g:lK a e d b v):∃ad c,b=.slice ad e c:=by
 rcases g.row.2 with⟨rfl,f⟩|⟨i,c,h,rfl,_⟩
 .exact⟨none,0,by rw[f]⟩
 .exact⟨_,_,rfl⟩
def lK.fF{v:World}{l:Nat}(f:lK a l d b v)(g:Below v.heap.size v e)(j:e.grownBy c b.ownBlock):c.heap[a.heap.size+1]? = some (rB b):=by
 have k:=aj f.I;have h:=f.G.H;have m:=g.size;simp at h;exact(j.block _ (by omega) (λi=>h.1 (by rw[<-i]))).trans ((g.block _ k).trans f.I)
def Bx(a:World):lK a 0 [] (.slice none 0 0) ((a.alloc sf).alloc (rB (.slice none 0 0))):=by
 have d:(a.alloc sf).heap.size=a.heap.size+1:=by simp
 refine⟨⟨((ah [] a).d _).d _,?_,?_,by simp[Value.ownBlock],?_,?_,by simp,by simp,by simp⟩,aJ d.symm,⟨by simp,Y8 ⟨rfl,rfl⟩⟩,λ_=>rfl⟩
 .intro f c;simp[Value.ownBlock]at c;omega
 .intro f c;simp[Value.ownBlock]at c;simp;omega
 .intro e b;simp only[Yc]at b;subst b;refine⟨(Below.heap_alloc _ _ _ (by simp)).trans (aJ rfl),by simp[Value.ownBlock]⟩
 .intro e b;cases b
def EG(a:World)(l:List (List UInt8×Nat×Int))(k:Ending)(f:World):Prop:=∃e d h i j g c,k=.returned (.agg (mi e d h i j g).toArray)/\iI c (mi e d h i j g) (jV l)/\Below a.heap.size a f/\∀b∈c,f.heap[b.1]? = some b.2/\a.heap.size<=b.1
def Kk{J:List (Nat×Obj)}{z b2:Nat}{t:List UInt8}{d:List (List UInt8×Nat×Int)}(c9:dw J z (.enum t b2 d))(y:∀p∈J,a.heap[p.1]? = some p.2) :
  Calls prog 130 #[.pointer (some ⟨z,0,none⟩)] a (EG a d):=by
 obtain⟨f4,k,c5,h0,e6,d0⟩:=c9;have R:=y _ c5;obtain⟨h2,h3,f3,_⟩:=dS R;obtain⟨f2,d6,e8,e9,f0⟩:=info_parts AW;have b0:=Z (Bx a);have e0:=aj R;have hS:∀(b:Value) (v:World),lK a d.length (d.map (·.2.2)) b v->d.length<=1000->∃i l m q,b=.slice i l m/\iI q (mi (-2147483648) 2147483647 i l m false) (jV d)/\(∀p∈q,p.1≠a.heap.size/\v.heap[p.1]? = some p.2/\a.heap.size<=p.1):=by
  intro b v g e1;rcases g.row.2 with⟨rfl,C⟩|⟨r,K,A,rfl,d1,d2,d3,g5,g6,d4⟩
  .have j:d=[]:=Yv.1 C;subst j;exact⟨none,0,0,[],rfl,⟨_,rfl,by simp[jV,wx],_,_,_,rfl⟩,by intro p h;cases h⟩
  .refine⟨_,_,_,[(r,.cells A 2)],rfl,⟨_,rfl,?_,_,_,_,rfl⟩,?_⟩
   .simp only[jV];by_cases j:d=[]
    .have:=g.nn (by simp[j]);cases this
    .rw[Y2 j];refine⟨by simpa using j,Ya ⟨r,K,A,by simp,⟨by simpa using d3,by simpa using e1⟩,by simp,?_⟩⟩;simpa using d4
   .intro p h;simp only[Yc]at h;subst h;have:=g.G.hf (a.heap.size,sf) (by simp);refine⟨λN=>this.2 ?_,d2,d1⟩;simp only at N;simp[Value.ownBlock,N]
 have a7:=Z hS;have g2:((a.alloc sf).alloc (rB (.slice none 0 0))).cell? ⟨z,2,none⟩=some f4:=by
  rw[World.cell?_of_block (w:=a) (((Bx a).G.B.i _ e0 (by simp)))];exact f3
 rcases e6 with⟨rfl,C,_⟩|⟨r,K,A,rfl,⟨g4,e3⟩,S,e7⟩
 .have j:d=[]:=Yv.1 C;subst j;go_in;go_wp2;go_loopw [12] (λe G=>e=.int .i64 0/\G=(a.alloc sf).alloc (rB (.slice none 0 0))) (λ_ _=>0)
  case atStart=>exact⟨rfl,rfl⟩
  case round=>
   obtain⟨rfl,rfl⟩:=hrel;go_wp2;refine bodyPost_ret (v:=.agg #[.int .i64 (-2147483648),.int .i64 2147483647,.slice none 0 0,.bool false]) (by simp[results,results130,go_sem]) rfl ⟨-2147483648,2147483647,none,0,0,false,[],rfl,⟨_,rfl,by simp[jV,wx],_,_,_,rfl⟩,?_,by intro p h;cases h⟩;exact((Below.refl _ _).alloc (Y4 _) _).alloc (by simp) _
 .have e5:∀(v:World),ai [] a v->∀e (a0:e<d.length) (F:e<k.length),v.cell? ⟨r,e,none⟩=some (.pointer (some ⟨k[e],0,none⟩))/\v.cell? ⟨k[e],2,none⟩=some (.int .i64 d[e].2.2)/\k[e]<a.heap.size/\a.cell? ⟨k[e],2,none⟩=some (.int .i64 d[e].2.2):=by
   intro v a2 e a0 F;have d5:=(a2.i _ (aj (y _ S)) (by simp)).trans (y _ S);have u:=y _ (d0 e a0 F);have c8:=(a2.i _ (aj u) (by simp)).trans u;exact⟨cu d5 e7 (by simp[F]),(dS c8).2.2.1,aj u,(dS u).2.2.1⟩
  have a9:=Z e5;go_in;go_wp2;go_loopw [12] (λe G=>∃(c:Nat) (b:Value),e=.int .i64 c/\c<=d.length/\U (lK a c ((d.take c).map (·.2.2)) b G)) (λe _=>d.length-(intOf e).toNat)
  case atStart=>exact⟨0,_,rfl,by omega,b0⟩
  case round=>
   obtain⟨c,b,rfl,x,f⟩:=hrel;rcases Yj c d.length with a1|g7
   .obtain⟨h4,h5,f9,g0⟩:=a9.b _ f.b.G.B c a1 (by omega);obtain⟨ad,M,rfl⟩:=f.b.ck;obtain⟨b4,b5,b6,b7,b8⟩:=iE f.b.I;have g8:(0:Int)<=↑c:=by omega
    have g9:(↑c:Int) < ↑d.length:=by omega
    have d8:c+1<=maxLen:=by unfold maxLen;omega
    have d9:(c+1)*8<=140737488355328:=by omega
    have f1:(Value.int .i64 0).cells.size=1:=rfl;have h1:a.heap.size<=wr.heap.size:=f.b.G.B.F;have na:a.heap.size+1<wr.heap.size:=aj f.b.I;go_wp2_with fail;refine cR (λa5=>a5.cell? ⟨a.heap.size+1,2,none⟩=some (.slice ad c M)/\a5.cell? ⟨k[c],2,none⟩=some (.int .i64 d[c].2.2)) (L:=9) (by kernel_rfl) rfl (by kernel_rfl) (by kernel_rfl) ?_ (λP=>?_)
    .go_keep
    refine bH [0,1,2,3,4,5] ?_;iterate 6 (refine bO (v:=?_) rfl (by kernel_rfl) (λ_ _ _ B=>B) (by rfl) (by assumption) ?_ ?_;rotate_left;focus (intro H E;(try dsimp only at E);go_simp;(try with_reducible rfl));(try simp only[aK,aL,List.set]))
    refine bI ?_;refine cj 6 (by kernel_rfl) rfl λI n=>?_;go_simp;refine n.out _ _ ?_ (λP=>?_)
    .go_keep
    (try simp only[aK,aL,List.set]);refine cj 7 (by kernel_rfl) rfl λI n=>?_;(refine step_append_lies _ (by rfl) _ _ _ (by rfl) a.heap.size 2 f2 _ 1 8 underlying245 d6 e8 e9 f0 f1 (by omega) (.slice ad c M) c (((d.take c).map (·.2.2)).map λa4=>Value.int .i64 a4) (by rfl) (aX (f.b.row) (((ah [] wr).d _).ae) (by simp)) ⟨wr.heap.size,0,none⟩ 1 1 [.int .i64 d[c].2.2] (by rfl) (by rfl) (World.news_of_block (cs:=#[.int .i64 d[c].2.2]) (t:=2) (fr:=(0,0)) (heap_alloc_new wr _)) (by simp[Value.oneCell']) (by omega) d8 d9 (by simp;omega) (wr.heap.size+1) (by simp) ?_;intro c0 b3 g1 e4 w c4 e2;have s:Below wr.heap.size wr (wr.alloc (.cells #[.int .i64 d[c].2.2] 2)).drew:=((Below.refl _ _).alloc (Y4 _) _).drew;obtain⟨i1,i2,i3,i4,i6⟩:=iE (f.b.fF s w);have i7:=aj (f.b.fF s w);have i5:g1.cell? ⟨k[c],2,none⟩=some (.int .i64 d[c].2.2):=by rw[World.cell?_of_block (w:=a) (((f.b.G.t s).B.ba (eJ w) (by intro i a3;exact Ya (f.b.G.E _ (by simp at a3 ⊢;exact Ya a3)))).i _ f9 (by simp))];exact g0);refine n.out _ _ ?_ (λP=>?_)
    .go_keep
    (try simp only[aK,aL,List.set]);refine tk (i:=8) (v:=?_) rfl (by kernel_rfl) (λ_ _ _ B=>B) (by rfl) (by assumption) ?_ ?_;rotate_left
    .intro H E;(try dsimp only at E);go_simp;(try with_reducible rfl)
    (try simp only[aK,aL,List.set]);refine cP (by kernel_rfl) rfl λI n=>?_;go_simp;refine n.out _ _ ?_;(try simp only[aK,aL,List.set]);have b1:=Z (f.b.cl (n:=d[c].2.2) s e4 w (by simpa using c4) e2);go_wp2;refine⟨⟨c+1,.slice (some ⟨c0,0,none⟩) (c+1) b3,by go_num,by omega,?_⟩,by simp[intOf];omega⟩;have b9:(d.take (c+1)).map (·.2.2)=(d.take c).map (·.2.2)++[d[c].2.2]:=by rw[Yt a1,List.map_append];rfl
    rw[b9];exact b1
   .have d7:c=d.length:=by omega
    subst d7;have g:=f.b;rw[YG]at g;obtain⟨i,l,m,q,rfl,c3,c7⟩:=a7.b _ _ g e3;obtain⟨b4,b5,b6,b7,b8⟩:=iE g.I;have D:=(g.G.hf _ Yb).1;obtain⟨h6,h7,h8,h9,i0⟩:=iE D;have g3:=aj D;obtain⟨f5,f6,f7,f8,_⟩:=iE (yF (k':=.int .i64 (-2147483648)) (t':=.int .i64 2147483647) (n':=.slice i l m) (a':=.bool false) D);have o:=Z g.G.B;have a8:=Z c3;have a6:=Z c7;go_wp2;refine bodyPost_ret (v:=.agg #[.int .i64 (-2147483648),.int .i64 2147483647,.slice i l m,.bool false]) (by simp[results,results130,go_sem,f5,f6,f7,f8]) rfl ⟨-2147483648,2147483647,i,l,m,false,q,rfl,a8.b,?_,?_⟩
    .have c6:Below a.heap.size a wr:=⟨o.b.os,o.b.c2,o.b.c1,o.b.F,λc x=>o.b.i c x (by simp)⟩;exact(((c6.setCell (p:=⟨a.heap.size,0,none⟩) (Y4 _) _).setCell (p:=⟨a.heap.size,1,none⟩) (Y4 _) _).setCell (p:=⟨a.heap.size,2,none⟩) (Y4 _) _).setCell (p:=⟨a.heap.size,3,none⟩) (Y4 _) _
    .intro p h;obtain⟨c1,O,c2⟩:=a6.b p h;refine⟨?_,c2⟩;have x:ai [a.heap.size] wr ((((wr.setCell ⟨a.heap.size,0,none⟩ (.int .i64 (-2147483648))).setCell ⟨a.heap.size,1,none⟩ (.int .i64 2147483647)).setCell ⟨a.heap.size,2,none⟩ (.slice i l m)).setCell ⟨a.heap.size,3,none⟩ (.bool false)):=
      ((((ah [a.heap.size] wr).O (p:=⟨a.heap.size,0,none⟩) (by simp) _).O (p:=⟨a.heap.size,1,none⟩) (by simp) _).O (p:=⟨a.heap.size,2,none⟩) (by simp) _).O (p:=⟨a.heap.size,3,none⟩) (by simp) _
     exact(x.i _ (aj O) (by simpa using c1)).trans O
end
section
variable {b a d : World} {e : List Nat} {Fr c : List (Nat × Obj)}
def dD.e5{o:List Nat}(f:dD b e Fr c a)(l:ai o a d)(n:∀h∈o,b.heap.size<=h/\h ∉ e/\(∀g∈Fr,g.1≠h)/\(∀g∈c,g.1≠h)):dD b e Fr c d:=by
 refine⟨f.B.ba l (λh j=>Ya (n h j).1),f.E,λq p=>Yr (f.K q p) l.F,f.H,?_,?_,f.d8,f.e8,f.e9⟩
 .intro g k;obtain⟨i,m⟩:=f.hf g k;exact⟨(l.i _ (aj i) (λj=>(n _ j).2.2.1 g k rfl)).trans i,m⟩
 .intro g k;obtain⟨i,m⟩:=f.hb g k;exact⟨(l.i _ (aj i) (λj=>(n _ j).2.2.2 g k rfl)).trans i,m⟩
def dD.kv(g:dD b e Fr c a){h:Nat}{k:Obj}(o:a.heap[h]? = some k)(r:b.heap.size<=h)(q:h ∉ e)(n:∀f∈Fr,f.1≠h)(m:∀f∈c,f.1≠h):dD b e ((h,k)::Fr) c a:=by
 refine⟨g.B,g.E,g.K,g.H,?_,g.hb,?_,?_,?_⟩
 .intro f d;rcases Yg.1 d with rfl|d
  .exact⟨o,q⟩
  .exact g.hf f d
 .simp only[List.map_cons,List.nodup_cons];refine⟨?_,g.d8⟩;intro p;obtain⟨f,d,i⟩:=YE.1 p;exact n f d i
 .intro f d;rcases Yg.1 d with rfl|d
  .exact r
  .exact g.e8 f d
 .intro f d l j;rcases Yg.1 d with rfl|d
  .exact λi=>m l j i.symm
  .exact g.e9 f d l j
def dD.j3{l:List (Nat×Obj)}(j:dD b e Fr c a)(n:Below a.heap.size a d)(k:∀f∈l,d.heap[f.1]? = some f.2/\a.heap.size<=f.1):dD b e Fr (l++c) d:=by
 have g:=j.t n;refine⟨g.B,g.E,g.K,g.H,g.hf,?_,g.d8,g.e8,?_⟩
 .intro f h;rcases Yn.1 h with h|h
  .refine⟨(k f h).1,λo=>?_⟩;have:=j.K _ o;have:=(k f h).2;omega
  .exact g.hb f h
 .intro f h m i;rcases Yn.1 i with i|i
  .have:=aj (j.hf f h).1;have:=(k m i).2;omega
  .exact g.e9 f h m i
end
section
variable {b a d : World} {f : eS} {Fr c : List (Nat × Obj)} {m : aT} {i h : Value} {j : List (dg × Value)} {k : List (List UInt8 × df × Value)}
def Eq{g:List (Nat×Obj)}(l:Cp b f Fr c m i h j k a)(n:Below a.heap.size a d)(o:∀e∈g,d.heap[e.1]? = some e.2/\a.heap.size<=e.1):Cp b f Fr (g++c) m i h j k d:=
 l.f6 (br [] n) (by simp) (λ_ p=>Ym _ p) (l.G.j3 n o)
def nH(d:List (Nat×Obj))(e:Value)(a:List Nat):Prop:=
 (d=[]/\e=.slice none 0 0/\a=[])\/∃f b c,d=[(f,.cells c 3)]/\e=.slice (some ⟨f,0,none⟩) a.length b/\a.length<=b/\b<=maxLen/\c.size=b/\c.toList.take a.length=a.map ru
def nH.ck{c:List (Nat×Obj)}{b:Value}{l:List Nat}(d:nH c b l):∃ad a,b=.slice ad l.length a:=by
 rcases d with⟨_,rfl,rfl⟩|⟨f,a,e,_,rfl,_⟩
 .exact⟨none,0,rfl⟩
 .exact⟨_,_,rfl⟩
def nH.nX{e:List (Nat×Obj)}{g:Value}{d:List Nat}(q:nH e g d)(l:Cp b f (e++Fr) c m i h j k a):a.ownsRow b.heap.size 3 1 g d.length (d.map ru):=by
 refine⟨by simp,?_⟩;rcases q with⟨_,rfl,rfl⟩|⟨p,n,o,rfl,rfl,r,s,t,u⟩
 .exact Y8 ⟨rfl,rfl⟩
 .exact Ya ⟨p,n,o,rfl,l.G.e8 _ Yb,(l.G.hf _ Yb).1,r,s,by simpa using t,by simpa using u⟩
def nH.aN{B:List (Nat×Obj)}{x:Value}{p:List Nat}{t q:World}{g w K:Nat}(s:nH B x p)(R:Cp b f (B++Fr) c m i h j k a)(N:Below a.heap.size a t)
  (H:q.ownsRow b.heap.size 3 1 (.slice (some ⟨g,0,none⟩) (p.length+1) w) (p.length+1) ((p.map ru)++[.int .i64 K])) (O:t.grownBy q x.ownBlock) (u:x.ownBlock=some g\/g=t.heap.size) :
  ∃C,nH C (.slice (some ⟨g,0,none⟩) (p.length+1) w) (p++[K])/\Cp b f (C++Fr) c m i h j k q:=by
 obtain⟨I,b1⟩:=gH H (g:=g) rfl;rcases H.2 with⟨M,_⟩|⟨a5,a3,D,r,_,A,S,a0,a1,a2⟩
 .cases M
 cases r
 have e:=R.t N;have n:=eJ O;refine⟨[(g,.cells D 3)],Ya ⟨g,w,D,rfl,by simp,by simpa using S,a0,by simpa using a1,by simpa using a2⟩,?_⟩;rcases s with⟨rfl,rfl,rfl⟩|⟨a6,a4,L,rfl,rfl,a7,a8,a9,b0⟩
 .simp only[Value.ownBlock]at u n;have P:g=t.heap.size:=by
   rcases u with s|s
   .cases s
   .exact s
  have F:ai [] t q:=n.l (by simp);have z:dD b (fp f i h) Fr c q:=e.G.a4 F (by simp);refine e.f6 F (by simp) (λ_ d=>d) (z.kv A I ?_ ?_ ?_)
  .intro y;have:=e.G.K _ y;omega
  .intro l d;have:=aj (e.G.hf l d).1;omega
  .intro l d;have:=aj (e.G.hb l d).1;omega
 .simp only[Value.ownBlock,Yu,Option.toList_some]at u n;rcases u with rfl|P
  .exact Cp.e6 (o:=.cells L 3) e n A
  .have G:=e.G.d8;simp only[YX,YT,List.map_cons,List.nodup_cons]at G;have E:=e.G.hf _ Yb;have v:=e.cg;have z:dD b (fp f i h) Fr c q:=v.G.e5 n (by
    intro b2 J;simp only[Yc]at J;subst J;refine⟨e.G.e8 _ Yb,E.2,?_,?_⟩
    .intro l d r;exact G.1 (by rw[<-r];exact List.mem_map_of_mem d)
    .intro l d r;exact e.G.e9 _ Yb l d r.symm)
   refine v.f6 n (by simpa using E.2) (λ_ d=>d) (z.kv A I ?_ ?_ ?_)
   .intro y;have:=e.G.K _ y;omega
   .intro l d;have:=aj (v.G.hf l d).1;omega
   .intro l d;have:=aj (v.G.hb l d).1;omega
end
section
variable {A B d:List (Nat×Obj)}{z:TypeId}{e:eS}{c j:Nat}{p r w y h i:Value}{f:List (dg×Value)}{g:List (List UInt8×df×Value)}{o s:Obj}{l D t u:Nat×Obj}{b:aT}{k m a:World}
def Cp.cW(c:Cp a e (A++l::B) d b i h f g k):Cp a e (l::(A++B)) d b i h f g k:=by
 refine c.a9 (λm j=>List.perm_middle.mem_iff.2 j) ?_;have:=c.G.d8;rw[(List.perm_middle.map _).nodup_iff]at this;exact this
def Cp.b6(c:Cp a e (l::(A++B)) d b i h f g k):Cp a e (A++l::B) d b i h f g k:=by
 refine c.a9 (λm j=>List.perm_middle.mem_iff.1 j) ?_;have:=c.G.d8;rw[(List.perm_middle.map _).nodup_iff];exact this
def Cp.lt(c:Cp a e A d b i h f g k)(j:A.Perm B):Cp a e B d b i h f g k:=by
 refine c.a9 (λm l=>j.mem_iff.2 l) ?_;have:=c.G.d8;rw[(j.map _).nodup_iff]at this;exact this
def Cp.mM(c:Cp a e (l::D::(A++B)) d b i h f g k):Cp a e (A++l::D::B) d b i h f g k:=
 c.lt (List.perm_middle.trans (List.perm_middle.cons l)).symm
def tW(c:Cp a e (A++(j,o)::B) d b i h f g k)(l:ai [j] k m)(n:m.heap[j]? = some s):Cp a e (A++(j,s)::B) d b i h f g m:=(c.cW.e6 l n).b6
def Cp.o0(c:Cp a e (A++t::u::(j,o)::B) d b i h f g k)(l:ai [j] k m)(n:m.heap[j]? = some s):Cp a e (A++t::u::(j,s)::B) d b i h f g m:=by
 have:=tW (A:=A++[t,u]) (B:=B) (by simpa using c) l n;simpa using this
def Cp.o1{c:Nat×Obj}(l:Cp a e (A++t::u::c::(j,o)::B) d b i h f g k)(n:ai [j] k m)(p:m.heap[j]? = some s):Cp a e (A++t::u::c::(j,s)::B) d b i h f g m:=by
 have:=tW (A:=A++[t,u,c]) (B:=B) (by simpa using l) n p;simpa using this
def Cp.j6(c:Cp a e (A++l::D::B) d b i h f g k):Cp a e (A++B) (l::d) b i h f g k:=
 (Cp.gO (c.lt (List.perm_middle.trans (List.perm_middle.cons l)))).cg
abbrev lW(b a:Int)(x:Option Addr)(e f:Nat)(d:Bool)(j:Nat)(c:Value):Array Value:=#[.int .i64 b,.int .i64 a,.slice x e f,.bool d,.map (some j),c]
structure ul(a:World)(e:eS)(Fr d:List (Nat×Obj))(C:Value->Array Value)(S j:Nat)(q:mI)(esl:Value)(ur:World):Prop where
 H:(q.cO.map (·.1)).Nodup
 ex:∃bs' ov E i h f g,(∀l∈d,l∈bs')/\sq bs' ov q.e5/\(∃pa,ov=.pointer pa)/\nH E esl q.b0/\Cp a e (E++((j,jB q.cO)::(S,.cells (C ov) 392)::Fr)) bs' q.s i h f g ur
def uw{b d:Value}(e:a.heap[c]? = some (.cells #[p,r,w,y,b,d] z)) :
  a.cell? ⟨c,0,none⟩=some p/\a.cell? ⟨c,1,none⟩=some r/\a.cell? ⟨c,2,none⟩=some w/\a.cell? ⟨c,3,none⟩=some y/\a.cell? ⟨c,4,none⟩=some b/\a.cell? ⟨c,5,none⟩=some d/\(∀f,a.frozen? ⟨c,f,none⟩=false)/\c<a.heap.size:=by
 refine⟨?_,?_,?_,?_,?_,?_,?_,aj e⟩<;>simp[World.cell?,World.frozen?,e]
def sG(b:a.heap[c]? = some (.cells #[p,r] z)) :
  a.cell? ⟨c,0,none⟩=some p/\a.cell? ⟨c,1,none⟩=some r/\(∀d,a.frozen? ⟨c,d,none⟩=false)/\c<a.heap.size:=by
 refine⟨?_,?_,?_,aj b⟩<;>simp[World.cell?,World.frozen?,b]
def zX(b:a.heap[c]? = some (.cells #[p,r,w,y] z)) :
  a.cell? ⟨c,0,none⟩=some p/\a.cell? ⟨c,1,none⟩=some r/\a.cell? ⟨c,2,none⟩=some w/\a.cell? ⟨c,3,none⟩=some y/\(∀d,a.frozen? ⟨c,d,none⟩=false)/\c<a.heap.size:=by
 refine⟨?_,?_,?_,?_,?_,aj b⟩<;>simp[World.cell?,World.frozen?,b]
def sq.L{a:List (Nat×Obj)}(g:∀l∈d,l∈a){v:Value}{o:Option (Nat×Nat)}(b:sq d v o):sq a v o:=by
 cases o with
 |none=>exact b
 |some h=>obtain⟨c,e,f⟩:=b;exact⟨c,e,g _ f⟩
def Om{b:mI}{a:Nat}{c:List Int×aF}(e:oR c.2.k)(d:aU b.s (a+4)):aU (fl b c).s a:=by
 have f:=pw e.fb;exact aU.bn (sr _ (d.bh (by omega))) _
def yA:∀(a:List (List Int×aF)) {q:mI} {n:Nat},kP a->aU q.s (n+4*a.length)->aU (a.foldl fl q).s n:=by
 intro a;induction a with
 |nil=>intro q n _ b;exact b
 |cons f a e=>
  intro q n c b;exact e (λg d=>c g (Y5 _ d)) (Om (c f (by simp)) (b.bh (by simp only[YC];omega)))
def AB:∀(a:List (List Int×aF)) (b:mI),(a.foldl fl b).b0.length=b.b0.length+a.length:=by
 intro a;induction a with
 |nil=>intro b;rfl
 |cons d a c=>intro b;simp only[YY];rw[c];simp[fl];omega
def FH:∀(b:List (List Int×aF)) (a:mI),a.s.q.length<=(b.foldl fl a).s.q.length:=by
 intro b;induction b with
 |nil=>intro a;exact Y4 _
 |cons d b c=>
  intro a;simp only[YY];refine Yz ?_ (c (fl a d));simp only[fl,tD,ku,rZ];omega
def Hw:∀(b:List (List Int×aF)) (a:mI),(∀c∈a.b0,c<a.s.q.length)->∀c∈(b.foldl fl a).b0,c<(b.foldl fl a).s.q.length:=by
 intro b;induction b with
 |nil=>intro a e;exact e
 |cons g b f=>
  intro a e;simp only[YY];refine f (fl a g) ?_;intro c d;simp only[fl,Yn,Yc]at d ⊢;simp only[tD,ku,rZ]at d ⊢;rcases d with d|rfl
  .have:=e c d;omega
  .omega
def sO(a:List Nat):∀b:aT,(hR a b).q.length=b.q.length:=by
 induction a with
 |nil=>intro b;rfl
 |cons c a d=>
  intro b;have:=d (dB c (.jump b.q.length) b);simp only[dB,YF]at this;exact this
def Hu(a:List Nat)(c:Nat)(b:aT):hR (a++[c]) b=dB c (.jump b.q.length) (hR a b):=by
 have:=sO a b;simp only[hR,YS,YY,List.foldl_nil]at this ⊢;rw[this]
def IS:(prog.info? 3).map (λa=>(a.zero,a.size,a.bytes))=some (some (.int .i64 0),1,8):=by kernel_rfl
end
set_option maxHeartbeats 8000000 in
def RE{j l3:World}{q:eS}{Fr M:List (Nat×Obj)}{g:aT}{t4 k8:Value}{n5:List (dg×Value)}{i2:List (List UInt8×df×Value)}{h7:List (Nat×Obj)}{h6 m8:Nat}{t:List UInt8}{z:aF}{a:List (List Int×aF)}(o8:dw h7 h6 (.union t m8 z a))(b9:∀p∈h7,j.heap[p.1]? = some p.2)(q7:gh z.k)(k6:kP a)(P:Cp j q Fr M g t4 k8 n5 i2 l3)(g4:aU g (8+4*a.length)) :
  Calls prog 133 #[.pointer (some ⟨q.C,0,none⟩),.pointer (some ⟨h6,0,none⟩)] l3 λk t8=>k=.returned (.tuple #[])/\cK j q Fr M (tS z a g) t8:=by
 have w7:=jr;obtain⟨h5,d0,o1,v3,d9,j4⟩:=o8;have j1:=b9 _ o1;have g8:=Z (λ(v:World) (g5:ai [] j v)=>uw ((g5.i _ (aj j1) (by simp)).trans j1));obtain⟨r7,r8,r9,s0,k7,s1,_,_⟩:=g8.b _ P.G.B;obtain⟨r6,p4,r2,r3,r4⟩:=info_parts IS;obtain⟨u1,y7,i6⟩:=fk z.k;have b6:=OH q7 P;rw[i6]at k7 b6;have w9:=g4.q;have b6:=Z b6;have l8:=Z P;have m6:U (aU (be .hole g) (7+4*a.length)):=aU.bn (g4.bh (by omega)) _;have e6:=Z k6;clear P k6 g4 i6;go_in;go_wp2_with fail;refine b6.b.mono ?_;rintro k D ⟨B,s,l,F,G,E,rfl,d5,j0⟩;have a1:=((l8.b.t j0).d (.map #[] 0)).d (.cells (lW B s l F G E D.heap.size (.pointer none)) 392);have q9:(D.alloc (.map #[] 0)).heap.size=D.heap.size+1:=by simp
 rw[q9]at a1;have b2:=Z (hY (v:=.iface 392 (.agg (lW B s l F G E D.heap.size (.pointer none)))) (x:=.hole) a1 ⟨_,_,rfl⟩ (by omega))
 have m1:=Z d5;clear a1 d5 j0 b6;go_wp2_with fail;refine b2.b.mono ?_;rintro k l5 ⟨rfl,t6,c8⟩;have b3:Cp j q ((D.heap.size,.map #[] 0)::(D.heap.size+1,.cells (lW B s l F G E D.heap.size (.pointer none)) 392)::Fr) M (be .hole g) t6 k8 _ i2 l5:=Cp.b6 (A:=[_]) c8;have h3:U (ul j q Fr M (lW B s l F G E D.heap.size) (D.heap.size+1) D.heap.size ⟨be .hole g,[],none,[]⟩ (.slice none 0 0) l5):=⟨by simp,M,.pointer none,[],_,_,_,_,λ_ n=>n,rfl,⟨_,rfl⟩,Y8 ⟨rfl,rfl,rfl⟩,b3⟩;obtain⟨r7,r8,r9,s0,k7,s1,_,_⟩:=g8.b _ c8.G.B;have w6:a.length<=1000:=by rcases d9 with⟨_,f4,_⟩|⟨_,_,_,_,⟨_,d4⟩,_⟩<;>omega
 have k3:∀(v:World),ai [] j v->∀f (s:f<a.length),∃r y,h5=.slice (some ⟨r,0,none⟩) a.length y/\a.length<=y/\∃w x,v.cell? ⟨r,f*4,none⟩=some (.slice w a[f].1.length x)/\v.cell? ⟨r,f*4+1,none⟩=some (.string ⟨a[f].2.t.toArray⟩)/\v.cell? ⟨r,f*4+2,none⟩=some (.int .i64 a[f].2.m)/\v.cell? ⟨r,f*4+3,none⟩=some (bW a[f].2.k)/\
   a[f].1.length<=1000/\∀(a3:World),ai [] j a3->∀e (u:e<a[f].1.length),∃I,w=some ⟨I,0,none⟩/\a[f].1.length<=x/\a3.cell? ⟨I,e,none⟩=some (.int .i64 a[f].1[e]):=by
  intro v g5 f s;have p3:f<d0.length:=by omega
  rcases d9 with⟨_,f4,_⟩|⟨r,y,n4,q6,⟨f9,w8⟩,g0,e0⟩
  .omega
  .have d8:=(g5.i _ (aj (b9 _ g0)) (by simp)).trans (b9 _ g0);have d7:=lc (c:=iM) (n:=4) (λ_=>rfl) (a.zip d0) f;have e1:f<(a.zip d0).length:=by simp;omega
   have o5:∃w x,d0[f]=Value.slice w a[f].1.length x/\a[f].1.length<=1000/\∀(a3:World),ai [] j a3->∀e (u:e<a[f].1.length),∃I,w=some ⟨I,0,none⟩/\a[f].1.length<=x/\a3.cell? ⟨I,e,none⟩=some (.int .i64 a[f].1[e]):=by
    rcases j4 f s p3 with⟨k,e9,_⟩|⟨n9,u4,u6,k,⟨f0,f1⟩,f2,i0⟩
    .exact⟨none,0,by rw[k,e9],by omega,λa3 _ e u=>by omega⟩
    .refine⟨_,_,k,f1,λa3 r0 e u=>⟨n9,rfl,f0,?_⟩⟩;exact cu ((r0.i _ (aj (b9 _ f2)) (by simp)).trans (b9 _ f2)) i0 (by simp[u])
   obtain⟨w,x,o7,j2,d6⟩:=o5;refine⟨r,y,q6,f9,w,x,cu d8 e0 ?_,cu d8 e0 ?_,cu d8 e0 ?_,cu d8 e0 ?_,j2,d6⟩
   .have:=d7 0 e1 (by omega);simpa[o7]using this
   .have:=d7 1 e1 (by omega);simpa using this
   .have:=d7 2 e1 (by omega);simpa using this
   .have:=d7 3 e1 (by omega);simpa using this
 obtain⟨u2,u3,f8⟩:∃ad y,h5=.slice ad a.length y:=by
  rcases d9 with⟨k,f4,_⟩|⟨r,y,n4,k,_⟩
  .exact⟨none,0,by rw[k,f4]⟩
  .exact⟨_,_,k⟩
 subst f8;have m5:=Z k3;have x3:=Z c8.G.B;clear k3 c8 b3 j4 d9 b2;generalize v1:D.heap.size=i at *
 go_wp2_with fail;go_loopw [32,6] (λf n8 c1=>∃d:Nat,f=.int .i64 d/\d<=a.length/\U (ul j q Fr M (lW B s l F G E i) (i+1) i ((a.take d).foldl fl ⟨be .hole g,[],none,[]⟩) n8 c1)) (λf _ _=>a.length-(intOf f).toNat)
 case atStart=>exact⟨0,rfl,by omega,h3⟩
 case round=>
  rename World=>l6;obtain⟨d,rfl,w5,c9⟩:=hrel;clear h3;rcases Yj d a.length with a8|v9
  .have k2:aU ((a.take d).foldl fl ⟨be .hole g,[],none,[]⟩).s 7:=yA (a.take d) (q:=⟨be .hole g,[],none,[]⟩) (λl r1=>e6.b l (List.mem_of_mem_take r1)) (m6.b.bh (by simp;omega));have b8:((a.take d).foldl fl ⟨be .hole g,[],none,[]⟩).b0.length=d:=by rw[AB];simp;omega
   obtain⟨c0,e8,s3,c3,t5,g6,n6,f3,a6,b0,⟨b1,rfl⟩,R,J⟩:=c9.b;have k1:(a.take (d+1)).foldl fl ⟨be .hole g,[],none,[]⟩=fl ((a.take d).foldl fl ⟨be .hole g,[],none,[]⟩) a[d]:=by rw[Yt a8,YS];rfl
   have h1:=Z k1;clear k1 c9;generalize q3:(a.take d).foldl fl ⟨be .hole g,[],none,[]⟩=b at *
   obtain⟨r,y,f8,f9,w,x,x6,x7,x8,s5,j2,d6⟩:=m5.b _ J.G.B d a8;cases f8
   obtain⟨h2,l4,d4⟩:=fk a[d].2.k;have u0:=Z d4;have w0:(0:Int)<=↑d:=by omega
   have w1:(↑d:Int) < ↑a.length:=by omega
   have a1:=J.d (.cells #[.slice w a[d].1.length x,.string ⟨a[d].2.t.toArray⟩,.int .i64 a[d].2.m,bW a[d].2.k] 363);have b5:=FE (ca:=w) (cn:=a[d].1.length) (cc:=x) (e6.b a[d] (Yy a8)).fb a1 (k2.bh (by omega));rw[d4]at s5 b5 a1;have b5:=Z b5;have m3:=Z b0;have c6:=Z R;have c5:=Z a6;have m2:=Z c0;have l9:=Z d6;obtain⟨d1,d2,rfl⟩:=R.ck;clear J a1 b0 R a6 c0 d6 d4;go_wp2_with fail;refine b5.b.mono ?_;rintro k c2 ⟨rfl,h8,y3,e2,u8,d3,i9,b3⟩;have H:=b3.d (.cells #[.int .i64 (fa a[d].2 b.s).1,.int .i64 (fa a[d].2 b.s).2] 394);have q5:aU (ku a[d].2 b.s) 1:=sr _ (k2.bh (by have:=pw (e6.b a[d] (Yy a8)).fb;omega));have b2:=Z (hY (v:=.iface 396 (.agg #[.int .i64 0])) (x:=.jump 0) H rfl (by have:=q5.q;omega))
   have e3:=Z i9;clear b3 H b5 i9;go_wp2_with fail;refine b2.b.mono ?_;rintro k a0 ⟨rfl,y4,H⟩;have a4:=H.mM;have j9:∀g7,(a0.alloc g7).ownsRow j.heap.size 3 1 (.slice d1 d d2) d (b.b0.map ru):=by
    intro g7;have:=c6.b.nX a4;rw[b8]at this;exact aX this ((ah [] a0).d g7) (by simp)
   have x0:j.heap.size<=a0.heap.size:=a4.G.B.F;have p9:d+1<=maxLen:=by unfold maxLen;omega
   have q0:(d+1)*8<=140737488355328:=by omega
   have r5:(Value.int .i64 0).cells.size=1:=rfl;have a4:=Z a4;clear H b2;go_wp2_with (first
    |(at_builtin;refine wpList_append_lies _ (by rfl) _ _ _ (by rfl) j.heap.size 3 r6 _ 1 8 underlying24 p4 r2 r3 r4 r5 (by omega) (.slice d1 d d2) d (b.b0.map ru) (by rfl) (j9 _) ⟨a0.heap.size,0,none⟩ 1 1 [.int .i64 (ku a[d].2 b.s).q.length] (by rfl) (by rfl) (World.news_of_block (cs:=#[.int .i64 (ku a[d].2 b.s).q.length]) (t:=3) (fr:=(0,0)) (heap_alloc_new a0 _)) (by simp[Value.oneCell']) (by omega) p9 q0 (by simp;omega) (a0.heap.size+1) (by simp) ?_;intro v0 u5 y5 k0 j6 i8 q1;obtain⟨c4,i5,b4⟩:=c6.b.aN a4.b ((Below.refl a0.heap.size a0).alloc (Y4 _) _) (by rw[b8];exact k0) (by rw[b8];exact j6) (by rw[b8];simpa using i8);obtain⟨s6,s7,s8,s9,t0,t1⟩:=zX (b4.G.hf _ (Ym _ (Y5 _ Yb))).1;have b4:=Z b4;have g9:=Z i5;clear i5 a4 j9 k0 j6 i8 q1)
    |fail)
   go_loopw [49] (λf c1=>∃e:Nat,f=.int .i64 e/\e<=a[d].1.length/\U ((((a[d].1.take e).foldl (λo m=>bE o m (fa a[d].2 b.s)) b.cO).map (·.1)).Nodup/\∃S N,Cp j q (c4++((c2.heap.size,.cells #[.int .i64 (fa a[d].2 b.s).1,.int .i64 (fa a[d].2 b.s).2] 394)::(l6.heap.size,.cells #[.slice w a[d].1.length x,.string ⟨a[d].2.t.toArray⟩,.int .i64 a[d].2.m,.iface h2 l4] 363)::(i,jB ((a[d].1.take e).foldl (λo m=>bE o m (fa a[d].2 b.s)) b.cO))::(i+1,.cells (lW B s l F G E i (.pointer b1)) 392)::Fr)) h8 (be (.jump 0) (ku a[d].2 b.s)) S e2 N d3 c1)) (λf _=>a[d].1.length-(intOf f).toNat)
   case atStart=>exact⟨0,rfl,by omega,m2.b,_,_,b4.b⟩
   case round=>
    obtain⟨e,rfl,u,K⟩:=hrel;clear b4;rcases Yj e a[d].1.length with a7|p7
    .obtain⟨a2,S,N,h⟩:=K.b;obtain⟨I,o3,v2,o6⟩:=l9.b _ h.G.B e a7;obtain⟨x4,x5,_,_⟩:=sG (h.G.hf _ (Ym _ Yb)).1;obtain⟨_,_,_,_,l0,_,_,_⟩:=uw (h.G.hf _ (Ym _ (Y5 _ (Y5 _ (Y5 _ Yb))))).1;have g2:=(h.G.hf _ (Ym _ (Y5 _ (Y5 _ Yb)))).1;have s4:=zi g2 a2 a[d].1[e] (fa a[d].2 b.s).1 (fa a[d].2 b.s).2;have j5:(a[d].1.take (e+1)).foldl (λo m=>bE o m (fa a[d].2 b.s)) b.cO=bE ((a[d].1.take e).foldl (λo m=>bE o m (fa a[d].2 b.s)) b.cO) a[d].1[e] (fa a[d].2 b.s):=by rw[Yt a7,YS];rfl
     have j8:U ((((a[d].1.take (e+1)).foldl (λo m=>bE o m (fa a[d].2 b.s)) b.cO).map (·.1)).Nodup/\∃S N,Cp j q (c4++((c2.heap.size,.cells #[.int .i64 (fa a[d].2 b.s).1,.int .i64 (fa a[d].2 b.s).2] 394)::(l6.heap.size,.cells #[.slice w a[d].1.length x,.string ⟨a[d].2.t.toArray⟩,.int .i64 a[d].2.m,.iface h2 l4] 363)::(i,jB ((a[d].1.take (e+1)).foldl (λo m=>bE o m (fa a[d].2 b.s)) b.cO))::(i+1,.cells (lW B s l F G E i (.pointer b1)) 392)::Fr)) h8 (be (.jump 0) (ku a[d].2 b.s)) S e2 N d3 (dm wr i (jB (bE ((a[d].1.take e).foldl (λo m=>bE o m (fa a[d].2 b.s)) b.cO) a[d].1[e] ((fa a[d].2 b.s).1,(fa a[d].2 b.s).2))))):=by
      rw[j5];exact⟨pQ a2 _ _,S,N,h.o0 (gV _ _ _) (ka (aj g2) _)⟩
     have p5:(0:Int)<=↑e:=by omega
     have p6:(↑e:Int) < ↑a[d].1.length:=by omega
     obtain⟨h4,i7⟩:∃h4,h4=dm wr i (jB (bE ((a[d].1.take e).foldl (λo m=>bE o m (fa a[d].2 b.s)) b.cO) a[d].1[e] ((fa a[d].2 b.s).1,(fa a[d].2 b.s).2))):=⟨_,rfl⟩;rw[<-i7]at s4 j8;clear i7 K h g2 j5 a2;subst o3;go_wp2;exact⟨⟨e+1,by go_num,by omega,j8⟩,by simp[intOf];omega⟩
    .have g1:e=a[d].1.length:=by omega
     subst g1;obtain⟨a2,S,N,h⟩:=K.b;rw[YG]at a2 h;obtain⟨s6,s7,s8,s9,t0,t1⟩:=zX (h.G.hf _ (Ym _ (Y5 _ Yb))).1;have f6:=(h.G.hf _ (Ym _ (Y5 _ (Y5 _ (Y5 _ Yb))))).1;obtain⟨_,_,_,_,l0,t2,t3,t7⟩:=uw f6;have e5:=Z f6;have h:=Z h;have h0:=Z a2;have i1:(b.b0.length+1:Nat)=d+1:=by omega
     clear K a2 f6;by_cases a9:a[d].1=[]
     .have j7:a[d].1.length=0:=by rw[a9];rfl
      have o2:((a[d].1.length:Int)==0)=true:=by rw[j7];rfl
      have a5:=Z (h.b.o1 ((ah [i+1] wr).O (p:=⟨i+1,5,none⟩) (by simp) (.pointer (some ⟨c2.heap.size,0,none⟩))) (bu (i:=5) e5.b (.pointer (some ⟨c2.heap.size,0,none⟩)))).j6;have e4:=Z a9;clear h e5 a9 j7;go_wp2;refine⟨⟨d+1,by go_num,by omega,?_⟩,by simp[intOf];omega⟩;show ul j q Fr M (lW B s l F G E i) (i+1) i _ _ _;rw[h1.b];refine⟨h0.b,_,.pointer (some ⟨c2.heap.size,0,none⟩),c4,S,e2,N,d3,λp n=>Y5 _ (e3.b p (c5.b p n)),?_,⟨_,rfl⟩,?_,a5.b⟩
      .simp only[fl,e4.b,if_true]
       exact⟨_,rfl,Yb⟩
      .have:=g9.b;rw[i1]at this;exact this
     .have o2:((a[d].1.length:Int)==0)=false:=by
       have:a[d].1.length≠0:=λk=>a9 (Yv.1 k);simp;omega
      have a5:=Z h.b.j6;have e4:=Z a9;clear h e5 a9;go_wp2;refine⟨⟨d+1,by go_num,by omega,?_⟩,by simp[intOf];omega⟩;show ul j q Fr M (lW B s l F G E i) (i+1) i _ _ _;rw[h1.b];refine⟨h0.b,_,.pointer b1,c4,S,e2,N,d3,λp n=>Y5 _ (e3.b p (c5.b p n)),?_,⟨_,rfl⟩,?_,a5.b⟩
      .simp only[fl,e4.b,if_false]
       exact m3.b.L (λp n=>Y5 _ (e3.b p n))
      .have:=g9.b;rw[i1]at this;exact this
  .have p8:d=a.length:=by omega
   subst p8;have q4:=FH a ⟨be .hole g,[],none,[]⟩;have g3:=Hw a ⟨be .hole g,[],none,[]⟩ (by intro k o9;cases o9);have b8:(a.foldl fl ⟨be .hole g,[],none,[]⟩).b0.length=a.length:=by rw[AB];simp
   obtain⟨c0,e8,s3,c3,t5,g6,n6,f3,a6,b0,⟨b1,rfl⟩,R,J⟩:=c9.b;rw[YG]at c0 b0 R J;have m7:U (tS z a g=hR (a.foldl fl ⟨be .hole g,[],none,[]⟩).b0 (dB g.q.length (.choice (nB g z.k) (a.foldl fl ⟨be .hole g,[],none,[]⟩).cO (a.foldl fl ⟨be .hole g,[],none,[]⟩).e5) (a.foldl fl ⟨be .hole g,[],none,[]⟩).s)):=rfl;clear c9;generalize q3:a.foldl fl ⟨be .hole g,[],none,[]⟩=b at *
   rw[tD]at q4;obtain⟨m9,n0,n1,n2,p2,a8⟩:=J.r;obtain⟨x9,y0,y1,y2,l0,t2,t3,t7⟩:=uw (J.G.hf _ (Ym _ (Y5 _ Yb))).1;obtain⟨r,y,q8,f9,v6,⟨y8,x1⟩,g0,H⟩:=sg (i:=g.q.length) (x:=.choice (nB g z.k) b.cO b.e5) (v:=.iface 392 (.agg (lW B s l F G E i (.pointer b1)))) (J.j6.t (Below.refl _ _).drew) ⟨mi B s l F G E,i,.pointer b1,rfl,m1.b.L (λp n=>Y5 _ (a6 p n)),Yb,b0.L (λp n=>Y5 _ n)⟩ (by omega)
   have w2:(g.q.length:Int)<(b.s.q.length:Int):=by omega
   obtain⟨d1,d2,rfl⟩:=R.ck;have c6:=Z R;have c5:=Z a6;have H:=Z H;cases q8
   clear J R a6 b0 c0;have q2:∀(e:Nat),e<b.b0.length->∃k:Nat,b.b0[e]? = some k/\k<b.s.q.length:=λe u=>⟨b.b0[e],by simp[u],g3 _ (Yy u)⟩;have j3:∀(v:World) (l2:aT) (h9:List (Nat×Obj)) (l1 k9:Value) (O:List (dg×Value)) (i3:List (List UInt8×df×Value)),Cp j q (c3++Fr) h9 l2 l1 k9 O i3 v->∀(e:Nat) (u:e<b.b0.length),∃I,d1=some ⟨I,0,none⟩/\b.b0.length<=d2/\v.cell? ⟨I,e,none⟩=some (.int .i64 b.b0[e]):=by
    intro v l2 h9 l1 k9 O i3 s2 e u;rcases c6.b with⟨_,_,e9⟩|⟨i4,n3,u7,rfl,f0,f1,f2,i0,n7⟩
    .rw[e9]at u;simp at u
    .cases f0
     exact⟨i4,rfl,f1,cu (xs:=b.b0.map ru) (s2.G.hf _ Yb).1 (by simpa using n7) (by simp[u])⟩
   have m0:=Z j3;have m4:=Z g3;clear j3 q2 g3;go_wp2;go_region;go_wp2;go_loopw [74] (λf c1=>∃e:Nat,f=.int .i64 e/\e<=b.b0.length/\U (∃O,Cp j q (c3++Fr) ((i,jB b.cO)::e8) (hR (b.b0.take e) (dB g.q.length (.choice (nB g z.k) b.cO b.e5) b.s)) (.slice (some ⟨r,0,none⟩) b.s.q.length y) g6 O f3 c1)) (λf _=>b.b0.length-(intOf f).toNat)
   case atStart=>exact⟨0,rfl,by omega,_,H.b⟩
   case round=>
    obtain⟨e,rfl,u,K⟩:=hrel;clear H;rcases Yj e b.b0.length with a7|p7
    .obtain⟨O,h⟩:=K.b;obtain⟨I,p0,v4,o6⟩:=m0.b _ _ _ _ _ _ _ h e a7;have f5:(hR (b.b0.take e) (dB g.q.length (.choice (nB g z.k) b.cO b.e5) b.s)).q.length=b.s.q.length:=by rw[sO];simp[dB]
     have k5:hR (b.b0.take (e+1)) (dB g.q.length (.choice (nB g z.k) b.cO b.e5) b.s)=dB b.b0[e] (.jump b.s.q.length) (hR (b.b0.take e) (dB g.q.length (.choice (nB g z.k) b.cO b.e5) b.s)):=by
      rw[Yt a7,Hu];simp[dB]
     have p1:=m4.b _ (Yy a7);obtain⟨m9,n0,n1,n2,p2,a8⟩:=h.r;obtain⟨i4,n3,k4,o4,v7,⟨y9,x2⟩,v8,a5⟩:=sg (i:=b.b0[e]) (x:=.jump b.s.q.length) (v:=.iface 396 (.agg #[.int .i64 b.s.q.length])) (h.t (Below.refl _ _).drew) rfl (by rw[f5];exact p1)
     have c7:=lf (h.t (Below.refl _ _).drew);rw[f5]at c7 k4 o4;cases k4
     have d5:U (∃O,Cp j q (c3++Fr) ((i,jB b.cO)::e8) (hR (b.b0.take (e+1)) (dB g.q.length (.choice (nB g z.k) b.cO b.e5) b.s)) (.slice (some ⟨r,0,none⟩) b.s.q.length y) g6 O f3 (wr.drew.setCell ⟨r,b.b0[e],none⟩ (.iface 396 (.agg #[.int .i64 b.s.q.length])))):=by
      rw[k5];exact⟨_,a5⟩
     have c7:=Z c7;have p5:(0:Int)<=↑e:=by omega
     have p6:(↑e:Int) < ↑b.b0.length:=by omega
     have w3:(↑e:Int) < ↑a.length:=by omega
     have w4:(↑(b.b0[e]):Int) < ↑b.s.q.length:=by omega
     subst p0;clear K h a5 k5 f5;generalize v5:b.b0[e]=u9 at *
     go_wp2_with fail;refine cR (λt9=>t9.cell? ⟨q.C,0,none⟩=some (.slice (some ⟨r,0,none⟩) b.s.q.length y)) (L:=10) (by kernel_rfl) rfl (by kernel_rfl) (by kernel_rfl) ?_ (λo0=>?_)
     .go_keep
     refine bH [0,1,2,3,4,5] ?_;iterate 6 (refine bO (v:=?_) rfl (by kernel_rfl) (λ_ _ _ P=>P) (by rfl) (by assumption) ?_ ?_;rotate_left;focus (intro j f7;(try dsimp only at f7);go_simp;(try with_reducible rfl));(try simp only[aK,aL,List.set]))
     refine bI ?_;refine cj 6 (by kernel_rfl) rfl λe7 b7=>?_;(go_simp;go_at_call 128;refine c7.b.mono ?_;rintro k y6 ⟨rfl,rfl⟩);refine b7.out _ _ ?_ (λo0=>?_)
     .go_keep
     clear b7 e7;(try simp only[aK,aL,List.set]);refine bH [7,8,9] ?_;iterate 3 (refine bO (v:=?_) rfl (by kernel_rfl) (λ_ _ _ P=>P) (by rfl) (by assumption) ?_ ?_;rotate_left;focus (intro j f7;(try dsimp only at f7);go_simp;(try with_reducible rfl));(try simp only[aK,aL,List.set]))
     refine bI ?_;refine cP (by kernel_rfl) rfl λe7 b7=>?_;go_simp;refine b7.out _ _ ?_;clear b7 e7;(try simp only[aK,aL,List.set]);go_wp2;exact⟨⟨e+1,by go_num,by omega,d5⟩,by simp[intOf];omega⟩
    .have g1:e=b.b0.length:=by omega
     subst g1;obtain⟨O,h⟩:=K.b;rw[YG]at h;have l7:=Z (h.a9 (Fr':=Fr) (λp n=>Ym _ n) (by have:=h.G.d8;rw[List.map_append,YJ]at this;exact this.2.1)).b8;clear K h;go_wp2;go_end0;refine⟨rfl,?_⟩;rw[m7.b];exact kR (λp n=>Y5 _ (c5.b p n)) l7.b
section
variable {a:eS}{g c:Nat}{h e:List (Nat×Obj)}{k:List (dg×Value)}{l:List (List UInt8×df×Value)}{m o:Value}{s:aT}{f:List UInt8}{j b:World}
def Hc{Fr:List (Nat×Obj)}{d:aF}(y:dw e c (.typedef d))(D:∀q∈e,b.heap[q.1]? = some q.2)(A:jc d.k)(f:Cp b a Fr h s o m k l j)(z:aU s 5000) :
  Calls prog 76 #[.pointer (some ⟨a.C,0,none⟩),.iface 225 (.pointer (some ⟨c,0,none⟩))] j λn a0=>n=.returned (.tuple #[])/\cK b a Fr h (jQ (.typedef d) s) a0:=by
 have c6:=mw 225 c 157 225 λa5=>by kernel_rfl
 have F:=Z y;have c0:=z.q;have G:=Z (lf f);obtain⟨c1,c2,S,_⟩:=dS (f.dF (D _ y));obtain⟨a4,a3,K⟩:=fk d.k;have p:=uz A.fb f (z.bh (by omega));rw[K]at S p;have p:=Z p;have b4:=pw A.fb;have R:=rZ d.k s;go_in;go_wp2_with fail;refine G.b.mono ?_;rintro n c7 ⟨rfl,rfl⟩;go_wp2_with fail;refine p.b.mono ?_;rintro n c8 ⟨rfl,a6,c4,c3,b2,b3,M,I⟩;go_wp2_with fail;refine(hY (v:=.iface 257 (.agg #[])) (x:=.ret) I rfl (by rw[R];omega)).mono ?_
 rintro n a2 ⟨rfl,c5,g⟩;have N:bm [] e a2.drew:=λq O=>⟨g.dF (D q O),by simp⟩;have P:=oG (d:=.typedef d) F.b N;have b5:=nS;have b6:=rl 160 λ_ _ _=>by kernel_rfl
 dsimp only[cD,bA]at P;obtain⟨a7,a8,a9,b0,b7,b8⟩:=g.r;have g:=Z g;have E:=Z M;go_wp2_with fail;refine cR (λa1=>a1.cell? ⟨a.C,1,none⟩=some (.map (some a.B))) (L:=8) (by kernel_rfl) rfl (by kernel_rfl) (by kernel_rfl) ?_ (λJ=>?_)
 .go_keep
 refine bH [0,1,2,3,4,7] ?_;iterate 6 (refine bO (v:=?_) rfl (by kernel_rfl) (λ_ _ _ f=>f) (by rfl) (by assumption) ?_ ?_;rotate_left;focus (intro b w;(try dsimp only at w);go_simp;(try with_reducible rfl));(try simp only[aK,aL,List.set]))
 refine bI ?_;refine cj 5 (by kernel_rfl) rfl λH u=>?_;(go_simp;go_at_call 327;refine(nR _ _ _).mono ?_;rintro n c9 ⟨rfl,x⟩;have r:=(g.b.t (Below.refl _ _).drew).t x;have b1:=r.r.2.1;obtain⟨b9,t⟩:=r.i7 d.t s.q.length;have t:=Z t;clear r x);refine u.out _ _ ?_ (λJ=>?_)
 .go_keep
 (try simp only[aK,aL,List.set]);refine tk (i:=6) (v:=?_) rfl (by kernel_rfl) (λ_ _ _ f=>f) (by rfl) (by assumption) ?_ ?_;rotate_left
 .intro b w;(try dsimp only at w);go_simp;(try with_reducible rfl)
 (try simp only[aK,aL,List.set]);refine cP (by kernel_rfl) rfl λH u=>?_;go_simp;refine u.out _ _ ?_;(try simp only[aK,aL,List.set]);go_wp2;go_end0;exact⟨rfl,kR E.b t.b.b8⟩
def Hb{Fr:List (Nat×Obj)}{q:List aF}(I:dw e c (.struct f g q))(K:∀w∈e,b.heap[w.1]? = some w.2)(J:∀u∈q,jc u.k)(c2:q.length<=1000)(r:Cp b a Fr h s o m k l j)(F:aU s 5000) :
  Calls prog 76 #[.pointer (some ⟨a.C,0,none⟩),.iface 229 (.pointer (some ⟨c,0,none⟩))] j λp a7=>p=.returned (.tuple #[])/\cK b a Fr h (jQ (.struct f g q) s) a7:=by
 have c9:=el 229 c 157 225 λG=>by kernel_rfl
 have d0:=el 229 c 157 227 λG=>by kernel_rfl
 have d1:=mw 229 c 157 229 λG=>by kernel_rfl
 have N:=Z I;have c4:=F.q;have O:=Z (lf r);have S:=Z (Qr I K (λu E=>(J u E).fb) r (F.bh (by omega)));have a4:aU (yW q s) 1:=by
  have p:=yz (q.map (·.k)) (s:=be (.struct q.length true) s) (n:=1) (by intro f a5;obtain⟨u,E,rfl⟩:=YE.1 a5;exact(J u E).fb) (aU.bn (F.bh (by simp;omega)) _);rw[List.foldl_map]at p;exact p
 have c5:=a4.q;go_in;go_wp2_with fail;refine O.b.mono ?_;rintro p d2 ⟨rfl,rfl⟩;go_wp2_with fail;refine S.b.mono ?_;rintro p d3 ⟨rfl,b0,c7,c6,b6,b7,a1,R⟩;go_wp2_with fail;refine(hY (v:=.iface 257 (.agg #[])) (x:=.ret) R rfl (by omega)).mono ?_
 rintro p a9 ⟨rfl,c8,t⟩;have a2:bm [] e a9.drew:=λw a3=>⟨t.dF (K w a3),by simp⟩;have a6:=oG (d:=.struct f g q) N.b a2;have b8:=nS;have b9:=rl 160 λ_ _ _=>by kernel_rfl
 dsimp only[cD,bA]at a6;obtain⟨b1,b2,b3,b4,c0,c1⟩:=t.r;have t:=Z t;have M:=Z a1;go_wp2_with fail;refine cR (λa8=>a8.cell? ⟨a.C,1,none⟩=some (.map (some a.B))) (L:=8) (by kernel_rfl) rfl (by kernel_rfl) (by kernel_rfl) ?_ (λa0=>?_)
 .go_keep
 refine bH [0,1,2,3,4,7] ?_;iterate 6 (refine bO (v:=?_) rfl (by kernel_rfl) (λ_ _ _ r=>r) (by rfl) (by assumption) ?_ ?_;rotate_left;focus (intro b D;(try dsimp only at D);go_simp;(try with_reducible rfl));(try simp only[aK,aL,List.set]))
 refine bI ?_;refine cj 5 (by kernel_rfl) rfl λP A=>?_;(go_simp;go_at_call 327;refine(nR _ _ _).mono ?_;rintro p d4 ⟨rfl,H⟩;have y:=(t.b.t (Below.refl _ _).drew).t H;have b5:=y.r.2.1;obtain⟨c3,z⟩:=y.i7 f s.q.length;have z:=Z z;clear y H);refine A.out _ _ ?_ (λa0=>?_)
 .go_keep
 (try simp only[aK,aL,List.set]);refine tk (i:=6) (v:=?_) rfl (by kernel_rfl) (λ_ _ _ r=>r) (by rfl) (by assumption) ?_ ?_;rotate_left
 .intro b D;(try dsimp only at D);go_simp;(try with_reducible rfl)
 (try simp only[aK,aL,List.set]);refine cP (by kernel_rfl) rfl λP A=>?_;go_simp;refine A.out _ _ ?_;(try simp only[aK,aL,List.set]);go_wp2;go_end0;exact⟨rfl,kR M.b z.b.b8⟩
def Hd{Fr:List (Nat×Obj)}{w:aF}{p:List (List Int×aF)}(I:dw e c (.union f g w p))(K:∀y∈e,b.heap[y.1]? = some y.2)(a4:gh w.k)(J:kP p)(c1:p.length<=1000)(t:Cp b a Fr h s o m k l j)(G:aU s 5000) :
  Calls prog 76 #[.pointer (some ⟨a.C,0,none⟩),.iface 231 (.pointer (some ⟨c,0,none⟩))] j λr a6=>r=.returned (.tuple #[])/\cK b a Fr h (jQ (.union f g w p) s) a6:=by
 have c8:=el 231 c 157 225 λD=>by kernel_rfl
 have c9:=el 231 c 157 227 λD=>by kernel_rfl
 have d0:=el 231 c 157 229 λD=>by kernel_rfl
 have d1:=mw 231 c 157 231 λD=>by kernel_rfl
 have N:=Z I;have c3:=G.q;have O:=Z (lf t);have S:=Z (RE I K a4 J t (G.bh (by omega)));have c4:(tS w p s).q.length<1000000:=by
  have r:=(yA p (q:=⟨be .hole s,[],none,[]⟩) (n:=1) J (aU.bn (G.bh (by omega)) _)).q;simp only[tS];rw[sO];simp only[dB,YF];omega
 go_in;go_wp2_with fail;refine O.b.mono ?_;rintro r d2 ⟨rfl,rfl⟩;go_wp2_with fail;refine S.b.mono ?_;rintro r d3 ⟨rfl,a9,c6,c5,b5,b6,a1,R⟩;go_wp2_with fail;refine(hY (v:=.iface 257 (.agg #[])) (x:=.ret) R rfl (by omega)).mono ?_
 rintro r a8 ⟨rfl,c7,u⟩;have a2:bm [] e a8.drew:=λy a3=>⟨u.dF (K y a3),by simp⟩;have a5:=oG (d:=.union f g w p) N.b a2;have b7:=nS;have b8:=rl 160 λ_ _ _=>by kernel_rfl
 dsimp only[cD,bA]at a5;obtain⟨b0,b1,b2,b3,b9,c0⟩:=u.r;have u:=Z u;have M:=Z a1;go_wp2_with fail;refine cR (λa7=>a7.cell? ⟨a.C,1,none⟩=some (.map (some a.B))) (L:=8) (by kernel_rfl) rfl (by kernel_rfl) (by kernel_rfl) ?_ (λa0=>?_)
 .go_keep
 refine bH [0,1,2,3,4,7] ?_;iterate 6 (refine bO (v:=?_) rfl (by kernel_rfl) (λ_ _ _ t=>t) (by rfl) (by assumption) ?_ ?_;rotate_left;focus (intro b F;(try dsimp only at F);go_simp;(try with_reducible rfl));(try simp only[aK,aL,List.set]))
 refine bI ?_;refine cj 5 (by kernel_rfl) rfl λP E=>?_;(go_simp;go_at_call 327;refine(nR _ _ _).mono ?_;rintro r d4 ⟨rfl,H⟩;have z:=(u.b.t (Below.refl _ _).drew).t H;have b4:=z.r.2.1;obtain⟨c2,A⟩:=z.i7 f s.q.length;have A:=Z A;clear z H);refine E.out _ _ ?_ (λa0=>?_)
 .go_keep
 (try simp only[aK,aL,List.set]);refine tk (i:=6) (v:=?_) rfl (by kernel_rfl) (λ_ _ _ t=>t) (by rfl) (by assumption) ?_ ?_;rotate_left
 .intro b F;(try dsimp only at F);go_simp;(try with_reducible rfl)
 (try simp only[aK,aL,List.set]);refine cP (by kernel_rfl) rfl λP E=>?_;go_simp;refine E.out _ _ ?_;(try simp only[aK,aL,List.set]);go_wp2;go_end0;exact⟨rfl,kR M.b A.b.b8⟩
end
section
variable {a:eS}{b:Nat}{e f:List (Nat×Obj)}{g:List (dg×Value)}{et:List (List UInt8×df×Value)}{h j:Value}{c:aT}{u w:World}
def Cp.nM{Fr:List (Nat×Obj)}{f:List UInt8}{l:df}{v:Value}(i:Cp w a Fr e c j h g (bE et f (l,v)) u):(Instr.lookup 164 (.map (some a.E)) (.string ⟨f.toArray⟩) false).run prog u=.ok v u:=by
 have k:=xN (P:=prog) (w:=u) (T:=164) (kt:=9) (et:=247) (d:=.string) (by kernel_rfl) (by kernel_rfl) (λb:List UInt8=>.string ⟨b.toArray⟩) (λb:df×Value=>b.2) (λ_=>trivial) rW i.d0 i.f8 (z:=.agg #[.int .i64 0,.int .i64 0,.slice none 0 0,.bool false]) (by kernel_rfl) f false;rw[Kr,Y9 rfl]at k;exact k
def GY{Fr:List (Nat×Obj)}{D:Nat}{o:List UInt8}{t:List (List UInt8×Nat×Int)}(G:dw f b (.enum o D t))(O:∀n∈f,w.heap[n.1]? = some n.2)(k:Cp w a Fr e c j h g et u)(c9:aU c 5000) :
  Calls prog 76 #[.pointer (some ⟨a.C,0,none⟩),.iface 227 (.pointer (some ⟨b,0,none⟩))] u λx d3=>x=.returned (.tuple #[])/\cK w a Fr e (jQ (.enum o D t) c) d3:=by
 have f3:=el 227 b 157 225 λb7=>by kernel_rfl
 have f4:=mw 227 b 157 227 λb7=>by kernel_rfl
 have b4:=Z G;have e5:=c9.q;have b5:=Z (lf k);have c4:∃H,w.heap[b]? = some (.cells #[.string ⟨o.toArray⟩,.int .i64 D,H] 253):=by obtain⟨H,e8,c3,_⟩:=G;exact⟨H,O _ c3⟩
 obtain⟨H,M⟩:=c4;have I:=Z (λ(v:World) (d1:ai [] w v)=>(dS ((d1.i _ (aj M) (by simp)).trans M)).1);have e6:=I.b _ k.G.B;obtain⟨b9,c0,c1,c2,c5,c8⟩:=k.r;have b6:=Z (Kk (u:=u.drew) G (λn q=>k.dF (O n q)));have b2:=Z k;clear k G M;go_in;go_wp2_with fail;refine b5.b.mono ?_;rintro x f5 ⟨rfl,rfl⟩;go_wp2_with fail;refine cR (λr=>r.cell? ⟨a.C,2,none⟩=some (.map (some a.E))/\r.cell? ⟨b,0,none⟩=some (.string ⟨o.toArray⟩)) (L:=11) (by kernel_rfl) rfl (by kernel_rfl) (by kernel_rfl) ?_ (λF=>?_)
 .go_keep
 refine bH [0,1,2,3,4,5,6,7,8,9] ?_;iterate 10 (refine bO (v:=?_) rfl (by kernel_rfl) (λ_ _ _ k=>k) (by rfl) (by assumption) ?_ ?_;rotate_left;focus (intro w s;(try dsimp only at s);go_simp;(try with_reducible rfl));(try simp only[aK,aL,List.set]))
 refine bI ?_;refine cj 10 (by kernel_rfl) rfl λp l=>?_;(go_simp;go_at_call 130;refine b6.b.mono ?_;rintro x d5 ⟨P,N,y,a0,a1,S,b8,rfl,K,a6,a8⟩;have A:=Eq (b2.b.t (Below.refl _ _).drew) a6 a8;have f0:=A.r.2.2.1;have e9:=I.b _ A.G.B;obtain⟨d2,b0,m⟩:=A.n5 (v:=.agg (mi P N y a0 a1 S).toArray) (x:=jV t) ⟨_,rfl,K.L (λn q=>Yf _ q)⟩ o;have m:=Z m;have a2:=Z K;clear A a6 a8 K);refine l.out _ _ ?_ (λF=>?_)
 .go_keep
 clear l p;(try simp only[aK,aL,List.set]);refine cP (by kernel_rfl) rfl λp l=>?_;go_simp;refine l.out _ _ ?_;clear l p;(try simp only[aK,aL,List.set]);obtain⟨R,b1⟩:∃R,R=dm d5 a.E d2:=⟨_,rfl⟩;rw[<-b1]at m ⊢;clear b0 b1;have c7:=(m.b.t (Below.refl _ _).drew).nM;obtain⟨d7,d8,d9,e0,e1,e2⟩:=m.b.r;have e7:=I.b _ m.b.G.B;have a3:=Z (hY (v:=.iface 247 (.agg (mi P N y a0 a1 S).toArray)) (x:=.num (jV t)) (m.b.t (Below.refl _ _).drew) ⟨_,rfl,a2.b.L (λn q=>Yf _ q)⟩ (by show c.q.length<1000000;omega))
 have c6:(be (.num (jV t)) { c with ds:=bE c.ds o (jV t) }).q.length<1000000:=by rw[tD];show c.q.length+1<1000000;omega
 clear m a2;go_wp2_with fail;refine cR (λr=>r.cell? ⟨a.C,2,none⟩=some (.map (some a.E))/\r.cell? ⟨b,0,none⟩=some (.string ⟨o.toArray⟩)/\(Instr.lookup 164 (.map (some a.E)) (.string ⟨o.toArray⟩) false).run prog r=.ok (.agg (mi P N y a0 a1 S).toArray) r) (L:=12) (by kernel_rfl) rfl (by kernel_rfl) (by kernel_rfl) ?_ (λF=>?_)
 .go_keep
 refine bH [0,1,2,3,4,5,6,7,8,9,10,11] ?_;iterate 12 (refine bO (v:=?_) rfl (by kernel_rfl) (λ_ _ _ k=>k) (by rfl) (by assumption) ?_ ?_;rotate_left;focus (intro w s;(try dsimp only at s);go_simp;(try with_reducible rfl));(try simp only[aK,aL,List.set]))
 refine bI ?_;refine cP (by kernel_rfl) rfl λp l=>?_;(go_simp;go_at_call 131;refine a3.b.mono ?_;rintro x f6 ⟨rfl,f1,a4⟩);refine l.out _ _ ?_;clear l p;(try simp only[aK,aL,List.set]);have a5:∀n∈e,n∈b8++e:=λn q=>Ym _ q;clear a3 c7;go_wp2_with fail;refine(hY (v:=.iface 257 (.agg #[])) (x:=.ret) a4 rfl (by exact c6)).mono ?_
 rintro x d4 ⟨rfl,f2,z⟩;have a9:bm [] f d4.drew:=λn q=>⟨z.dF (O n q),by simp⟩;have d0:=oG (d:=.enum o D t) b4.b a9;have e3:=nS;have e4:=rl 160 λ_ _ _=>by kernel_rfl
 dsimp only[cD,bA]at d0;obtain⟨b9,c0,c1,c2,c5,c8⟩:=z.r;have z:=Z z;have b3:=Z a5;clear a4 a5 a9;go_wp2_with fail;refine cR (λr=>r.cell? ⟨a.C,1,none⟩=some (.map (some a.B))) (L:=8) (by kernel_rfl) rfl (by kernel_rfl) (by kernel_rfl) ?_ (λF=>?_)
 .go_keep
 refine bH [0,1,2,3,4,7] ?_;iterate 6 (refine bO (v:=?_) rfl (by kernel_rfl) (λ_ _ _ k=>k) (by rfl) (by assumption) ?_ ?_;rotate_left;focus (intro w s;(try dsimp only at s);go_simp;(try with_reducible rfl));(try simp only[aK,aL,List.set]))
 refine bI ?_;refine cj 5 (by kernel_rfl) rfl λp l=>?_;(go_simp;go_at_call 327;refine(nR _ _ _).mono ?_;rintro x R ⟨rfl,a7⟩;have m:=(z.b.t (Below.refl _ _).drew).t a7;have d6:=m.r.2.1;obtain⟨b0,J⟩:=m.i7 o c.q.length;have J:=Z J;clear m a7);refine l.out _ _ ?_ (λF=>?_)
 .go_keep
 clear l p;(try simp only[aK,aL,List.set]);refine tk (i:=6) (v:=?_) rfl (by kernel_rfl) (λ_ _ _ k=>k) (by rfl) (by assumption) ?_ ?_;rotate_left
 .intro w s;(try dsimp only at s);go_simp;(try with_reducible rfl)
 (try simp only[aK,aL,List.set]);refine cP (by kernel_rfl) rfl λp l=>?_;go_simp;refine l.out _ _ ?_;clear l p;(try simp only[aK,aL,List.set]);go_wp2;go_end0;exact⟨rfl,kR b3.b J.b.b8⟩
def GX{Fr:List (Nat×Obj)}(f:Cp w a Fr e c j h g et u) :
  Calls prog 76 #[.pointer (some ⟨a.C,0,none⟩),.iface 223 (.pointer (some ⟨b,0,none⟩))] u λk m=>k=.returned (.tuple #[])/\cK w a Fr e c m:=by
 have n:=el 223 b 157 225 λd=>by kernel_rfl
 have o:=el 223 b 157 227 λd=>by kernel_rfl
 have p:=el 223 b 157 229 λd=>by kernel_rfl
 have q:=el 223 b 157 231 λd=>by kernel_rfl
 have l:=Z (lf f);have i:=Z f.b8;clear f;go_in;go_wp2_with fail;refine l.b.mono ?_;rintro k r ⟨rfl,rfl⟩;go_wp2;first
  |(go_end0;exact⟨rfl,i.out⟩)
  |exact bodyPost_ret (v:=.tuple #[]) (by simp[results,results76,go_sem]) rfl ⟨rfl,i.b⟩
def Ha{Fr:List (Nat×Obj)}(f:Cp w a Fr e c j h g et u) :
  Calls prog 76 #[.pointer (some ⟨a.C,0,none⟩),.iface 233 (.pointer (some ⟨b,0,none⟩))] u λk m=>k=.returned (.tuple #[])/\cK w a Fr e c m:=by
 have n:=el 233 b 157 225 λd=>by kernel_rfl
 have o:=el 233 b 157 227 λd=>by kernel_rfl
 have p:=el 233 b 157 229 λd=>by kernel_rfl
 have q:=el 233 b 157 231 λd=>by kernel_rfl
 have l:=Z (lf f);have i:=Z f.b8;clear f;go_in;go_wp2_with fail;refine l.b.mono ?_;rintro k r ⟨rfl,rfl⟩;go_wp2;first
  |(go_end0;exact⟨rfl,i.out⟩)
  |exact bodyPost_ret (v:=.tuple #[]) (by simp[results,results76,go_sem]) rfl ⟨rfl,i.b⟩
def Hk{Fr:List (Nat×Obj)}{i:ao}(l:dw f b i)(p:∀d∈f,w.heap[d.1]? = some d.2)(o:oT i)(k:Cp w a Fr e c j h g et u)(n:aU c 5000) :
  Calls prog 76 #[.pointer (some ⟨a.C,0,none⟩),.iface (cD i) (.pointer (some ⟨b,0,none⟩))] u λx z=>x=.returned (.tuple #[])/\cK w a Fr e (jQ i c) z:=by
 cases i with
 |const q d v=>exact GX k
 |prog q d D A=>exact Ha k
 |typedef i=>exact Hc l p o k n
 |enum q d s=>exact GY l p k n
 |struct q d s=>
  have r:s.length<=1000:=by
   obtain⟨_,_,m⟩:=l;rcases m with⟨_,y,_⟩|⟨_,_,_,_,⟨_,m⟩,_⟩<;>omega
  exact Hb l p o r k n
 |union q d B t=>
  have r:t.length<=1000:=by
   obtain⟨_,_,_,_,m,_⟩:=l;rcases m with⟨_,y,_⟩|⟨_,_,_,_,⟨_,m⟩,_⟩<;>omega
  exact Hd l p o.1 o.2 r k n
end
abbrev jU(a:aT)(c:List (Nat×List UInt8)):aT:=c.foldl (λa b=>dB b.1 (.call ((ay a.cx b.2).getD 0)) a) a
def Br:∀(b:List (Nat×List UInt8)) (a:aT),(jU a b).q.length=a.q.length/\(jU a b).cx=a.cx/\(jU a b).aw=a.aw:=by
 intro b;induction b with
 |nil=>intro a;exact⟨rfl,rfl,rfl⟩
 |cons c b g=>
  intro a;obtain⟨d,e,f⟩:=g (dB c.1 (.call ((ay a.cx c.2).getD 0)) a);exact⟨d.trans (by simp[dB]),e,f⟩
def JN(b:List (Nat×List UInt8))(a:Nat×List UInt8)(c:aT):jU c (b++[a])=dB a.1 (.call ((ay (jU c b).cx a.2).getD 0)) (jU c b):=by
 unfold jU;rw[YS];rfl
def JH{i N:World}{d:eS}{Fr j:List (Nat×Obj)}{a:aT}{m A:Value}{a0:List (dg×Value)}{k:List (List UInt8×df×Value)}(l:Cp i d Fr j a m A a0 k N)(a5:∀c7∈a.aw,c7.1<a.q.length)(f6:a.q.length<1000000)(f7:a.aw.length<1000000) :
  Calls prog 79 #[.pointer (some ⟨d.C,0,none⟩)] N λE c9=>E=.returned (.tuple #[])/\∃b5,Cp i d Fr j (rA a) m A b5 k c9:=by
 obtain⟨d1,d2,d3,d4,e8,f5⟩:=l.r;have b1:U (rA a=jU a a.aw):=rfl;have a6:∀(v:World) (M:aT) (f:List (dg×Value)),M.aw=a.aw->Cp i d Fr j M m A f k v->∀(b:Nat) (u:b<a.aw.length),∃p t,A=.slice (some ⟨p,0,none⟩) a.aw.length t/\a.aw.length<=t/\v.cell? ⟨p,b*2,none⟩=some (.int .i64 a.aw[b].1)/\v.cell? ⟨p,b*2+1,none⟩=some (.string ⟨a.aw[b].2.toArray⟩):=by
  intro v M f y c8 b u;have H:=c8.g2;rw[y]at H;rcases H.2 with⟨_,e2⟩|⟨p,t,b4,E,_,a3,b7,e3,e4,b8⟩
  .omega
  .have a7:=lc (c:=kY) (n:=2) (λ_=>rfl) a.aw b;have c6:(a.aw.flatMap kY).length=a.aw.length*2:=H.1;have a9:b4.toList.take (a.aw.flatMap kY).length=a.aw.flatMap kY:=by rw[c6];exact b8
   refine⟨p,t,E,b7,cu a3 a9 ?_,cu a3 a9 ?_⟩
   .have:=a7 0 u (by omega);simpa using this
   .have:=a7 1 u (by omega);simpa using this
 have P:=Z a6;have O:=Z a5;obtain⟨b0,K,rfl⟩:=l.k6;have R:U (∃f,Cp i d Fr j (jU a (a.aw.take 0)) m (.slice b0 a.aw.length K) f k N):=⟨a0,l⟩;clear l a6 a5;go_in;go_wp2;go_loopw [9] (λz d0=>∃b:Nat,z=.int .i64 b/\b<=a.aw.length/\U (∃f,Cp i d Fr j (jU a (a.aw.take b)) m (.slice b0 a.aw.length K) f k d0)) (λz _=>a.aw.length-(intOf z).toNat)
 case atStart=>exact⟨0,rfl,by omega,R⟩
 case round=>
  obtain⟨b,rfl,u,r⟩:=hrel;clear R;obtain⟨F,G,a1⟩:=Br (a.aw.take b) a;rcases Yj b a.aw.length with w|f3
  .obtain⟨f,s⟩:=r.b;obtain⟨b6,d5,c5,e6,f9,g0⟩:=P.b _ _ _ a1 s b w;cases c5
   have c2:=O.b _ (Yy w);obtain⟨h,J⟩:∃h,h=(ay a.cx a.aw[b].2).getD 0:=⟨_,rfl⟩;have c3:b+1<=a.aw.length:=w;have y:jU a (a.aw.take (b+1))=dB a.aw[b].1 (.call h) (jU a (a.aw.take b)):=by
    rw[Yt w,JN,G,J]
   obtain⟨d6,d7,d8,d9,e0,e1⟩:=s.r;generalize a.aw[b].1=g at *
   generalize a.aw[b].2=e at *
   have D:=(s.t ((Below.refl wr.heap.size wr).alloc (Y4 _) (.cells #[.int .i64 g,.string ⟨e.toArray⟩] 269))).t (Below.refl _ _).drew;have I:=D.k7 e false;rw[G]at I;have f4:(Instr.lookup 103 (.map (some d.B)) (.string ⟨e.toArray⟩) false).run prog (wr.alloc (.cells #[.int .i64 g,.string ⟨e.toArray⟩] 269)).drew=.ok (.int .i64 h) (wr.alloc (.cells #[.int .i64 g,.string ⟨e.toArray⟩] 269)).drew:=by
    rw[I,J];cases ay a.cx e<;>rfl
   obtain⟨a2,b3,a8,c1,e7,⟨g1,f8⟩,e9,S⟩:=sg (i:=g) (x:=.call h) (v:=.iface 271 (.agg #[.int .i64 h])) D rfl (by rw[F];exact c2)
   rw[F]at a8 c1;have b9:U (∃f,Cp i d Fr j (jU a (a.aw.take (b+1))) m (.slice (some ⟨b6,0,none⟩) a.aw.length K) f k ((wr.alloc (.cells #[.int .i64 g,.string ⟨e.toArray⟩] 269)).drew.setCell ⟨a2,g,none⟩ (.iface 271 (.agg #[.int .i64 h])))):=by
    rw[y];exact⟨_,S⟩
   have f0:(0:Int)<=↑b:=by omega
   have f1:(↑b:Int) < ↑a.aw.length:=by omega
   have f2:(↑g:Int) < ↑a.q.length:=by omega
   subst a8;clear r s D S y I F G a1 J P O;go_wp2_with fail;refine cR (λo=>o.cell? ⟨d.C,0,none⟩=some (.slice (some ⟨a2,0,none⟩) a.q.length b3)/\o.cell? ⟨d.C,1,none⟩=some (.map (some d.B))/\o.cell? ⟨wr.heap.size,0,none⟩=some (.int .i64 g)/\o.cell? ⟨wr.heap.size,1,none⟩=some (.string ⟨e.toArray⟩)/\(Instr.lookup 103 (.map (some d.B)) (.string ⟨e.toArray⟩) false).run prog o=.ok (.int .i64 h) o) (L:=16) (by kernel_rfl) rfl (by kernel_rfl) (by kernel_rfl) ?_ (λe5=>?_)
   .go_keep
   refine bH [0,1,2,3,4,5,6,7,8,9,10,11,12,13,14,15] ?_;iterate 16 (refine bO (v:=?_) rfl (by kernel_rfl) (λ_ _ _ l=>l) (by rfl) (by assumption) ?_ ?_;rotate_left;focus (intro i c0;(try dsimp only at c0);go_simp;(try with_reducible rfl));(try simp only[aK,aL,List.set]))
   refine bI ?_;refine cP (by kernel_rfl) rfl λb2 a4=>?_;go_simp;refine a4.out _ _ ?_;clear a4 b2;(try simp only[aK,aL,List.set]);go_wp2;exact⟨⟨b+1,by go_num,c3,b9⟩,by simp[intOf];omega⟩
  .have c4:b=a.aw.length:=by omega
   subst c4;have q:=r.b;rw[YG]at q;have q:=Z q;clear r;go_wp2;go_end0;rw[b1.b];exact⟨rfl,q.b⟩
section
variable {a:ao}{n:Nat}{s:aT}
def tZ:ao->Prop
 |.struct _ _ b=>b.length<=1000
 |.union _ _ _ a=>a.length<=1000
 |_=>True
def GR{f:List (Nat×Obj)}{e:Nat}(c:dw f e a):tZ a:=by
 cases a with
 |struct j i h=>
  obtain⟨_,_,b⟩:=c;show h.length<=1000;rcases b with⟨_,g,_⟩|⟨_,_,_,_,⟨_,b⟩,_⟩<;>omega
 |union j i k d=>
  obtain⟨_,_,_,_,b,_⟩:=c;show d.length<=1000;rcases b with⟨_,g,_⟩|⟨_,_,_,_,⟨_,b⟩,_⟩<;>omega
 |_=>trivial
def uj(a:aU s (n+1))(c:List UInt8)(b:Nat):aU (qV c b s) n:=⟨(a.bn .ret).q,(a.bn .ret).aw⟩
def Fi(b:aU s n)(a:List Nat):aU (hR a s) n:=by
 refine⟨by rw[sO];exact b.q,?_⟩;rw[sO];have:(hR a s).aw=s.aw:=(Hv a s).2.1;rw[this];exact b.aw
def Fg(f:oT a)(i:tZ a)(b:aU s (n+4100)):aU (jQ a s) n:=by
 cases a with
 |const c e v=>exact b.bh (by omega)
 |prog c e t p=>exact b.bh (by omega)
 |typedef a=>exact uj (sr _ (b.bh (by have:=pw (jc.fb f);omega))) _ _
 |enum c e d=>
  have j:aU { s with ds:=bE s.ds c (jV d) } (n+2):=⟨by have:=b.q;show s.q.length+(n+2)<1000000;omega,b.aw⟩;exact uj (aU.bn j _) _ _
 |struct c e d=>
  have k:d.length<=1000:=i;refine uj ?_ _ _;have h:=yz (d.map (·.k)) (s:=be (.struct d.length true) s) (n:=n+1) (by intro c m;obtain⟨o,l,rfl⟩:=YE.1 m;exact(f o l).fb) (aU.bn (b.bh (by simp;omega)) _);rw[List.foldl_map]at h;exact h
 |union c e r g=>
  have k:g.length<=1000:=i;refine uj ?_ _ _;exact Fi (aU.aH (yA g (q:=⟨be .hole s,[],none,[]⟩) (n:=n+1) f.2 (aU.bn (b.bh (by omega)) _)) _ _) _
def zC:∀(b:List ao) {s:aT} {n:Nat},(∀a∈b,oT a)->(∀a∈b,tZ a)->aU s (n+4100*b.length)->aU (b.foldl (λs a=>jQ a s) s) n:=by
 intro b;induction b with
 |nil=>intro s n _ _ d;exact d
 |cons a b h=>
  intro s n f g d;exact h (λc e=>f c (Y5 _ e)) (λc e=>g c (Y5 _ e)) (Fg (f a (by simp)) (g a (by simp)) (d.bh (by simp only[YC];omega)))
def Fj(b:aU s (n+2))(a:List UInt8):aU (yL a s) n:=aU.bn (aU.call b a) _
def zF:∀(b:List ao) {p:aT×List (List UInt8×Nat)} {n:Nat},aU p.1 (n+2*b.length)->aU (b.foldl ek p).1 n:=by
 intro b;induction b with
 |nil=>intro p n c;exact c
 |cons a b d=>
  intro p n c;refine d ?_;unfold ek;split
  .exact Fj (c.bh (by simp only[YC];omega)) _
  .exact c.bh (by simp only[YC];omega)
def Dm:∀(b:List ao) {d:aT×List (List UInt8×Nat)},(d.2.map (·.1)).Nodup->((b.foldl ek d).2.map (·.1)).Nodup:=by
 intro b;induction b with
 |nil=>intro d c;exact c
 |cons a b e=>
  intro d c;refine e ?_;unfold ek;split
  .exact pQ c _ _
  .exact c
def QN(f:ByteArray):∀(b:Nat) {ds:List ao},gB (λc=>c.length<=ds.length+b) (eb f b ds):=by
 intro b;induction b with
 |zero=>intro ds;exact qw _ _
 |succ b e=>
  intro ds;unfold eb;refine dv λg=>hq (hH (by omega)) (dv λa=>dv λ_=>?_);intro h c i d;have:=e (ds:=ds++[a]) _ _ _ d;simp at this;omega
def QR{c:ByteArray}{ds:List ao}(a:en c=.ok ds):ds.length<=69:=by
 unfold en at a;split at a
 .cases a
 .cases b:eb c 69 [] eN with
  |error g=>rw[b]at a;cases a
  |ok e=>
   obtain⟨f,h⟩:=e;rw[b]at a;simp only at a;have d:=QN c 69 (ds:=[]) _ _ _ b;split at a
   .cases a
   .split at a
    .cases a
    .cases a
     simpa using d
abbrev qt(v:Value)(s a:Option Nat):Obj:=.cells #[v,.map s,.map a] 106
def GH(a:World):Cp a ⟨a.heap.size+3,a.heap.size+1,a.heap.size+2⟩ [(a.heap.size,qt (.slice none 0 0) none none)] [] lE (.slice none 0 0) (.slice none 0 0) [] []
  ((((a.alloc (qt (.slice none 0 0) none none)).alloc (.map #[] 0)).alloc (.map #[] 0)).alloc (.cells #[.slice none 0 0,.map (some (a.heap.size+1)),.map (some (a.heap.size+2)),.slice none 0 0] 167)):=by
 have g:(a.alloc (qt (.slice none 0 0) none none)).heap.size=a.heap.size+1:=by simp
 have h:((a.alloc (qt (.slice none 0 0) none none)).alloc (.map #[] 0)).heap.size=a.heap.size+2:=by simp
 have i:(((a.alloc (qt (.slice none 0 0) none none)).alloc (.map #[] 0)).alloc (.map #[] 0)).heap.size=a.heap.size+3:=by simp
 refine⟨⟨((((ah [] a).d _).d _).d _).d _,?_,?_,?_,?_,(by intro c b;cases b),by simp,?_,(by intro c _ j e;cases e)⟩,?_,?_,by simp[lE],?_,by simp,by simp[lE],(by intro c b;cases b),⟨by simp[lE],Y8 ⟨rfl,rfl⟩⟩,rfl,(by intro c b;cases b),⟨by simp[lE],Y8 ⟨rfl,rfl⟩⟩⟩
 .intro f d;simp[fp,Value.ownBlock]at d;omega
 .intro f d;simp[fp,Value.ownBlock]at d;simp;omega
 .simp[fp,Value.ownBlock]
 .intro c b;simp only[Yc]at b;subst b;refine⟨(Below.heap_alloc _ _ _ (by simp;omega)).trans ((Below.heap_alloc _ _ _ (by simp;omega)).trans ((Below.heap_alloc _ _ _ (by simp)).trans (aJ rfl))),?_⟩;simp[fp,Value.ownBlock]
 .intro c b;simp only[Yc]at b;subst b;simp
 .exact aJ i.symm
 .exact(Below.heap_alloc _ _ _ (by simp)).trans ((Below.heap_alloc _ _ _ (by simp)).trans (aJ g.symm))
 .exact(Below.heap_alloc _ _ _ (by simp)).trans (aJ h.symm)
def EQ(e:List (Nat×Obj))(f:TypeId)(v:Value)(n:Nat)(d:List Value):Prop:=
 (v=.slice none 0 0/\n=0/\d=[])\/∃c a b,v=.slice (some ⟨c,0,none⟩) n a/\n<=a/\(c,Obj.cells b f)∈e/\b.toList.take n=d
def oS(c:List (Nat×Obj))(v:Value)(a:List dg):Prop:=∃b:List (dg×Value),a=b.map (·.1)/\EQ c 273 v a.length (b.map (·.2))/\(∀d∈b,jl c d.2 d.1)/\a.length<1000000
end
section
variable {a b:World}{m:Nat}{e:aT}
abbrev Cy(a:es):List Value:=ll a.t a.m++[bW a.cc,bW a.b3,.int .i64 a.num]
def lr(b:List (Int×Nat×Nat)):Obj:=kE (b.map λa=>(.int .u32 a.1,.agg #[.int .i64 a.2.1,.int .i64 a.2.2]))
def mz(b:List (Int×Nat×List (Int×Nat×Nat))):Obj:=kE (b.map λa=>(.int .u32 a.1,.map (some a.2.1)))
structure ji where
 lo:Int
 hi:Int
 m:Nat
 vs:List (Int×Nat×List (Int×Nat×Nat))
def qd(b:List (Int×ji)):Obj:=kE (b.map λa=>(.int .u32 a.1,.agg #[.int .u32 a.2.lo,.int .u32 a.2.hi,.map (some a.2.m)]))
def sw(b:List (Nat×Obj))(c:List (Int×Nat×List (Int×Nat×Nat))):Prop:=∀a∈c,(a.2.1,lr a.2.2)∈b
def lO(b:List (Nat×Obj))(a:ji):Prop:=(a.m,mz a.vs)∈b/\sw b a.vs
def sD(b:List (Int×Nat×List (Int×Nat×Nat))):List (Int×List (Int×Nat×Nat)):=b.map λa=>(a.1,a.2.2)
def us(a:ji):jj:=⟨a.lo,a.hi,sD a.vs⟩
def sC(b:List (Int×ji)):List (Int×jj):=b.map λa=>(a.1,us a.2)
def sv(v:eH):Prop:=v.u.length<=8/\∀a∈v.u,gy a.cc/\gy a.b3
def kk:ao->Prop
 |.prog _ _ a _=>a≠[]/\a.length<=4/\∀v∈a,sv v
 |_=>True
def yN(a:Int):Instr.keyThatStays (.int .u32 a) (.int .u32 a)=pure (.int .u32 a):=by
 unfold Instr.keyThatStays;rw[Y9 (by show ((IntKind.u32==IntKind.u32)&&(a==a))=true;simp)]
def zb(a b:Int)(c:(Value.int .u32 a)=.int .u32 b):a=b:=by simpa using c
def xf(a:Int)(b:World):(convert 2 218 (.int .i64 a)).run prog b=.ok (.int .u32 (cI a)) b:=by kernel_rfl
def MI{e:List (Int×Nat×Nat)}(g:a.heap[m]? = some (lr e))(h:(e.map (·.1)).Nodup)(c:Int)(f b:Nat) :
  (Instr.mapUpdate 399 (.map (some m)) (.int .u32 c) (.agg #[.int .i64 f,.int .i64 b])).run prog a=.ok () (dm a m (lr (bE e c (f,b)))):=
 pN (P:=prog) (T:=399) (kt:=218) (et:=429) (d:=.int .u32) (by kernel_rfl) (by kernel_rfl) (λc:Int=>.int .u32 c) (λb:Nat×Nat=>.agg #[.int .i64 b.1,.int .i64 b.2]) (λ_=>rfl) (λ_=>yN _) zb g h c (f,b)
def RS{c:List (Int×Nat×List (Int×Nat×Nat))}(f:a.heap[m]? = some (mz c))(g:(c.map (·.1)).Nodup)(b:Int)(v:Nat)(e:List (Int×Nat×Nat)) :
  (Instr.mapUpdate 261 (.map (some m)) (.int .u32 b) (.map (some v))).run prog a=.ok () (dm a m (mz (bE c b (v,e)))):=
 pN (P:=prog) (T:=261) (kt:=218) (et:=399) (d:=.int .u32) (by kernel_rfl) (by kernel_rfl) (λb:Int=>.int .u32 b) (λh:Nat×List (Int×Nat×Nat)=>.map (some h.1)) (λ_=>rfl) (λ_=>yN _) zb f g b (v,e)
def MU{e:List (Int×ji)}(f:a.heap[m]? = some (qd e))(g:(e.map (·.1)).Nodup)(c:Int)(b:ji) :
  (Instr.mapUpdate 104 (.map (some m)) (.int .u32 c) (.agg #[.int .u32 b.lo,.int .u32 b.hi,.map (some b.m)])).run prog a=.ok () (dm a m (qd (bE e c b))):=
 pN (P:=prog) (T:=104) (kt:=218) (et:=263) (d:=.int .u32) (by kernel_rfl) (by kernel_rfl) (λc:Int=>.int .u32 c) (λb:ji=>.agg #[.int .u32 b.lo,.int .u32 b.hi,.map (some b.m)]) (λ_=>rfl) (λ_=>yN _) zb f g c b
def wC{b:Nat}{a:Ty}(d:gy a)(c:aU e (b+4)):aU (nD a e) b:=aU.bn (sr a (c.bh (by have:=pw d;omega))) _
def zD:∀(a:List es) {q:aT×List (Int×Nat×Nat)} {c:Nat},(∀b∈a,gy b.cc/\gy b.b3)->aU q.1 (c+8*a.length)->aU (a.foldl iz q).1 c:=by
 intro a;induction a with
 |nil=>intro q c _ d;exact d
 |cons b a g=>
  intro q c e d;refine g (λh f=>e h (Y5 _ f)) ?_;exact wC (e b (by simp)).1 (wC (e b (by simp)).2 (d.bh (by simp only[YC];omega)))
def MH:∀(a:List es) {b:aT×List (Int×Nat×Nat)},(b.2.map (·.1)).Nodup->((a.foldl iz b).2.map (·.1)).Nodup:=by
 intro a;induction a with
 |nil=>intro b c;exact c
 |cons e a d=>intro b c;exact d (pQ c _ _)
def yo{a:Nat}{g h c d e:Value}{f:TypeId}(i:b.heap[a]? = some (.cells #[g,h,c,d,e] f)) :
  b.cell? ⟨a,2,none⟩=some c/\b.cell? ⟨a,3,none⟩=some d/\b.cell? ⟨a,4,none⟩=some e:=by
 refine⟨?_,?_,?_⟩<;>simp[World.cell?,i]
def EN(b:World)(d:eS)(Fr f:List (Nat×Obj))(v:eH)(e:aT)(g:Ending)(i:World):Prop:=∃c a,g=.returned (.map (some c))/\(∀h∈f,h∈a)/\(c,lr (oO v e).2)∈a/\cK b d Fr a (oO v e).1 i
def RY{g:World}{o:eS}{Fr p:List (Nat×Obj)}{a3 a2:Value}{N:List (dg×Value)}{O:List (List UInt8×df×Value)}{a8:List (Nat×Obj)}{q:Value}{v:eH}(b5:fv a8 446 q v.u.length (v.u.flatMap Cy))(b7:∀i∈a8,b.heap[i.1]? = some i.2)(b6:sv v)(u:Cp b o Fr p e a3 a2 N O g)(d7:aU e 80) :
  Calls prog 212 #[.pointer (some ⟨o.C,0,none⟩),.agg #[.string ⟨v.t.toArray⟩,.int .i64 v.m,q,.int .i64 v.num]] g (EN b o Fr p v e):=by
 have g3:=jr;have f8:=xf;have J:=Z b6;have f5:=b6.1;have c0:=Z d7;have g5:b.heap.size<=g.heap.size:=u.G.B.F;have c3:U (cK b o ((g.heap.size+1,lr ((v.u.take 0).foldl iz (e,[])).2)::Fr) p ((v.u.take 0).foldl iz (e,[])).1 ((g.alloc (.cells #[.string ⟨v.t.toArray⟩,.int .i64 v.m,q,.int .i64 v.num] 367)).alloc (.map #[] 0))):=by
  have H:=(u.t ((Below.refl g.heap.size g).alloc (Y4 _) (.cells #[.string ⟨v.t.toArray⟩,.int .i64 v.m,q,.int .i64 v.num] 367))).d (.map #[] 0);have k:(g.alloc (.cells #[.string ⟨v.t.toArray⟩,.int .i64 v.m,q,.int .i64 v.num] 367)).heap.size=g.heap.size+1:=by simp
  rw[k]at H;exact H.b8
 have d3:∀(a:World),ai [] b a->∀f (w:f<v.u.length),∃h l,q=.slice (some ⟨h,0,none⟩) v.u.length l/\v.u.length<=l/\a.cell? ⟨h,f*5,none⟩=some (.string ⟨v.u[f].t.toArray⟩)/\a.cell? ⟨h,f*5+1,none⟩=some (.int .i64 v.u[f].m)/\a.cell? ⟨h,f*5+2,none⟩=some (bW v.u[f].cc)/\a.cell? ⟨h,f*5+3,none⟩=some (bW v.u[f].b3)/\a.cell? ⟨h,f*5+4,none⟩=some (.int .i64 v.u[f].num):=by
  intro a I f w;rcases b5 with⟨_,a9,_⟩|⟨h,l,c7,k,⟨H,_⟩,b3,D⟩
  .omega
  .have A:=(I.i _ (aj (b7 _ b3)) (by simp)).trans (b7 _ b3);have z:=lc (c:=Cy) (n:=5) (λ_=>rfl) v.u f;refine⟨h,l,k,H,cu A D ?_,cu A D ?_,cu A D ?_,cu A D ?_,cu A D ?_⟩
   .have:=z 0 w (by omega);simpa using this
   .have:=z 1 w (by omega);simpa using this
   .have:=z 2 w (by omega);simpa using this
   .have:=z 3 w (by omega);simpa using this
   .have:=z 4 w (by omega);simpa using this
 obtain⟨f1,f2,rfl⟩:∃ad l,q=.slice ad v.u.length l:=by
  rcases b5 with⟨k,a9,_⟩|⟨h,l,c7,k,_⟩
  .exact⟨none,0,by rw[k,a9]⟩
  .exact⟨_,_,k⟩
 have b9:=Z d3;go_in;go_wp2;go_loopw [12] (λf e3=>∃d:Nat,f=.int .i64 d/\d<=v.u.length/\U (cK b o ((g.heap.size+1,lr ((v.u.take d).foldl iz (e,[])).2)::Fr) p ((v.u.take d).foldl iz (e,[])).1 e3)) (λf _=>v.u.length-(intOf f).toNat)
 case atStart=>exact⟨0,rfl,by omega,c3⟩
 case round=>
  obtain⟨d,rfl,g0,x⟩:=hrel;rcases Yj d v.u.length with a0|f9
  .have b4:aU ((v.u.take d).foldl iz (e,[])).1 16:=zD (v.u.take d) (λi B=>J.b.2 i (List.mem_of_mem_take B)) (c0.b.bh (by have:=J.b.1;simp;omega));have d6:(((v.u.take d).foldl iz (e,[])).2.map (·.1)).Nodup:=MH _ (by simp);have c1:U ((v.u.take (d+1)).foldl iz (e,[])=iz ((v.u.take d).foldl iz (e,[])) v.u[d]):=by show _=_;rw[Yt a0,YS];rfl
   obtain⟨c5,e2,d8,c8,c9,R,m⟩:=x.b;generalize g4:(v.u.take d).foldl iz (e,[])=j at *
   obtain⟨h,l,d4,f7,g8,g9,d9,e0,h0⟩:=b9.b _ m.G.B d a0;cases d4
   have S:=J.b.2 v.u[d] (Yy a0);obtain⟨K,a4,b0⟩:=fk v.u[d].cc;obtain⟨M,a5,b1⟩:=fk v.u[d].b3;rw[b0]at d9;rw[b1]at e0;have g1:(0:Int)<=↑d:=by omega
   have g2:(↑d:Int) < ↑v.u.length:=by omega
   have c4:=Z ((m.d (.cells #[.string ⟨v.u[d].t.toArray⟩,.int .i64 v.u[d].m,.iface K a4,.iface M a5,.int .i64 v.u[d].num] 446)).t ((Below.refl _ _).drew))
   have f6:g.heap.size+1≠wr.heap.size:=by
    have:=aj (m.G.hf _ Yb).1;simp only at this;omega
   have G:=xg S.2 c4.b (b4.bh (by omega));rw[b1]at G;have G:=Z G;have s:=λ(a:World) (p:List (Nat×Obj)) a3 a2 N O (c2:Cp b o ((wr.heap.size,.cells #[.string ⟨v.u[d].t.toArray⟩,.int .i64 v.u[d].m,.iface K a4,.iface M a5,.int .i64 v.u[d].num] 446)::(g.heap.size+1,lr j.2)::Fr) p (nD v.u[d].b3 j.1) a3 a2 N O a)=>xg S.1 c2 (wC S.2 (b4.bh (by omega)))
   rw[b0]at s;have s:=Z s;have b8:=Z R;go_wp2_with fail;refine cR (λa6=>a6.cell? ⟨wr.heap.size,2,none⟩=some (.iface K a4)/\a6.cell? ⟨wr.heap.size,3,none⟩=some (.iface M a5)/\a6.cell? ⟨wr.heap.size,4,none⟩=some (.int .i64 v.u[d].num)) (L:=13) (by kernel_rfl) rfl (by kernel_rfl) (by kernel_rfl) ?_ (λb2=>?_)
   .exact yo (aJ rfl)
   refine bH [0,1,2,3,4,5,6,8,9,10] ?_;iterate 10 (refine bO (v:=?_) rfl (by kernel_rfl) (λ_ _ _ u=>u) (by rfl) (by assumption) ?_ ?_;rotate_left;focus (intro b P;(try dsimp only at P);go_simp;(try with_reducible rfl));(try simp only[aK,aL,List.set]))
   refine bI ?_;refine cj 7 (by kernel_rfl) rfl λa7 y=>?_;(go_simp;go_at_call 134;refine G.b.mono ?_;rintro k h3 ⟨rfl,e8,h1,g6,e9,f3,d1,E⟩;have E:=Z E;have s:=Z (s.b _ _ _ _ _ _ E.b);obtain⟨e5,e6,e7⟩:=yo (E.b.G.hf _ Yb).1);refine y.out _ _ ?_ (λb2=>?_)
   .go_keep
   (try simp only[aK,aL,List.set]);refine cj 11 (by kernel_rfl) rfl λa7 y=>?_;(go_simp;go_at_call 134;refine s.b.mono ?_;rintro k e4 ⟨rfl,c6,h2,g7,f0,f4,d2,r⟩;have r:=Z r;obtain⟨e5,e6,e7⟩:=yo (r.b.G.hf _ Yb).1;have a1:=(r.b.cg.G.hf _ Yb).1;have e1:=MI a1 d6 (cI v.u[d].num) j.1.q.length (nD v.u[d].b3 j.1).q.length;have F:=r.b.cg.e6 (gV _ _ _) (ka (aj a1) (lr (bE j.2 (cI v.u[d].num) (j.1.q.length,(nD v.u[d].b3 j.1).q.length))));obtain⟨a,I⟩:∃a,a=dm e4 (g.heap.size+1) (lr (bE j.2 (cI v.u[d].num) (j.1.q.length,(nD v.u[d].b3 j.1).q.length))):=⟨_,rfl⟩;rw[<-I]at e1 F;have F:=Z F;clear r a1 I);refine y.out _ _ ?_ (λb2=>?_)
   .go_keep
   (try simp only[aK,aL,List.set]);refine tk (i:=12) (v:=?_) rfl (by kernel_rfl) (λ_ _ _ u=>u) (by rfl) (by assumption) ?_ ?_;rotate_left
   .intro b P;(try dsimp only at P);go_simp;(try with_reducible rfl)
   (try simp only[aK,aL,List.set]);refine cP (by kernel_rfl) rfl λa7 y=>?_;go_simp;refine y.out _ _ ?_;(try simp only[aK,aL,List.set]);have d0:U (cK b o ((g.heap.size+1,lr ((v.u.take (d+1)).foldl iz (e,[])).2)::Fr) p ((v.u.take (d+1)).foldl iz (e,[])).1 a):=by
    rw[c1.b];exact⟨c6,_,_,_,_,λi B=>d2 i (d1 i (b8.b i B)),F.b⟩
   go_wp2;exact⟨⟨d+1,by go_num,by omega,d0⟩,by simp[intOf];omega⟩
  .have d5:d=v.u.length:=by omega
   subst d5;have x:=x.b;rw[YG]at x;obtain⟨c5,e2,d8,c8,c9,R,m⟩:=x;have m:=Z m;go_wp2;go_ret;exact⟨g.heap.size+1,_,rfl,λi B=>Y5 _ (R i B),Yb,m.b.gO.b8⟩
end
end Go.Proofs.YtjdhaegijjednaaGreatDoor
namespace Go.Proofs.YtjdhaegijjednaaGreatDoor
open Go.Proofs.Tryz
section
variable {a c τ : Type} {b : ByteArray}
def Yl(d:PM a)(c:a->Prop):Prop:=∀e b f,d e=.ok (b,f)->c b
def Yx(d:PX τ a)(c:a->Prop):Prop:=∀e g b f h,d e g=.ok (b,f,h)->c b
def dJ(b:PM a):Yl b λ_=>True:=λ_ _ _ _=>trivial
def qx(b:PX τ a):Yx b λ_=>True:=λ_ _ _ _ _ _=>trivial
def jC{d:a->Prop}{b:a}(f:d b):Yl (bS b) d:=λg e h c=>by
 have c:Except.ok (b,g)=Except.ok (e,h):=c;cases c
 exact f
def Ek{d:a->Prop}{b:a}(f:d b):Yx (τ:=τ) (cG b) d:=λg i e h j c=>by
 have c:Except.ok (b,g,i)=Except.ok (e,h,j):=c;cases c
 exact f
def wn{c:a->Prop}(f d:Nat):Yl (fj f d) c:=λh e g b=>by
 have b:Except.error _=Except.ok (e,g):=b;cases b
def du{e:c->Prop}{Q:a->Prop}{g:PM a}{f:a->PM c}(j:Yl g Q)(i:∀b,Q b->Yl (f b) e):Yl (au g f) e:=by
 intro l k m d;unfold au at d;split at d
 .rename_i b n h;exact i b (j _ _ _ h) _ _ _ d
 .cases d
def mC{e:c->Prop}{Q:a->Prop}{g:PX τ a}{f:a->PX τ c}(j:Yx g Q)(i:∀b,Q b->Yx (f b) e):Yx (av g f) e:=by
 intro l o k m p d;unfold av at d;split at d
 .rename_i b n q h;exact i b (j _ _ _ _ _ h) _ _ _ _ _ d
 .cases d
def zq{c:a->Prop}{d:PM a}(e:Yl d c):Yx (τ:=τ) (lift d) c:=by
 intro i k h j l b;unfold lift at b;split at b
 .rename_i g m f;cases b;exact e _ _ _ f
 .cases b
def Rt:Yl (kf b) gy:=by
 unfold kf;refine du (dJ _) λa _=>?_;unfold hE;split
 .exact jC trivial
 split
 .exact jC trivial
 split
 .exact jC trivial
 split
 .exact jC trivial
 split
 .refine du (dJ _) λc _=>?_;split
  .exact jC trivial
  .exact du (dJ _) λ_ _=>jC trivial
 .exact wn _ _
def CV:Yl (lB b) gy:=by
 unfold lB;refine du (dJ _) λa _=>?_;split
 .exact jC trivial
 .exact Rt
def MD:Yx (jw b) λa=>gy a.cc/\gy a.b3:=by
 unfold jw;exact mC (zq CV) λh d=>mC (qx _) λg _=>mC (qx _) λ_ _=>mC (zq CV) λe c=>mC (qx _) λ_ _=>mC (qx _) λf _=>Ek ⟨d,c⟩
def tf{d:PM a}{e f:τ}{g h:St}{c:a}(b:lift d e g=.ok (c,f,h)):d g=.ok (c,h)/\f=e:=by
 unfold lift at b;split at b
 .rename_i j k i;cases b;exact⟨i,rfl⟩
 .cases b
def sF{h:PX τ a}{g:a->PX τ c}{j:τ}{k:St}{i:c×τ×St}(d:av h g j k=.ok i):∃b e f,h j k=.ok (b,e,f)/\g b e f=.ok i:=by
 unfold av at d;split at d
 .rename_i b e f l;exact⟨b,e,f,l,d⟩
 .cases d
def FR{u:Type}{nh:Nat}{t:PX τ Unit}(m:τ->List u)(s:u->Prop)(I:∀c h d f,t c h=.ok ((),d,f)->∃l,m d=m c++[l]/\s l) :
  ∀(o a:Nat) (c:τ) (h:St) (d:τ) (f:St),hh b nh t o a c h=.ok ((),d,f)->a<=nh->∃g,m d=m c++g/\(∀l∈g,s l)/\a+g.length<=nh/\(a=0->g≠[]):=by
 intro o;induction o with
 |zero=>intro a c h d f n _;exact absurd (tf n).1 (λe=>by have e:Except.error _=Except.ok _:=e;cases e)
 |succ o M=>
  intro a c h d f n G;unfold hh at n;obtain⟨r,q,v,i,j⟩:=sF n;have J:q=c/\(a=0->r=false):=by
   split at i
   .have i:Except.ok (false,c,h)=Except.ok (r,q,v):=i;cases i
    exact⟨rfl,λ_=>rfl⟩
   .rename_i z;exact⟨(tf i).2,λe=>absurd e z⟩
  obtain⟨rfl,K⟩:=J;cases r with
  |true=>
   have j:Except.ok ((),q,v)=Except.ok ((),d,f):=j;cases j
   exact⟨[],by simp,by simp,by simpa using G,λe=>absurd (K e) (by simp)⟩
  |false=>
   simp only[Ye,if_false]at j
   obtain⟨l,S,a1,A,B⟩:=sF j;obtain⟨-,rfl⟩:=tf A;obtain⟨_,a0,a2,k,C⟩:=sF B;obtain⟨k,rfl⟩:=tf k;have F:a<nh:=by
    unfold ei at k;split at k
    .cases k
    .omega
   obtain⟨_,N,P,D,E⟩:=sF C;obtain⟨O,L,H⟩:=I _ _ _ _ D;obtain⟨g,x,y,R,-⟩:=M (a+1) N P d f E F;refine⟨O::g,by rw[x,L];simp,?_,by simp;omega,λ_=>by simp⟩;intro w p;rcases Yg.1 p with rfl|p
   .exact H
   .exact y w p
def zU{j k:Type}{nh:Nat}{h:PX (List j×k) Unit}(e:j->Prop)(s:∀i l f m,h i l=.ok ((),f,m)->∃d,f.1=i.1++[d]/\e d)(t:k):Yl (hZ (eu b nh h) ([],t)) λc=>c.1≠[]/\c.1.length<=nh/\∀d∈c.1,e d:=by
 intro l c m a;unfold hZ at a;split at a
 .rename_i f x p;cases a
  obtain⟨_,v,y,q,r⟩:=sF p;obtain⟨-,rfl⟩:=tf q;obtain⟨w,g,n,u,o⟩:=FR (·.1) e s _ _ _ _ _ _ r (YV _);rw[YT]at g;rw[g];exact⟨o rfl,by omega,n⟩
 .cases a
def RV:Yx (jz b) sv:=by
 unfold jz;refine mC (qx _) λ_ _=>mC (qx _) λh _=>?_;unfold tU;refine mC (zq (zU (λc:es=>gy c.cc/\gy c.b3) ?_ _)) λc f=>mC (qx _) λg _=>Ek f.2;intro j l k m a;unfold jA at a;split at a
 .rename_i d i n e;cases a;exact⟨d,rfl,MD _ _ _ _ _ e⟩
 .cases a
def MP(c:Nat):Yl (hC b c) kk:=by
 unfold hC;refine du (dJ _) λ_ _=>du (dJ _) λh _=>?_;unfold oy;refine du (zU sv ?_ _) λi f=>du (dJ _) λg _=>jC f;intro k m l n a;unfold iU at a;split at a
 .rename_i d j o e;cases a;exact⟨d,rfl,RV _ _ _ _ _ e⟩
 .cases a
def Kl(g:List UInt8×Nat):∀(c:Nat) (e:List (List UInt8×Nat×Int)) (d:List (Int×Int)),Yl (go b g c e d) kk:=by
 intro c;induction c with
 |zero=>intro e d;exact wn _ _
 |succ c f=>
  intro e d j h k a;unfold go at a;split at a
  .refine(du (dJ _) λi _=>?_:Yl _ kk) _ _ _ a;split
   .exact f _ _
   .unfold mX;exact du (dJ _) λ_ _=>du (dJ _) λ_ _=>jC trivial
  .cases a
def Hm:Yl (fN b) kk:=by
 unfold fN;refine du (dJ _) λa _=>?_;unfold dT;split
 .unfold iv;exact du (dJ _) λ_ _=>du (dJ _) λ_ _=>du (dJ _) λ_ _=>du (dJ _) λ_ _=>du (dJ _) λ_ _=>jC trivial
 split
 .unfold iC;exact du (dJ _) λ_ _=>du (dJ _) λ_ _=>du (dJ _) λ_ _=>jC trivial
 split
 .unfold gm;exact du (dJ _) λ_ _=>du (dJ _) λ_ _=>du (dJ _) λ_ _=>Kl _ _ _ _
 split
 .unfold iZ;exact du (dJ _) λ_ _=>du (dJ _) λ_ _=>du (dJ _) λ_ _=>du (dJ _) λ_ _=>jC trivial
 split
 .unfold dP;exact du (dJ _) λ_ _=>du (dJ _) λ_ _=>du (dJ _) λ_ _=>du (dJ _) λ_ _=>du (dJ _) λ_ _=>du (dJ _) λ_ _=>du (dJ _) λ_ _=>du (dJ _) λ_ _=>du (dJ _) λ_ _=>du (dJ _) λ_ _=>du (dJ _) λ_ _=>jC trivial
 split
 .exact MP _
 .exact wn _ _
def QO:∀(e:Nat) (d:List ao),(∀c∈d,kk c)->Yl (eb b e d) λj=>∀c∈j,kk c:=by
 intro e;induction e with
 |zero=>intro d _;exact wn _ _
 |succ e i=>
  intro d f;unfold eb;refine du (dJ _) λk _=>?_;split
  .exact jC f
  .refine du Hm λc h=>du (dJ _) λ_ _=>i _ ?_;intro g a;rcases Yn.1 a with a|a
   .exact f g a
   .rw[Yc.1 a];exact h
def MM{c:List ao}(a:en b=.ok c):∀d∈c,kk d:=by
 unfold en at a;split at a
 .cases a
 split at a
 .cases a
 .rename_i f g e;split at a
  .cases a
  split at a
  .cases a
  .cases a
   exact QO _ _ (by simp) _ _ _ e
end
end Go.Proofs.YtjdhaegijjednaaGreatDoor
namespace Go.Proofs.YtjdhaegijjednaaGreatDoor
open Go.RowKit
open Go.MapKept
open Go.Proofs.Tryz
section
variable {j:TypeId}{b:Nat}{e:List (Nat×Obj)}{f g h:Value}{d:World}
abbrev zh(a:eH×Value):List Value:=ll a.1.t a.1.m++[a.2,.int .i64 a.1.num]
abbrev ln(b a:Int)(c:Option Nat):Obj:=.cells #[.int .u32 b,.int .u32 a,.map c] 263
def zG:∀(a:List eH) {q:aT×jj} {b:Nat},(∀v∈a,sv v)->aU q.1 (b+64*a.length)->aU (a.foldl kN q).1 b:=by
 intro a;induction a with
 |nil=>intro q b _ c;exact c
 |cons v a g=>
  intro q b d c;refine g (λh f=>d h (Y5 _ f)) ?_;have e:=d v (by simp);exact zD v.u (q:=(q.1,[])) e.2 (c.bh (by have:=e.1;simp only[YC];omega))
def FO(b:List (Int×Nat×List (Int×Nat×Nat)))(a:Int)(v:Nat)(c:List (Int×Nat×Nat)):sD (bE b a (v,c))=bE (sD b) a c:=xX (λd:Nat×List (Int×Nat×Nat)=>d.2) b a (v,c)
def sw.bn{a:List (Nat×Obj)}{d:List (Int×Nat×List (Int×Nat×Nat))}(g:sw e d)(h:∀c∈e,c∈a)(j:Int){v:Nat}{f:List (Int×Nat×Nat)}(i:(v,lr f)∈a):sw a (bE d j (v,f)):=by
 intro c b;rcases xY b with b|rfl
 .exact h _ (g c b)
 .exact i
structure wA(d:World)(a:eS)(Fr e:List (Nat×Obj))(R:Nat)(Q:aT×jj)(lv:List (Int×Nat×List (Int×Nat×Nat)))(bk:List (Nat×Obj))(sl ks:Value)(cv:List (dg×Value))(et:List (List UInt8×df×Value))(ur:World):Prop where
 a9:∀p∈e,p∈bk
 l9:sw bk lv
 h6:sD lv=Q.2.vs
 H:(lv.map (·.1)).Nodup
 cp:Cp d a ((R+1+1,ln Q.2.lo Q.2.hi (some (R+1)))::(R+1,mz lv)::(R,ln 0 0 none)::Fr) bk Q.1 sl ks cv et ur
def EI(d:World)(g:eS)(Fr e:List (Nat×Obj))(f:List eH)(c:aT)(h:Ending)(j:World):Prop:=∃(a:ji) (b:List (Nat×Obj)),h=.returned (.agg #[.int .u32 a.lo,.int .u32 a.hi,.map (some a.m)])/\(∀i∈e,i∈b)/\lO b a/\us a=(qc f c).2/\cK d g Fr b (qc f c).1 j
def vH{a:Value}(c:d.heap[b]? = some (.cells #[f,g,h,a] j)) :
  d.cell? ⟨b,0,none⟩=some f/\d.cell? ⟨b,1,none⟩=some g/\d.cell? ⟨b,2,none⟩=some h/\d.cell? ⟨b,3,none⟩=some a:=by
 refine⟨?_,?_,?_,?_⟩<;>simp[World.cell?,c]
def oz(a:d.heap[b]? = some (.cells #[f,g,h] j)) :
  d.cell? ⟨b,0,none⟩=some f/\d.cell? ⟨b,1,none⟩=some g/\d.cell? ⟨b,2,none⟩=some h/\(∀c,d.frozen? ⟨b,c,none⟩=false)/\b<d.heap.size:=by
 refine⟨?_,?_,?_,?_,aj a⟩<;>simp[World.cell?,World.frozen?,a]
def vS{x y z:Value}(a:d.heap[b]? = some (.cells #[f,g,h] j)):(((d.setCell ⟨b,0,none⟩ x).setCell ⟨b,1,none⟩ y).setCell ⟨b,2,none⟩ z).heap[b]? = some (.cells #[x,y,z] j):=bu (i:=2) (bu (i:=1) (bu (i:=0) a x) y) z
def Bf(a c e:Value):ai [b] d (((d.setCell ⟨b,0,none⟩ a).setCell ⟨b,1,none⟩ c).setCell ⟨b,2,none⟩ e):=
 (((ah [b] d).O (p:=⟨b,0,none⟩) (by simp) _).O (p:=⟨b,1,none⟩) (by simp) _).O (p:=⟨b,2,none⟩) (by simp) _
def MR{f:World}{s:eS}{Fr:List (Nat×Obj)}{l:aT}{a1 a0:Value}{I:List (dg×Value)}{J:List (List UInt8×df×Value)}{a2:List (Nat×Obj)}{b5:Nat}{d1:List UInt8}{a:List eH}{c9:Int}(g4:dw a2 b (.prog d1 b5 a c9))(E:∀p∈a2,d.heap[p.1]? = some p.2)(B:kk (.prog d1 b5 a c9))(t:Cp d s Fr e l a1 a0 I J f)(g8:aU l 400) :
  Calls prog 135 #[.pointer (some ⟨s.C,0,none⟩),.pointer (some ⟨b,0,none⟩)] f (EI d s Fr e a l):=by
 have l0:=jr;have j7:=xf;obtain⟨i1,r,g1,j6,h0,c4⟩:=g4;obtain⟨g7,j8,h2⟩:=B;have c5:0<a.length:=YM.2 g7;have c2:=E _ g1;have g2:f.heap[b]? = _:=t.dF c2;have j4:b<d.heap.size:=aj c2;have l3:d.heap.size<=f.heap.size:=t.G.B.F;obtain⟨k,a3,a4,rfl,⟨j5,_⟩,B,R⟩:∃k a3 a4,i1=.slice (some ⟨k,0,none⟩) a.length a3/\(a.length<=a3/\a.length<=1000)/\(k,Obj.cells a4 367)∈a2/\a4.toList.take ((a.zip r).flatMap zh).length=(a.zip r).flatMap zh:=by
  rcases h0 with⟨_,i6,_⟩|t
  .omega
  .exact t
 have c3:∀(q:World),ai [] d q->∀h (O:h<a.length) (P:h<r.length),q.cell? ⟨k,h*4,none⟩=some (.string ⟨a[h].t.toArray⟩)/\q.cell? ⟨k,h*4+1,none⟩=some (.int .i64 a[h].m)/\q.cell? ⟨k,h*4+2,none⟩=some r[h]/\q.cell? ⟨k,h*4+3,none⟩=some (.int .i64 a[h].num):=by
  intro q K h O P;have N:=(K.i _ (aj (E _ B)) (by simp)).trans (E _ B);have M:=lc (c:=zh) (n:=4) (λ_=>rfl) (a.zip r) h;have S:h<(a.zip r).length:=by simp;omega
  refine⟨cu N R ?_,cu N R ?_,cu N R ?_,cu N R ?_⟩
  .have:=M 0 S (by omega);simpa using this
  .have:=M 1 S (by omega);simpa using this
  .have:=M 2 S (by omega);simpa using this
  .have:=M 3 S (by omega);simpa using this
 have g3:∀h (O:h<a.length) (P:h<r.length),∃u w x,r[h]=.slice u w x:=by
  intro h O P;rcases c4 h O P with⟨a5,_⟩|⟨_,_,_,a5,_⟩<;>exact⟨_,_,_,a5⟩
 have k6:k<d.heap.size:=aj (E _ B);obtain⟨f3,f4,f5,f6⟩:=c3 f t.G.B 0 c5 (by omega);obtain⟨l4,l5,l6,l7⟩:=vH g2;simp only[Nat.zero_mul,Nat.zero_add]at f3 f4 f5 f6;have i8:b<f.heap.size:=by omega
 have k0:k<f.heap.size:=by omega
 have i9:b<f.heap.size+1:=by omega
 have k1:k<f.heap.size+1:=by omega
 have j0:b<f.heap.size+1+1:=by omega
 have k2:k<f.heap.size+1+1:=by omega
 have k3:k≠f.heap.size:=by omega
 have j1:b≠f.heap.size:=by omega
 have k4:k≠f.heap.size+1:=by omega
 have j2:b≠f.heap.size+1:=by omega
 have k5:k≠f.heap.size+1+1:=by omega
 have j3:b≠f.heap.size+1+1:=by omega
 have l1:(0:Int) < ↑a.length:=by omega
 have g5:(a.head?.map λv=>cI v.num).getD 0=cI a[0].num:=by
  cases a with
  |nil=>simp at c5
  |cons v m6=>rfl
 have d9:U (wA d s Fr e f.heap.size (l,⟨cI a[0].num,cI a[0].num,[]⟩) [] e a1 a0 I J (((f.alloc (ln 0 0 none)).alloc (.map #[] 0)).alloc (ln (cI a[0].num) (cI a[0].num) (some (f.heap.size+1))))):=by
  have c0:=((t.d (ln 0 0 none)).d (.map #[] 0)).d (ln (cI a[0].num) (cI a[0].num) (some (f.heap.size+1)));have i3:(f.alloc (ln 0 0 none)).heap.size=f.heap.size+1:=by simp
  have i4:((f.alloc (ln 0 0 none)).alloc (.map #[] 0)).heap.size=f.heap.size+1+1:=by simp
  rw[i4,i3]at c0;exact⟨λ_ m=>m,(by intro p m;cases m),rfl,by simp,c0⟩
 have d2:=Z c3;have d3:=Z g3;have d4:=Z c4;have b3:=Z h2;have d5:=Z g8;have d7:=Z E;go_in;go_wp2;go_loopw [27] (λh i0=>∃(g:Nat) (o:List (Int×Nat×List (Int×Nat×Nat))) (z:List (Nat×Obj)) (a1 a0:Value) (I:List (dg×Value)) (J:List (List UInt8×df×Value)),h=.int .i64 g/\g<=a.length/\U (wA d s Fr e f.heap.size ((a.take g).foldl kN (l,⟨cI a[0].num,cI a[0].num,[]⟩)) o z a1 a0 I J i0)) (λh _=>a.length-(intOf h).toNat)
 case atStart=>exact⟨0,_,_,_,_,_,_,rfl,by omega,d9⟩
 case round=>
  obtain⟨g,o,z,d0,c8,b6,b9,rfl,k7,j⟩:=hrel;rcases Yj g a.length with D|j9
  .have b0:g<r.length:=by omega
   have g9:aU ((a.take g).foldl kN (l,⟨cI a[0].num,cI a[0].num,[]⟩)).1 80:=zG (a.take g) (λv h1=>b3.b v (List.mem_of_mem_take h1)) (d5.b.bh (by simp;omega));have d6:U ((a.take (g+1)).foldl kN (l,⟨cI a[0].num,cI a[0].num,[]⟩)=kN ((a.take g).foldl kN (l,⟨cI a[0].num,cI a[0].num,[]⟩)) a[g]):=by show _=_;rw[Yt D,YS];rfl
   generalize l2:(a.take g).foldl kN (l,⟨cI a[0].num,cI a[0].num,[]⟩)=i at *
   obtain⟨u,w,x,c7⟩:=d3.b g D b0;obtain⟨l8,l9,h4,m0⟩:=d2.b _ j.b.cp.G.B g D b0;rw[c7]at h4;have c6:=d4.b g D b0;rw[c7]at c6;have k8:(0:Int)<=↑g:=by omega
   have k9:(↑g:Int) < ↑a.length:=by omega
   have a7:=(j.b.cp.G.hf _ Yb).1;obtain⟨e4,e5,e6,e7,e8⟩:=oz a7;have i7:f.heap.size+1+1≠wr.heap.size:=by omega
   have e9:=j.b.cp.e6 ((ah [f.heap.size+1+1] _).O (p:=⟨f.heap.size+1+1,0,none⟩) (by simp) (.int .u32 (min i.2.lo (cI a[g].num)))) (bu (i:=0) a7 _);have f0:=e9.e6 ((ah [f.heap.size+1+1] _).O (p:=⟨f.heap.size+1+1,1,none⟩) (by simp) (.int .u32 (max i.2.hi (cI a[g].num)))) (bu (i:=1) (bu (i:=0) a7 _) _);have f2:((wr.setCell ⟨f.heap.size+1+1,0,none⟩ (.int .u32 (min i.2.lo (cI a[g].num)))).setCell ⟨f.heap.size+1+1,1,none⟩ (.int .u32 (max i.2.hi (cI a[g].num)))).heap.size=wr.heap.size:=by simp
   have b8:=f0.d (.cells #[.string ⟨a[g].t.toArray⟩,.int .i64 a[g].m,.slice u w x,.int .i64 a[g].num] 367);rw[f2]at b8;have b7:Cp d s ((wr.heap.size,(.cells #[.string ⟨a[g].t.toArray⟩,.int .i64 a[g].m,.slice u w x,.int .i64 a[g].num] 367))::(f.heap.size+1+1,ln (min i.2.lo (cI a[g].num)) (max i.2.hi (cI a[g].num)) (some (f.heap.size+1)))::(f.heap.size+1,mz o)::(f.heap.size,ln 0 0 none)::Fr) z i.1 d0 c8 b6 b9 _:=b8;have b4:=Z b7;have e1:=Z (RY c6 d7.b (b3.b a[g] (Yy D)) (b7.t ((Below.refl _ _).drew)) g9);go_wp2_with fail;refine cR (λF=>F.cell? ⟨f.heap.size+1+1,2,none⟩=some (.map (some (f.heap.size+1)))/\F.cell? ⟨wr.heap.size,0,none⟩=some (.string ⟨a[g].t.toArray⟩)/\F.cell? ⟨wr.heap.size,1,none⟩=some (.int .i64 a[g].m)/\F.cell? ⟨wr.heap.size,2,none⟩=some (.slice u w x)/\F.cell? ⟨wr.heap.size,3,none⟩=some (.int .i64 a[g].num)) (L:=6) (by kernel_rfl) rfl (by kernel_rfl) (by kernel_rfl) ?_ (λf7=>?_)
   .exact⟨(oz (b4.b.cg.G.hf _ Yb).1).2.2.1,vH (b4.b.G.hf _ Yb).1⟩
   refine bH [0,1,2,3,4] ?_;iterate 5 (refine bO (v:=?_) rfl (by kernel_rfl) (λ_ _ _ t=>t) (by rfl) (by assumption) ?_ ?_;rotate_left;focus (intro d f9;(try dsimp only at f9);go_simp;(try with_reducible rfl));(try simp only[aK,aL,List.set]))
   refine bI ?_;refine cj 5 (by kernel_rfl) rfl λd8 a6=>?_;(go_simp;go_at_call 212;refine e1.b.mono ?_;rintro a5 i2 ⟨H,i5,rfl,c1,g0,e2,h6,h3,e3,f1,a9,y⟩;obtain⟨m7,m8,m9,n0⟩:=vH (y.G.hf _ Yb).1;obtain⟨n1,n2,n3,n4,n5⟩:=oz (y.cg.G.hf _ Yb).1;have b1:=(y.cg.cg.G.hf _ Yb).1;have h5:=RS b1 j.b.H (cI a[g].num) H (oO a[g] i.1).2;have G:=tW (A:=[(f.heap.size+1+1,ln (min i.2.lo (cI a[g].num)) (max i.2.hi (cI a[g].num)) (some (f.heap.size+1)))]) y.cg (gV _ _ _) (ka (aj b1) (mz (bE o (cI a[g].num) (H,(oO a[g] i.1).2))));obtain⟨q,K⟩:∃q,q=dm i2 (f.heap.size+1) (mz (bE o (cI a[g].num) (H,(oO a[g] i.1).2))):=⟨_,rfl⟩;rw[<-K]at h5 G;have G:=Z G;clear y b1 K);refine a6.out _ _ ?_ (λf7=>?_)
   .go_keep
   (try simp only[aK,aL,List.set]);refine cP (by kernel_rfl) rfl λd8 a6=>?_;go_simp;refine a6.out _ _ ?_;(try simp only[aK,aL,List.set]);have f8:U (wA d s Fr e f.heap.size ((a.take (g+1)).foldl kN (l,⟨cI a[0].num,cI a[0].num,[]⟩)) (bE o (cI a[g].num) (H,(oO a[g] i.1).2)) e2 h6 h3 e3 f1 q):=by
    rw[d6.b];refine⟨λp m=>a9 p (c1 p (j.b.a9 p m)),j.b.l9.bn (λp m=>a9 p (c1 p m)) _ (a9 _ g0),?_,pQ j.b.H _ _,G.b⟩;rw[FO,j.b.h6];rfl
   go_wp2;exact⟨⟨g+1,_,_,_,_,_,_,by go_num,by omega,f8⟩,by simp[intOf];omega⟩
  .have g6:g=a.length:=by omega
   subst g6;have j:=j.b;rw[YG]at j;have b2:U (qc a l=a.foldl kN (l,⟨cI a[0].num,cI a[0].num,[]⟩)):=by
    show qc a l=_;unfold qc;rw[g5]
   generalize a.foldl kN (l,⟨cI a[0].num,cI a[0].num,[]⟩)=i at *
   obtain⟨e4,e5,e6,e7,e8⟩:=oz (j.cp.G.hf _ Yb).1;have a8:=(j.cp.cg.cg.G.hf _ Yb).1;obtain⟨m1,m2,m3,m4,m5⟩:=oz a8;obtain⟨h7,h8,h9,_,_⟩:=oz (vS (x:=.int .u32 i.2.lo) (y:=.int .u32 i.2.hi) (z:=.map (some (f.heap.size+1))) a8);have e0:=Z (tW (A:=[(f.heap.size+1,mz o)]) j.cp.cg (Bf (.int .u32 i.2.lo) (.int .u32 i.2.hi) (.map (some (f.heap.size+1)))) (vS a8));have j:=Z j;go_wp2;refine bodyPost_ret (v:=.agg #[.int .u32 i.2.lo,.int .u32 i.2.hi,.map (some (f.heap.size+1))]) (by simp[results,results135,go_sem,h7,h8,h9]) rfl ?_;refine⟨⟨i.2.lo,i.2.hi,f.heap.size+1,o⟩,(f.heap.size+1,mz o)::z,rfl,λp m=>Y5 _ (j.b.a9 p m),⟨Yb,λp m=>Y5 _ (j.b.l9 p m)⟩,?_,?_⟩
   .rw[b2.b];show jj.mk i.2.lo i.2.hi (sD o)=i.2;rw[j.b.h6]
   .rw[b2.b];exact(Cp.gO (e0.b:Cp d s ((f.heap.size+1,mz o)::_::Fr) z i.1 d0 c8 b6 b9 _)).cg.b8
end
section
variable {e:eS}{b:List (Nat×Obj)}{f:List (dg×Value)}{et:List (List UInt8×df×Value)}{h g:Value}{a:aT}{c w:World}
def Mx{b:World}{e:Nat}{c:List (List UInt8×Nat)}(g:b.heap[e]? = some (jv c))(h:(c.map (·.1)).Nodup)(a:List UInt8)(f:Nat) :
  (Instr.mapUpdate 103 (.map (some e)) (.string ⟨a.toArray⟩) (.int .i64 f)).run prog b=.ok () (dm b e (jv (bE c a f))):=
 pN (P:=prog) (T:=103) (kt:=9) (et:=3) (d:=.string) (by kernel_rfl) (by kernel_rfl) (λa:List UInt8=>.string ⟨a.toArray⟩) (λa:Nat=>.int .i64 a) (λ_=>trivial) (λ_=>yM _) rW g h a f
def cK.c5{Fr:List (Nat×Obj)}(g:cK w e Fr b a c)(f:List (Nat×Obj))(i:∀d∈f,w.heap[d.1]? = some d.2):bm [] f c:=λd h=>⟨g.dF (i d h),by simp⟩
def Cp.m2{Fr:List (Nat×Obj)}(j:Cp w e Fr b a g h f et c)(q:a.q.length<1000000):∃k,oS k g a.q/\(∀d∈b,d∈k)/\∀d∈k,c.heap[d.1]? = some d.2:=by
 have p:∀d∈b,c.heap[d.1]? = some d.2:=λd i=>(j.G.hb d i).1;rcases j.row.2 with⟨l,o⟩|⟨n,r,m,l,_,s,t,x,y,u⟩
 .refine⟨b,⟨f,j.gC,Y8 ⟨l,o,?_⟩,j.g6,q⟩,λ_ i=>i,p⟩;have:=j.row.1;rw[o]at this;simpa using this
 .refine⟨(n,.cells m 273)::b,⟨f,j.gC,Ya ⟨n,r,m,l,t,Yb,?_⟩,λd i=>(j.g6 d i).L (λ_ v=>Y5 _ v),q⟩,λ_ i=>Y5 _ i,?_⟩
  .simpa using u
  .intro d i;rcases Yg.1 i with rfl|i
   .exact s
   .exact p d i
def EL(w:World)(e:eS)(Fr b:List (Nat×Obj))(d:List ao)(a:aT)(f:Ending)(h:World):Prop:=∃S c,f=.returned (.map (some S))/\(∀g∈b,g∈c)/\(S,jv (d.foldl ek (a,[])).2)∈c/\cK w e Fr c (d.foldl ek (a,[])).1 h
set_option maxHeartbeats 8000000 in
def Ry{Fr:List (Nat×Obj)}{E:List (Nat×Obj)}{u:Value}{d:List ao}{A:List Nat}(c3:jd E u d A)(M:∀p∈E,w.heap[p.1]? = some p.2)(f8:d.length<=100)(F:Cp w e Fr b a g h f et c)(d0:aU a 300) :
  Calls prog 77 #[.pointer (some ⟨e.C,0,none⟩),u] c (EL w e Fr b d a):=by
 have f7:=jr;have f0:=nS;obtain⟨f9,a2,c5⟩:=c3;have a7:=Z d0;have b0:U (cK w e ((c.heap.size,jv ((d.take 0).foldl ek (a,[])).2)::Fr) b ((d.take 0).foldl ek (a,[])).1 (c.alloc (.map #[] 0))):=(F.d (.map #[] 0)).b8;have c2:∀(v:World),ai [] w v->∀j (c6:j<d.length) (c7:j<A.length),∃o l,u=.slice (some ⟨o,0,none⟩) d.length l/\d.length<=l/\v.cell? ⟨o,j,none⟩=some (.iface (cD d[j]) (.pointer (some ⟨A[j],0,none⟩))):=by
  intro v d4 j c6 c7;rcases a2 with⟨_,R,_⟩|⟨o,l,b4,n,⟨b7,_⟩,a0,d3⟩
  .omega
  .exact⟨o,l,n,b7,cu ((d4.i _ (aj (M _ a0)) (by simp)).trans (M _ a0)) d3 (by unfold iO;rw[List.getElem?_map,Yd (by simp;omega)];simp)⟩
 obtain⟨e5,e6,rfl⟩:∃ad l,u=.slice ad d.length l:=by
  rcases a2 with⟨n,R,_⟩|⟨o,l,b4,n,_⟩
  .exact⟨none,0,by rw[n,R]⟩
  .exact⟨_,_,n⟩
 have a5:=Z c2;have a6:=Z c5;have a8:=Z M;go_in;go_wp2;go_loopw [14] (λj d8=>∃i:Nat,j=.int .i64 i/\i<=d.length/\U (cK w e ((c.heap.size,jv ((d.take i).foldl ek (a,[])).2)::Fr) b ((d.take i).foldl ek (a,[])).1 d8)) (λj _=>d.length-(intOf j).toNat)
 case atStart=>exact⟨0,rfl,by omega,b0⟩
 case round=>
  obtain⟨i,rfl,f3,q⟩:=hrel;rcases Yj i d.length with J|f2
  .have a1:i<A.length:=by omega
   have d1:aU ((d.take i).foldl ek (a,[])).1 100:=zF (d.take i) (p:=(a,[])) (a7.b.bh (by simp;omega));have c9:(((d.take i).foldl ek (a,[])).2.map (·.1)).Nodup:=Dm _ (by simp);have d2:(d.take (i+1)).foldl ek (a,[])=ek ((d.take i).foldl ek (a,[])) d[i]:=by rw[Yt J,YS];rfl
   have O:=Z d2;obtain⟨b2,d7,d5,b5,b6,I,k⟩:=q.b;generalize z:(d.take i).foldl ek (a,[])=p at *
   obtain⟨o,l,c4,e9,g3⟩:=a5.b _ k.G.B i J a1;cases c4
   have g0:=oG (a6.b i J a1) (k.b8.c5 E a8.b);have f4:(0:Int)<=↑i:=by omega
   have f5:(↑i:Int) < ↑d.length:=by omega
   have k:=Z k;have N:=Z I;go_wp2_with fail;refine(nR _ _ _).mono ?_;rintro n m ⟨rfl,c0⟩;have P:=k.b.t c0;obtain⟨e0,e1,e2,e3,f1,f6⟩:=P.r;have e8:e.C≠m.heap.size:=by omega
   have B:=(P.d (.cells #[.string ⟨(bA d[i]).1.toArray⟩,.int .i64 (bA d[i]).2] 160)).t ((Below.refl _ _).drew);have y:=B.k7 (bA d[i]).1 true;cases x:ay p.1.cx (bA d[i]).1 with
   |none=>
    rw[x]at y;simp only[if_true]at y
    have H:U (cK w e ((c.heap.size,jv ((d.take (i+1)).foldl ek (a,[])).2)::Fr) b ((d.take (i+1)).foldl ek (a,[])).1 (m.alloc (.cells #[.string ⟨(bA d[i]).1.toArray⟩,.int .i64 (bA d[i]).2] 160)).drew):=by
     rw[O.b];unfold ek;rw[x];simp only[Option.isSome_none,Ye,if_false]
     exact kR N.b B.cg.b8
    go_wp2_with fail;go_region;go_wp2;exact⟨⟨i+1,by go_num,by omega,H⟩,by simp[intOf];omega⟩
   |some g2=>
    rw[x]at y;simp only[if_true]at y
    have b1:=Z (xg (t:=.named (bA d[i]).1 (bA d[i]).2) trivial (B.t ((Below.refl _ _).drew)) (d1.bh (by omega)));have a4:U (ek p d[i]=(yL (bA d[i]).1 p.1,bE p.2 (bA d[i]).1 p.1.q.length)):=by
     show _=_;unfold ek;rw[x];rfl
    go_wp2_with fail;go_region;go_wp2_with fail;refine cR (λa3=>a3.cell? ⟨m.heap.size,0,none⟩=some (.string ⟨(bA d[i]).1.toArray⟩)/\a3.cell? ⟨m.heap.size,1,none⟩=some (.int .i64 (bA d[i]).2)) (L:=8) (by kernel_rfl) rfl (by kernel_rfl) (by kernel_rfl) ?_ (λb8=>?_)
    .exact⟨(sG (w:=((m.alloc _).drew).drew) (aJ (w:=m) rfl)).1,(sG (w:=((m.alloc _).drew).drew) (aJ (w:=m) rfl)).2.1⟩
    refine bH [0,1,2,3,4,5,6] ?_;iterate 7 (refine bO (v:=?_) rfl (by kernel_rfl) (λ_ _ _ F=>F) (by rfl) (by assumption) ?_ ?_;rotate_left;focus (intro w b9;(try dsimp only at b9);go_simp;(try with_reducible rfl));(try simp only[aK,aL,List.set]))
    refine bI ?_;refine cj 7 (by kernel_rfl) rfl λa9 G=>?_;(go_simp;go_at_call 134;refine b1.b.mono ?_;rintro n d9 ⟨rfl,b3,g4,g1,e4,e7,c1,r⟩;obtain⟨g5,g6,_,_⟩:=sG (r.G.hf _ Yb).1;have K:=(r.cg.G.hf _ Yb).1;have d6:=Mx K c9 (bA d[i]).1 p.1.q.length;have s:=r.cg.e6 (gV _ _ _) (ka (aj K) (jv (bE p.2 (bA d[i]).1 p.1.q.length)));obtain⟨D,S⟩:∃D,D=dm d9 c.heap.size (jv (bE p.2 (bA d[i]).1 p.1.q.length)):=⟨_,rfl⟩;rw[<-S]at d6 s;have s:=Z s;clear r K S);refine G.out _ _ ?_ (λb8=>?_)
    .go_keep
    (try simp only[aK,aL,List.set]);refine cP (by kernel_rfl) rfl λa9 G=>?_;go_simp;refine G.out _ _ ?_;(try simp only[aK,aL,List.set]);have H:U (cK w e ((c.heap.size,jv ((d.take (i+1)).foldl ek (a,[])).2)::Fr) b ((d.take (i+1)).foldl ek (a,[])).1 D):=by
     rw[O.b,a4.b];exact⟨b3,_,_,_,_,λp z=>c1 p (N.b p z),s.b⟩
    go_wp2;exact⟨⟨i+1,by go_num,by omega,H⟩,by simp[intOf];omega⟩
  .have c8:i=d.length:=by omega
   subst c8;have q:=q.b;rw[YG]at q;obtain⟨b2,d7,d5,b5,b6,I,k⟩:=q;have k:=Z k;go_wp2;go_ret;exact⟨c.heap.size,_,rfl,λp z=>Y5 _ (I p z),Yb,k.b.gO.b8⟩
end
def zE:∀(l:List ao) {q:aT×List (Int×jj)} {c:Nat},(∀a∈l,kk a)->aU q.1 (c+256*l.length)->aU (l.foldl gI q).1 c:=by
 intro l;induction l with
 |nil=>intro q c _ b;exact b
 |cons a l g=>
  intro q c e b;refine g (λi f=>e i (Y5 _ f)) ?_;have d:=e a (by simp);cases a with
  |prog m j h k=>exact zG h (q:=(q.1,_)) d.2.2 (b.bh (by have:=d.2.1;simp only[YC];omega))
  |_=>exact b.bh (by simp only[YC];omega)
def lO.L{b c:List (Nat×Obj)}(e:∀a∈b,a∈c){f:ji}(d:lO b f):lO c f:=⟨e _ d.1,λa g=>e _ (d.2 a g)⟩
def FN(b:List (Int×ji))(a:Int)(c:ji):sC (bE b a c)=bE (sC b) a (us c):=xX us b a c
def FK{b:ao}(h:∀d a e c,b≠.prog d a e c)(g:Nat)(f:World):(Instr.typeAssert (.iface (cD b) (.pointer (some ⟨g,0,none⟩))) 157 233 true).run prog f=.ok (.tuple #[.pointer none,.bool false]) f:=by
 cases b with
 |prog d a e c=>exact absurd rfl (h d a e c)
 |_=>kernel_rfl
def ML{b:ao}(g:∀d a e c,b≠.prog d a e c)(f:aT×List (Int×jj)):gI f b=f:=by
 cases b with
 |prog d a e c=>exact absurd rfl (g d a e c)
 |_=>rfl
structure ui(w:World)(a:eS)(Fr bs:List (Nat×Obj))(B:Nat)(Q:aT×List (Int×jj))(lp:List (Int×ji))(bk:List (Nat×Obj))(sl ks:Value)(cv:List (dg×Value))(et:List (List UInt8×df×Value))(ur:World):Prop where
 a9:∀p∈bs,p∈bk
 lv:∀p∈lp,lO bk p.2
 h6:sC lp=Q.2
 H:(lp.map (·.1)).Nodup
 cp:Cp w a ((B,qd lp)::Fr) bk Q.1 sl ks cv et ur
def EJ(k:World)(g:eS)(Fr h:List (Nat×Obj))(e:List ao)(f:aT)(i:Ending)(j:World):Prop:=∃d b a,i=.returned (.map (some d))/\(∀c∈h,c∈a)/\(d,qd b)∈a/\(∀c∈b,lO a c.2)/\sC b=(e.foldl gI (f,[])).2/\(b.map (·.1)).Nodup/\cK k g Fr a (e.foldl gI (f,[])).1 j
set_option maxHeartbeats 8000000 in
def MT{i k:World}{e:eS}{Fr n:List (Nat×Obj)}{g:aT}{F D:Value}{y:List (dg×Value)}{A:List (List UInt8×df×Value)}{a6:List (Nat×Obj)}{z:Value}{b:List ao}{j:List Nat}(O:jd a6 z b j)(a0:∀f∈a6,i.heap[f.1]? = some f.2)(g9:b.length<=100)(d8:∀I∈b,kk I)(J:Cp i e Fr n g F D y A k)(e3:aU g 27000) :
  Calls prog 78 #[.pointer (some ⟨e.C,0,none⟩),z] k (EJ i e Fr n b g):=by
 have g8:=jr;have g3:=xf;obtain⟨h0,b8,d7⟩:=O;have c2:=Z e3;have a4:=Z d8;have c4:U (ui i e Fr n k.heap.size ((b.take 0).foldl gI (g,[])) [] n F D y A (k.alloc (.map #[] 0))):=⟨λ_ d=>d,(by intro f d;cases d),rfl,by simp,J.d (.map #[] 0)⟩;have d5:∀(v:World),ai [] i v->∀h (d9:h<b.length) (e0:h<j.length),∃o l,z=.slice (some ⟨o,0,none⟩) b.length l/\b.length<=l/\v.cell? ⟨o,h,none⟩=some (.iface (cD b[h]) (.pointer (some ⟨j[h],0,none⟩))):=by
  intro v S h d9 e0;rcases b8 with⟨_,a7,_⟩|⟨o,l,c6,m,⟨d1,_⟩,b3,e6⟩
  .omega
  .exact⟨o,l,m,d1,cu ((S.i _ (aj (a0 _ b3)) (by simp)).trans (a0 _ b3)) e6 (by unfold iO;rw[List.getElem?_map,Yd (by simp;omega)];simp)⟩
 obtain⟨f8,f9,rfl⟩:∃ad l,z=.slice ad b.length l:=by
  rcases b8 with⟨m,a7,_⟩|⟨o,l,c6,m,_⟩
  .exact⟨none,0,by rw[m,a7]⟩
  .exact⟨_,_,m⟩
 have c0:=Z d5;have c1:=Z d7;have G:=Z a0;go_in;go_wp2;go_loopw [12] (λh f3=>∃(a:Nat) (p:List (Int×ji)) (H:List (Nat×Obj)) (F D:Value) (y:List (dg×Value)) (A:List (List UInt8×df×Value)),h=.int .i64 a/\a<=b.length/\U (ui i e Fr n k.heap.size ((b.take a).foldl gI (g,[])) p H F D y A f3)) (λh _=>b.length-(intOf h).toNat)
 case atStart=>exact⟨0,_,_,_,_,_,_,rfl,by omega,c4⟩
 case round=>
  obtain⟨a,p,H,f1,e7,c7,c9,rfl,g5,c⟩:=hrel;rcases Yj a b.length with B|g4
  .have b5:a<j.length:=by omega
   have e4:aU ((b.take a).foldl gI (g,[])).1 400:=zE (b.take a) (λI O=>a4.b I (List.mem_of_mem_take O)) (c2.b.bh (by simp;omega));have a5:U ((b.take (a+1)).foldl gI (g,[])=gI ((b.take a).foldl gI (g,[])) b[a]):=by show _=_;rw[Yt B,YS];rfl
   generalize d:(b.take a).foldl gI (g,[])=h2 at *
   obtain⟨o,l,d6,g2,a2⟩:=c0.b _ c.b.cp.G.B a B b5;cases d6
   have g6:(0:Int)<=↑a:=by omega
   have g7:(↑a:Int) < ↑b.length:=by omega
   by_cases b7:∃r e s t,b[a]=.prog r e s t
   .obtain⟨r,h1,s,q,b2⟩:=b7;have P:=c1.b a B b5;have b4:=a4.b b[a] (Yy B);rw[b2]at P b4 a2;have e5:=mw 233 (j[a]) 157 233 λx=>by kernel_rfl
    replace a2:wr.cell? ⟨o,a,none⟩=some (.iface 233 (.pointer (some ⟨j[a],0,none⟩))):=a2
    have b1:∀(v:World),ai [] i v->v.cell? ⟨j[a],3,none⟩=some (.int .i64 q):=by
     intro v S;obtain⟨h3,f7,a9,_⟩:=P;exact(vH ((S.i _ (aj (G.b _ a9)) (by simp)).trans (G.b _ a9))).2.2.2
    have g0:=b1 _ c.b.cp.G.B;have b9:=Z b1;have c5:=Z (MR P G.b b4 (c.b.cp.t ((Below.refl _ _).drew)) e4);go_wp2_with fail;refine cR (λf4=>f4.cell? ⟨j[a],3,none⟩=some (.int .i64 q)) (L:=9) (by kernel_rfl) rfl (by kernel_rfl) (by kernel_rfl) ?_ (λd2=>?_)
    .go_keep
    refine bH [0,1,2,3,4,5,6,7] ?_;iterate 8 (refine bO (v:=?_) rfl (by kernel_rfl) (λ_ _ _ J=>J) (by rfl) (by assumption) ?_ ?_;rotate_left;focus (intro i d3;(try dsimp only at d3);go_simp;(try with_reducible rfl));(try simp only[aK,aL,List.set]))
    refine bI ?_;refine cj 8 (by kernel_rfl) rfl λc3 K=>?_;(go_simp;go_at_call 135;refine c5.b.mono ?_;rintro m f5 ⟨E,f6,rfl,b0,e1,d4,f0,f2,e8,c8,d0,N,u⟩;have g1:=b9.b _ u.G.B;have R:=(u.G.hf _ Yb).1;have e9:=MU R c.b.H (cI q) E;have w:=u.e6 (gV _ _ _) (ka (aj R) (qd (bE p (cI q) E)));obtain⟨x,a8⟩:∃x,x=dm f5 k.heap.size (qd (bE p (cI q) E)):=⟨_,rfl⟩;rw[<-a8]at e9 w;have w:=Z w;clear u R a8);refine K.out _ _ ?_ (λd2=>?_)
    .go_keep
    (try simp only[aK,aL,List.set]);refine cP (by kernel_rfl) rfl λc3 K=>?_;go_simp;refine K.out _ _ ?_;(try simp only[aK,aL,List.set]);have M:U (ui i e Fr n k.heap.size ((b.take (a+1)).foldl gI (g,[])) (bE p (cI q) E) f0 f2 e8 c8 d0 x):=by
     rw[a5.b,b2];refine⟨λf d=>N f (b0 f (c.b.a9 f d)),?_,?_,pQ c.b.H _ _,w.b⟩
     .intro f d;rcases xY d with d|rfl
      .exact(c.b.lv f d).L λa3 a1=>N a3 (b0 a3 a1)
      .exact e1.L N
     .rw[FN,c.b.h6,d4];rfl
    go_wp2;exact⟨⟨a+1,_,_,_,_,_,_,by go_num,by omega,M⟩,by simp[intOf];omega⟩
   .have b6:∀r e s t,b[a]≠.prog r e s t:=λr e s t m=>b7 ⟨r,e,s,t,m⟩;have e5:=FK b6 j[a];have M:U (ui i e Fr n k.heap.size ((b.take (a+1)).foldl gI (g,[])) p H f1 e7 c7 c9 wr):=by
     rw[a5.b,ML b6];exact c.b
    go_wp2;exact⟨⟨a+1,_,_,_,_,_,_,by go_num,by omega,M⟩,by simp[intOf];omega⟩
  .have e2:a=b.length:=by omega
   subst e2;have c:=c.b;rw[YG]at c;have c:=Z c;go_wp2;go_ret;exact⟨k.heap.size,p,_,rfl,λf d=>Y5 _ (c.b.a9 f d),Yb,λf d=>(c.b.lv f d).L λa3 a1=>Y5 _ a1,c.b.h6,c.b.H,c.b.cp.gO.b8⟩
structure su(bs:List (Nat×Obj))(v:Value)(S P:Nat)(ds:List ao):Prop where
 q:oS bs v (wk ds).1
 j:(S,jv (wk ds).2)∈bs
 H:((wk ds).2.map (·.1)).Nodup
 o:∃lp,(P,qd lp)∈bs/\(∀p∈lp,lO bs p.2)/\sC lp=(yv ds).2/\(lp.map (·.1)).Nodup
def EM(g:World)(e:List ao)(f:Ending)(d:World):Prop:=∃v S a b,f=.returned (.agg #[v,.map (some S),.map (some a)])/\ai [] g d/\su b v S a e/\∀c∈b,d.heap[c.1]? = some c.2
set_option maxHeartbeats 8000000 in
def Fm{b:World}{O:List (Nat×Obj)}{m:Value}{ds:List ao}{o:List Nat}(g:jd O m ds o)(D:∀p∈O,b.heap[p.1]? = some p.2)(e1:ua ds)(d3:∀f∈ds,kk f)(a2:ds.length<=100) :
  Calls prog 45 #[m] b (EM b ds):=by
 have h7:=jr;have G:=Z g;have I:=Z d3;obtain⟨h8,a3,R⟩:=g;have d2:∀f∈ds,tZ f:=by
  intro f g;obtain⟨c,B,rfl⟩:=List.getElem_of_mem g;exact GR (R c B (by omega))
 have K:U (aU lE (28000+5000+300+4100*ds.length)):=⟨by simp[lE];omega,by simp[lE]⟩;have H:=Z d2;have r:=Z e1;have b3:=Z (GH b).b8;have d0:∀(v:World),ai [] b v->∀c (B:c<ds.length) (d4:c<o.length),∃h e,m=.slice (some ⟨h,0,none⟩) ds.length e/\ds.length<=e/\v.cell? ⟨h,c,none⟩=some (.iface (cD ds[c]) (.pointer (some ⟨o[c],0,none⟩))):=by
  intro v e2 c B d4;rcases a3 with⟨_,P,_⟩|⟨h,e,c1,d,⟨u,_⟩,a0,e0⟩
  .omega
  .exact⟨h,e,d,u,cu ((e2.i _ (aj (D _ a0)) (by simp)).trans (D _ a0)) e0 (by unfold iO;rw[List.getElem?_map,Yd (by simp;omega)];simp)⟩
 obtain⟨g4,g5,rfl⟩:∃ad e,m=.slice ad ds.length e:=by
  rcases a3 with⟨d,P,_⟩|⟨h,e,c1,d,_⟩
  .exact⟨none,0,by rw[d,P]⟩
  .exact⟨_,_,d⟩
 have a7:=Z d0;have a8:=Z R;have s:=Z D;go_in;go_wp2;go_loopw [14] (λc f1=>∃a:Nat,c=.int .i64 a/\a<=ds.length/\U (cK b ⟨b.heap.size+3,b.heap.size+1,b.heap.size+2⟩ [(b.heap.size,qt (.slice none 0 0) none none)] [] (hu (ds.take a)) f1)) (λc _=>ds.length-(intOf c).toNat)
 case atStart=>exact⟨0,rfl,by omega,b3⟩
 case round=>
  obtain⟨a,rfl,h3,i⟩:=hrel;rcases Yj a ds.length with n|h2
  .have a1:a<o.length:=by omega
   have d8:aU (hu (ds.take a)) 5000:=zC (ds.take a) (λf g=>r.b f (List.mem_of_mem_take g)) (λf g=>H.b f (List.mem_of_mem_take g)) (K.b.bh (by simp;omega));obtain⟨c0,e7,e5,c2,c3,c7,j⟩:=i.b;obtain⟨h,e,d1,h0,i2⟩:=a7.b _ j.G.B a n a1;cases d1
   have b5:=Z (Hk (a8.b a n a1) s.b (r.b ds[a] (Yy n)) j d8);have h4:(0:Int)<=↑a:=by omega
   have h5:(↑a:Int) < ↑ds.length:=by omega
   have b2:U (hu (ds.take (a+1))=jQ ds[a] (hu (ds.take a))):=by show _=_;rw[Yt n,GA]
   go_wp2_with fail;refine b5.b.mono ?_;rintro d a4 ⟨rfl,t⟩;have a5:U (cK b ⟨b.heap.size+3,b.heap.size+1,b.heap.size+2⟩ [(b.heap.size,qt (.slice none 0 0) none none)] [] (hu (ds.take (a+1))) a4):=by
    rw[b2.b];exact kR (by intro p C;cases C) t
   go_wp2;exact⟨⟨a+1,by go_num,by omega,a5⟩,by simp[intOf];omega⟩
  .have d5:a=ds.length:=by omega
   subst d5;have i:=i.b;rw[YG]at i;have L:aU (hu ds) 33000:=zC ds r.b H.b (K.b.bh (by omega));obtain⟨c0,e7,e5,c2,c3,c7,j⟩:=i;have M:U (aU (ds.foldl ek (hu ds,[])).1 32000):=zF ds (p:=(hu ds,[])) (L.bh (by omega));have N:U (aU (ds.foldl gI ((ds.foldl ek (hu ds,[])).1,[])).1 100):=zE ds (q:=((ds.foldl ek (hu ds,[])).1,[])) I.b (M.b.bh (by omega));have b8:=Z (Ry G.b s.b a2 j (L.bh (by omega)));go_wp2_with fail;refine b8.b.mono ?_;rintro d a4 ⟨S,f3,rfl,h9,c6,f4,i8,i0,g1,g6,c8,t⟩;have b7:=Z (MT G.b s.b a2 I.b t (M.b.bh (by omega)));have b1:=Z (c8 _ c6);go_wp2_with fail;refine b7.b.mono ?_;rintro d j0 ⟨l,e6,f5,rfl,d9,c5,d7,c9,d6,f6,i9,i1,g2,g7,A,b4⟩;have e3:=MV (ds:=ds);have g9:=N.b.q;have g8:=N.b.aw;have a9:U ((wk ds).1.length<1000000):=by
    have:=(Br (ds.foldl gI ((ds.foldl ek (hu ds,[])).1,[])).1.aw (ds.foldl gI ((ds.foldl ek (hu ds,[])).1,[])).1).1;exact Nat.lt_of_le_of_lt (Nat.le_of_eq this) (by omega)
   have b6:=Z (JH b4 e3 (by omega) (by omega));have a6:=Z c9;have b0:=Z d7;go_wp2_with fail;refine b6.b.mono ?_;rintro d j1 ⟨rfl,g3,k⟩;obtain⟨E,F,rfl⟩:=k.ck;obtain⟨f7,f8,f9,g0,h1,h6⟩:=k.r;have x:=(k.G.hf _ Yb).1;obtain⟨i3,i4,i5,i6,i7⟩:=oz x;obtain⟨e8,e9,f0,_,_⟩:=oz (vS (x:=.slice E (rA (ds.foldl gI ((ds.foldl ek (hu ds,[])).1,[])).1).q.length F) (y:=.map (some S)) (z:=.map (some l)) x);have J:=Z (k.e6 (Bf (.slice E (rA (ds.foldl gI ((ds.foldl ek (hu ds,[])).1,[])).1).q.length F) (.map (some S)) (.map (some l))) (vS x));go_wp2;refine bodyPost_ret (v:=.agg #[.slice E (rA (ds.foldl gI ((ds.foldl ek (hu ds,[])).1,[])).1).q.length F,.map (some S),.map (some l)]) (by simp[results,results45,go_sem,e8,e9,f0]) rfl ?_;obtain⟨b9,u,w,c4⟩:=J.b.m2 a9.b;exact⟨_,S,l,b9,rfl,J.b.G.B,⟨u,w _ (A _ (d9 _ b1.b)),Dm _ (by simp),e6,w _ (A _ c5),λp C=>(b0.b p C).L λf2 e4=>w _ (A _ e4),a6.b,d6⟩,c4⟩
def LE(a:TypeId)(d:Value)(b:World)(c:a=143):(binOp BinOp.neq 20 (.iface a d) .nilIface).run prog b=.ok (.bool true) b:=by subst c;kernel_rfl
def LF(a:World):(binOp BinOp.neq 20 .nilIface .nilIface).run prog a=.ok (.bool false) a:=by kernel_rfl
def Nh(f g:Addr)(a:World) :
  CallsD prog 42 #[.pointer (some f),.pointer (some g)] .returning a λc h i=>c=.returned (.tuple #[])/\h=.returning/\i=a:=by
 have d:=LF;refine callsD_of_wpS func42 rfl λb j e=>?_;apply wpS_seq;apply wpS_region;simp[wpOpsS,go_sem,recoverD,e,ntmps42,Exit.thenS];apply wpS_seq;apply wpS_region;simp[wpOpsS,go_sem,Exit.thenS,d];refine wpS_cond (t:=false) (by simp[Act.eval,Array.replicate]) ?_;simp only[Ye,if_false]
 refine wpS_of_wp (wp_skip ?_);cases b
 simp_all[bodyPostS,results,results42]
def Ng(b Q c:Nat)(k l:Value)(e:List PanicEntry)(a:World)(p:a.cell? ⟨b,0,none⟩=some k)(q:a.cell? ⟨Q,0,none⟩=some l)(n:a.frozen? ⟨b,0,none⟩=false)(o:a.frozen? ⟨Q,0,none⟩=false)(r:b≠Q) :
  CallsD prog 42 #[.pointer (some ⟨b,0,none⟩),.pointer (some ⟨Q,0,none⟩)] (.panicking ({ v:=.iface 143 (.pointer (some ⟨c,0,none⟩)),recovered:=false }::e)) a λd i j=>
   d=.returned (.tuple #[])/\i=.panicking ({ v:=.iface 143 (.pointer (some ⟨c,0,none⟩)),recovered:=true }::e)/\j=(a.setCell ⟨b,0,none⟩ (.pointer none)).setCell ⟨Q,0,none⟩ (.iface 143 (.pointer (some ⟨c,0,none⟩))):=by
 have g:=LE 143;refine callsD_of_wpS func42 rfl λf m h=>?_;apply wpS_seq;apply wpS_region;simp[wpOpsS,go_sem,recoverD,h,ntmps42,Exit.thenS];apply wpS_seq;apply wpS_region;simp[wpOpsS,go_sem,Exit.thenS,g];refine wpS_cond (t:=true) (by simp[Act.eval,Array.replicate]) ?_;simp only[if_true]
 refine wpS_of_wp ?_;go_wp2_with fail;refine(Ep c a).mono ?_;rintro d s ⟨rfl,rfl⟩;go_wp2;cases f
 simp_all[bodyPostS,results,results42]
section
variable {a b:List (Nat×Obj)}{f:List dg}{c:List ao}{e:List Nat}{d:Value}
def wD(a:List (Nat×Obj))(f:Nat)(c:List ao):Prop:=∃d e v S b,(f,Obj.cells #[d,v,.map (some S),.map (some b)] 109)∈a/\jd a d c e/\su a v S b c
def EK(e:World)(c:List ao)(g:Ending)(f:World):Prop:=∃b a,g=.returned (.tuple #[.pointer (some ⟨b,0,none⟩),.nilIface])/\ai [] e f/\wD a b c/\(∀d∈a,f.heap[d.1]? = some d.2)/\e.heap.size<=b
def jd.ck(i:jd a d c e):∃g h f,d=.slice g h f:=by
 rcases i.row with⟨b,_⟩|⟨l,j,k,b,_⟩<;>exact⟨_,_,_,b⟩
def oS.ck{v:Value}(g:oS a v f):∃c d e,v=.slice c d e:=by
 obtain⟨k,_,h,_⟩:=g;rcases h with⟨b,_⟩|⟨l,i,j,b,_⟩<;>exact⟨_,_,_,b⟩
def jp:Obj->Bool
 |.cells _ a _=>(a != 53)&&(a != 55)
 |_=>true
def fv.bw(o:∀f∈a,jp f.2=true->f∈b){c:TypeId}{v:Value}{e:Nat}{g:List Value}(p:((c != 53)&&(c != 55))=true)(d:fv a c v e g):fv b c v e g:=by
 rcases d with d|⟨j,h,i,k,l,m,n⟩
 .exact Y8 d
 .exact Ya ⟨j,h,i,k,l,o _ m p,n⟩
def dw.bw(c:∀u∈a,jp u.2=true->u∈b){h:Nat}{p:ao}(i:dw a h p):dw b h p:=by
 have t:∀h s,qA a h s->qA b h s:=λh s w=>c _ w rfl;cases p with
 |const q o v=>exact t _ _ i
 |typedef p=>exact c _ i rfl
 |enum q o x=>obtain⟨d,e,f,g,l,m⟩:=i;exact⟨d,e,c _ f rfl,g,l.bw c rfl,λn j k=>t _ _ (m n j k)⟩
 |struct q o x=>obtain⟨d,f,g⟩:=i;exact⟨d,c _ f rfl,g.bw c rfl⟩
 |union q o A y=>obtain⟨d,r,f,g,l,m⟩:=i;exact⟨d,r,c _ f rfl,g,l.bw c rfl,λn j k=>(m n j k).bw c rfl⟩
 |prog q o B z=>obtain⟨d,r,f,g,l,m⟩:=i;exact⟨d,r,c _ f rfl,g,l.bw c rfl,λn j k=>(m n j k).bw c rfl⟩
def jd.bw(g:∀h∈a,jp h.2=true->h∈b)(f:jd a d c e):jd b d c e:=
 ⟨f.ak,f.row.bw g rfl,λk i j=>(f.cr k i j).bw g⟩
def iI.bw(k:∀g∈a,jp g.2=true->g∈b){e:List Value}{d:df}(h:iI a e d):iI b e d:=by
 obtain⟨l,i,c,j⟩:=h;refine⟨l,i,?_,j⟩;cases f:d.id with
 |none=>rw[f]at c;exact c
 |some m=>rw[f]at c;exact⟨c.1,c.2.bw k rfl⟩
def jl.bw(c:∀j∈a,jp j.2=true->j∈b){v:Value}{h:dg}(e:jl a v h):jl b v h:=by
 cases h with
 |num p=>obtain⟨d,f,g⟩:=e;exact⟨d,f,g.bw c⟩
 |choice p t q=>
  obtain⟨d,o,r,f,g,l,i⟩:=e;refine⟨d,o,r,f,g.bw c,c _ l rfl,?_⟩;cases q with
  |none=>exact i
  |some s=>obtain⟨k,m,n⟩:=i;exact⟨k,m,c _ n rfl⟩
 |_=>exact e
def oS.bw(e:∀c∈a,jp c.2=true->c∈b){v:Value}(o:oS a v f):oS b v f:=by
 obtain⟨i,p,d,q,r⟩:=o;refine⟨i,p,?_,λc s=>(q c s).bw e,r⟩;rcases d with d|⟨n,g,h,j,k,l,m⟩
 .exact Y8 d
 .exact Ya ⟨n,g,h,j,k,e _ l rfl,m⟩
def lO.bw(e:∀c∈a,jp c.2=true->c∈b){f:ji}(d:lO a f):lO b f:=⟨e _ d.1 rfl,λc g=>e _ (d.2 c g) rfl⟩
def su.bw(e:∀f∈a,jp f.2=true->f∈b){v:Value}{S g:Nat}(d:su a v S g c):su b v S g c:=by
 obtain⟨m,h,i,j,k⟩:=d.o;exact⟨d.q.bw e,e _ d.j rfl,d.H,m,e _ h rfl,λf l=>(i f l).bw e,j,k⟩
def Fd{F:ByteArray}(b4:en F=.ok c)(b3:∀a4∈c,kk a4){a:World}(u:Gl a):Calls prog 25 #[.string F] a (EK a c):=by
 have c9:=jq;have I:Below a.heap.size a ((a.alloc (.cells #[.pointer none] 53)).alloc (.cells #[.nilIface] 55)):=((Below.refl _ _).alloc (Y4 _) _).alloc (by simp) _;have a3:=Z (zK F (u.t I));have x:=Z b4;have M:((a.alloc (.cells #[.pointer none] 53)).alloc (.cells #[.nilIface] 55)).heap[a.heap.size]? = some (.cells #[.pointer none] 53):=(Below.heap_alloc _ _ _ (by simp)).trans (aJ rfl);have N:((a.alloc (.cells #[.pointer none] 53)).alloc (.cells #[.nilIface] 55)).heap[a.heap.size+1]? = some (.cells #[.nilIface] 55):=aJ (by simp);go_enter_defers func25,ntmps25;go_wp2_with fail;refine a3.b.mono ?_;rintro p d3 (⟨a5,d0,b8,s,C,rfl,b1,B,K⟩|⟨a6,C,_⟩);rotate_left
 .exact absurd (x.b.symm.trans C) (by simp)
 obtain rfl:c=a5:=by have:=x.b.symm.trans C;injection this
 obtain⟨g,h,i,rfl⟩:=B.ck;have a2:=Z (Fm B K (QT x.b) b3 (by have:=QR x.b;omega));have a0:=Z b1;have P:=Z B;have H:=Z K;go_wp2_with fail;refine a2.b.mono ?_;rintro p d ⟨v,S,f,t,rfl,L,J,b0⟩;obtain⟨j,k,l,rfl⟩:=J.q.ck;have A:=Z (a0.b.a L);have O:=Z J;have R:=Z b0;have a1:=Z L;have z:=(A.b.i _ (aj M) (by simp)).trans M;have w:=(A.b.i _ (aj N) (by simp)).trans N;have c1:=bL z;have c3:=bL w;have c5:∀m,d.frozen? ⟨a.heap.size,m,none⟩=false:=by intro m;simp[World.frozen?,z]
 have c7:∀m,d.frozen? ⟨a.heap.size+1,m,none⟩=false:=by intro m;simp[World.frozen?,w]
 have b5:=aj w;have a9:U (∀e r,ai [] a (((d.alloc (.cells #[.slice g h i,.slice j k l,.map (some S),.map (some f)] 109)).setCell ⟨a.heap.size,0,none⟩ e).setCell ⟨a.heap.size+1,0,none⟩ r)):=λe r=>(((br [] I).a A.b |>.d _).bs (p:=⟨a.heap.size,0,none⟩) (Y4 _) e).bs (p:=⟨a.heap.size+1,0,none⟩) (by simp) r;have D:(d.alloc (.cells #[.slice g h i,.slice j k l,.map (some S),.map (some f)] 109)).heap[a.heap.size]? = some (.cells #[.pointer none] 53):=(Below.heap_alloc _ _ _ (by omega)).trans z;have c2:(d.alloc (.cells #[.slice g h i,.slice j k l,.map (some S),.map (some f)] 109)).cell? ⟨a.heap.size,0,none⟩=some (.pointer none):=bL D;have c6:∀m,(d.alloc (.cells #[.slice g h i,.slice j k l,.map (some S),.map (some f)] 109)).frozen? ⟨a.heap.size,m,none⟩=false:=by intro m;simp[World.frozen?,D]
 have E:∀e,((d.alloc (.cells #[.slice g h i,.slice j k l,.map (some S),.map (some f)] 109)).setCell ⟨a.heap.size,0,none⟩ e).heap[a.heap.size+1]? = some (.cells #[.nilIface] 55):=λe=>(Below.heap_setCell _ _ _ _ (by simp)).trans ((Below.heap_alloc _ _ _ b5).trans w);have c4:∀e,((d.alloc (.cells #[.slice g h i,.slice j k l,.map (some S),.map (some f)] 109)).setCell ⟨a.heap.size,0,none⟩ e).cell? ⟨a.heap.size+1,0,none⟩=some .nilIface:=λe=>bL (E e);have c8:∀e m,((d.alloc (.cells #[.slice g h i,.slice j k l,.map (some S),.map (some f)] 109)).setCell ⟨a.heap.size,0,none⟩ e).frozen? ⟨a.heap.size+1,m,none⟩=false:=by intro e m;simp[World.frozen?,E e]
 have G:U (wD ((d.heap.size,.cells #[.slice g h i,.slice j k l,.map (some S),.map (some f)] 109)::((s++t).filter λb=>jp b.2)) d.heap.size c/\∀e r,∀b∈((d.heap.size,.cells #[.slice g h i,.slice j k l,.map (some S),.map (some f)] 109)::((s++t).filter λb=>jp b.2):List (Nat×Obj)),(((d.alloc (.cells #[.slice g h i,.slice j k l,.map (some S),.map (some f)] 109)).setCell ⟨a.heap.size,0,none⟩ e).setCell ⟨a.heap.size+1,0,none⟩ r).heap[b.1]? = some b.2):=by
  have a7:∀b∈s,jp b.2=true->b∈((d.heap.size,.cells #[.slice g h i,.slice j k l,.map (some S),.map (some f)] 109)::((s++t).filter λb=>jp b.2):List (Nat×Obj)):=λb o u=>Y5 _ (List.mem_filter.2 ⟨Yf _ o,u⟩);have a8:∀b∈t,jp b.2=true->b∈((d.heap.size,.cells #[.slice g h i,.slice j k l,.map (some S),.map (some f)] 109)::((s++t).filter λb=>jp b.2):List (Nat×Obj)):=λb o u=>Y5 _ (List.mem_filter.2 ⟨Ym _ o,u⟩);refine⟨⟨_,b8,_,S,f,Yb,P.b.bw a7,O.b.bw a8⟩,?_⟩;intro e r b o;rcases Yg.1 o with rfl|o
  .exact(Below.heap_setCell _ _ _ _ (by simp only;omega)).trans ((Below.heap_setCell _ _ _ _ (by simp only;omega)).trans (aJ rfl))
  .obtain⟨q,y⟩:=List.mem_filter.1 o;have n:d.heap[b.1]? = some b.2:=by
    rcases Yn.1 q with q|q
    .exact(a1.b.i _ (aj (H.b b q)) (by simp)).trans (H.b b q)
    .exact R.b b q
   have b6:b.1≠a.heap.size:=by
    intro p;rw[p,z]at n;injection n with n;rw[<-n]at y;exact absurd y (by decide)
   have b7:b.1≠a.heap.size+1:=by
    intro p;rw[p,w]at n;injection n with n;rw[<-n]at y;exact absurd y (by decide)
   exact(Below.heap_setCell _ _ _ _ b7).trans ((Below.heap_setCell _ _ _ _ b6).trans ((Below.heap_alloc _ _ _ (aj n)).trans n))
 have b9:(((d.alloc (.cells #[.slice g h i,.slice j k l,.map (some S),.map (some f)] 109)).setCell ⟨a.heap.size,0,none⟩ (.pointer (some ⟨d.heap.size,0,none⟩))).setCell ⟨a.heap.size+1,0,none⟩ .nilIface).cell? ⟨a.heap.size,0,none⟩=some (.pointer (some ⟨d.heap.size,0,none⟩)):=
  bL ((Below.heap_setCell _ _ _ _ (by simp)).trans (bu (i:=0) D _))
 have c0:(((d.alloc (.cells #[.slice g h i,.slice j k l,.map (some S),.map (some f)] 109)).setCell ⟨a.heap.size,0,none⟩ (.pointer (some ⟨d.heap.size,0,none⟩))).setCell ⟨a.heap.size+1,0,none⟩ .nilIface).cell? ⟨a.heap.size+1,0,none⟩=some .nilIface:=bL (bu (i:=0) (E _) _);have b2:a.heap.size<=d.heap.size:=by omega
 go_wp2;refine leaves_cons (f:=42) (args:=#[.pointer (some ⟨a.heap.size,0,none⟩),.pointer (some ⟨a.heap.size+1,0,none⟩)]) (by simp) (by simp[go_sem]) ?_;refine(Nh _ _ _).mono ?_;rintro p d1 d2 ⟨rfl,rfl,rfl⟩;simp only[Leaves,settle];refine⟨.tuple #[.pointer (some ⟨d.heap.size,0,none⟩),.nilIface],by simp[results,results25,go_sem,b9,c0],?_⟩;exact⟨d.heap.size,_,rfl,a9.b _ _,G.b.1,G.b.2 _ _,b2⟩
end
end Go.Proofs.YtjdhaegijjednaaGreatDoor
namespace Go.Proofs.YtjdhaegijjednaaGreatDoor
open Go.RowKit
open Go.Proofs.Tryz
section
variable {a b p g:Nat}
abbrev ap(j:List UInt8):ByteArray:=⟨j.toArray⟩
structure zt(y:Mar.am):Prop where
 dn:y.f<=4
 h2:Mar.db y.text=true->y.f=2
 n8:∀c,Mar.e1 c=true->y.text=[c]->y.f=4
def Ji:(Mar.hA.all λa=>match a with|c::_::_=>Mar.cs c|_=>false)=true:=by decide
def xD{a:List UInt8}(d:Mar.db a=true):∃b c f,a=b::c::f/\Mar.cs b=true:=by
 have e:a∈Mar.hA:=by simpa[Mar.db]using d
 have:=List.all_eq_true.1 Ji a e;split at this
 .exact⟨_,_,_,rfl,this⟩
 .cases this
def Ic{q:List UInt8}{k:Mar.am}(b:Mar.cd q a=.ok k):zt k/\k.m=a:=by
 unfold Mar.cd at b;split at b
 .cases b
  exact⟨⟨by simp,λb=>(by obtain⟨f,l,o,b,_⟩:=xD b;simp at b),λf _ b=>(by simp at b)⟩,rfl⟩
 .rename_i f j;split at b
  .rename_i g;have n:∀d,Mar.e1 d=true->Mar.af (f::j)≠[d]:=λd e c=>by
    simp only[Mar.af,List.cons.injEq]at c;rw[c.1]at g;rw[(Mar.l6 e).1]at g;cases g
   unfold Mar.c0 at b;split at b
   .cases b
   .split at b
    .cases b;exact⟨⟨by simp,λ_=>rfl,λd e c=>absurd c (n d e)⟩,rfl⟩
    .rename_i i;cases b
     exact⟨⟨by simp,λb=>absurd b i,λd e c=>absurd c (n d e)⟩,rfl⟩
  .split at b
   .rename_i m h;unfold Mar.dk at b;split at b
    .cases b
     refine⟨⟨by simp,λi=>?_,λd e c=>?_⟩,rfl⟩
     .obtain⟨d,l,o,c,p⟩:=xD i;simp only[Mar.af,List.cons.injEq]at c;rw[c.1]at m;exact absurd p m
     .simp only[Mar.af,List.cons.injEq]at c;rw[c.1]at h;have:=Mar.l6 e;rw[this.2.1,this.2.2.1]at h;cases h
    .cases b
   .split at b
    .cases b
     exact⟨⟨by simp,λb=>(by obtain⟨f,l,o,b,_⟩:=xD b;simp at b),λf _ b=>rfl⟩,rfl⟩
    .cases b
def Ie{c:List UInt8}{i:Mar.M}(b:Mar.cd c a=.error i):i.no≠0/\i.m=a:=by
 unfold Mar.cd at b;split at b
 .cases b
 .split at b
  .unfold Mar.c0 at b;split at b
   .cases b;exact⟨by simp,rfl⟩
   .split at b<;>cases b
  .split at b
   .unfold Mar.dk at b;split at b
    .cases b
    .cases b;exact⟨by simp,rfl⟩
   .split at b
    .cases b
    .cases b;exact⟨by simp,rfl⟩
def Wd(c:Except Mar.M (Mar.am×Nat))(a:ee):Prop:=match c with
 |.ok (b,g)=>(a.f=b.f/\a.text=b.text/\a.n=b.n/\a.m=b.m/\a.fin=g)/\zt b
 |.error i=>a.f=5/\a.e=i.no/\a.m=i.m/\i.no≠0
def Eg(j:List UInt8)(g:Nat):Wd (lz j g) (cQ j g):=by
 unfold lz cQ dU;cases c:Mar.cd (j.drop (g+Mar.dM (j.drop g))) (g+Mar.dM (j.drop g))with
 |ok d=>
  obtain⟨a,b⟩:=Ic c;exact⟨⟨rfl,rfl,rfl,b.symm,rfl⟩,a⟩
 |error i=>
  obtain⟨a,b⟩:=Ie c;exact⟨rfl,rfl,b.symm,a⟩
def dy(c:List bc):Ty->Int->Prop
 |.plain h,b=>b=h/\h<=4
 |.named j a,b=>0<=b/\∃f,c[b.toNat]? = some f/\f.f=14/\f.a8=j/\f.m=a
 |.opaq e i,b=>0<=b/\c[b.toNat]? = some (ej (if i then 6 else 7) e)
 |.str e _,b=>0<=b/\c[b.toNat]? = some (ej 8 e)
 |.arr g e i,b=>0<=b/\∃d,c[b.toNat]? = some (dH (if i then 9 else 10) e d)/\dy c g d
 |.opt g,b=>0<=b/\∃d,c[b.toNat]? = some (dH 11 0 d)/\dy c g d
 |.void,b=>b = -1
def mc{f:Type}{a h:List f}{e:f}(c:a[b]? = some e):(a++h)[b]? = some e:=by
 have g:b<a.length:=by
  rcases Yj b a.length with d|d
  .exact d
  .rw[YA d]at c;cases c
 rw[Ys g];exact c
def dy.bv{k:List bc}(l:List bc):∀{f:Ty} {b:Int},dy k f b->dy (k++l) f b:=by
 intro f;induction f with
 |plain e=>intro b c;exact c
 |named o a=>rintro b ⟨d,n,c,e⟩;exact⟨d,n,mc c,e⟩
 |opaq j i=>rintro b ⟨d,c⟩;exact⟨d,mc c⟩
 |str j i=>rintro b ⟨d,c⟩;exact⟨d,mc c⟩
 |arr m j i g=>rintro b ⟨d,h,c,e⟩;exact⟨d,h,mc c,g e⟩
 |opt m g=>rintro b ⟨d,h,c,e⟩;exact⟨d,h,mc c,g e⟩
 |void=>intro b c;exact c
abbrev Nl:=List (List UInt8×Option ao)
abbrev ri(a:List (List UInt8×Nat×Int)):bc:=⟨5,0,0,a.map (·.2.2),[],0,[],0⟩
def jG(h:List bc)(g:Nl)(e:Ty)(of:Int):Prop:=
 (∃b,e=.plain b/\(b=0\/b=1\/b=4)/\of=b)\/(∃d a j f c,e=.named d a/\4<of/\ay g d=some (some (.enum j f c))/\h[of.toNat]? = some (ri c))
def dG(b:List (List Int×aF)):List (Int×aF):=b.flatMap λa=>a.1.map λc=>(c,a.2)
def hw(b:List (List Int×aF)):Option aF:=(b.find? λa=>a.1.isEmpty).map (·.2)
def pj(c:List bc)(l:Nl)(f:ao)(b:Int):Prop:=match f with
 |.typedef f=>dy c f.k b/\0<=b
 |.enum _ _ j=>0<=b/\c[b.toNat]? = some (ri j)
 |.struct _ _ j=>0<=b/\∃d:List Int,c[b.toNat]? = some ⟨12,0,0,[],d,0,[],0⟩/\d.length=j.length/\∀(h:Nat) (g:Int) (i:aF),d[h]? = some g->j[h]? = some i->dy c i.k g
 |.union _ _ m e=>0<=b/\∃(of:Int) (d:List Int) (k:Int),c[b.toNat]? = some ⟨13,0,of,(dG e).map (·.1),d,k,[],0⟩/\jG c l m.k of/\
   d.length=(dG e).length/\(∀(h:Nat) (g:Int) (i:Int×aF),d[h]? = some g->(dG e)[h]? = some i->dy c i.2.k g)/\
   (match hw e with
   |none=>k = -2
   |some f=>dy c f.k k)/\∀a∈e,a.1=[]->hw e=some a.2
 |_=>False
def Kp(c d:Nl):Prop:=∀b a,ay c b=some (some a)->ay d b=some (some a)
def zy(a:Nl):Kp a a:=λ_ _ b=>b
def jG.bv{e:List bc}{c d:Nl}{f:Ty}{of:Int}(b:jG e c f of)(n:List bc)(m:Kp c d):jG (e++n) d f of:=by
 rcases b with b|⟨p,a,j,g,o,h,i,k,l⟩
 .exact Y8 b
 .exact Ya ⟨p,a,j,g,o,h,i,m _ _ k,mc l⟩
def pj.bv{t:List bc}{r s:Nl}{e:ao}{b:Int}(d:pj t r e b)(f:List bc)(y:Kp r s):pj (t++f) s e b:=by
 cases e with
 |const a c h=>exact d
 |prog a c h e=>exact d
 |typedef e=>exact⟨d.1.bv f,d.2⟩
 |enum a c h=>exact⟨d.1,mc d.2⟩
 |struct a c h=>
  obtain⟨j,p,k,l,m⟩:=d;exact⟨j,p,mc k,l,λn g o a c=>(m n g o a c).bv f⟩
 |union a c h u=>
  obtain⟨j,of,p,v,k,l,m,w,i,x⟩:=d;refine⟨j,of,p,v,mc k,l.bv f y,m,λn g o a c=>(w n g o a c).bv f,?_,x⟩;cases q:hw u with
  |none=>rw[q]at i;exact i
  |some e=>rw[q]at i;exact dy.bv f i
def oV(d:List bc)(c:Nl)(g:List UInt8×Option ao)(a:de):Prop:=a.s=g.1/\match g.2 with
 |none=>a.ag=2
 |some (.const _ _ v)=>a.ag=0/\a.n=v
 |some (.prog ..)=>a.ag=2
 |some b=>a.ag=1/\a.m=(bA b).2/\pj d c b a.n
def oV.bv{n:List bc}{k l:Nl}{g:List UInt8×Option ao}{m:de}(j:oV n k g m)(d:List bc)(i:Kp k l):oV (n++d) l g m:=by
 refine⟨j.1,?_⟩;have b:=j.2;split
 .rename_i c;rw[c]at b;exact b
 .rename_i c;rw[c]at b;exact b
 .rename_i c;rw[c]at b;exact b
 .rename_i h o p c;rw[c]at b;cases h with
  |const a e f=>exact absurd rfl (o _ _ _)
  |prog a e f h=>exact absurd rfl (p _ _ _ _)
  |typedef h=>exact⟨b.1,b.2.1,b.2.2.bv d i⟩
  |enum a e f=>exact⟨b.1,b.2.1,b.2.2.bv d i⟩
  |struct a e f=>exact⟨b.1,b.2.1,b.2.2.bv d i⟩
  |union a e f h=>exact⟨b.1,b.2.1,b.2.2.bv d i⟩
structure ik(rows:List bc)(nl:Nl)(l:List de):Prop where
 ak:l.length=nl.length
 fG:∀(b:Nat) (g:List UInt8×Option ao) (r:de),nl[b]? = some g->l[b]? = some r->oV rows nl g r
 H:(nl.map (·.1)).Nodup
def ik.j8{g:List bc}{d:Nl}{c:List de}(e:ik g d c):c.map (·.s)=d.map (·.1):=by
 apply List.ext_getElem?;intro b;rw[List.getElem?_map,List.getElem?_map];rcases Yj b d.length with a|a
 .have f:b<c.length:=by rw[e.ak];exact a
  have:=e.fG b d[b] c[b] (Yd a) (Yd f);rw[Yd a,Yd f];simp[this.1]
 .rw[YA a,YA (by rw[e.ak];exact a)];rfl
def ik.bv{h:List bc}{d:Nl}{e:List de}(c:ik h d e)(f:List bc):ik (h++f) d e:=⟨c.ak,λb g j a i=>(c.fG b g j a i).bv f (zy d),c.H⟩
def HZ(c:Nl)(a:List UInt8):(ay c a=none/\lb (c.map (·.1)) a<0)\/(∃(b:Nat) (e:Option ao),ay c a=some e/\lb (c.map (·.1)) a=(b:Int)/\c[b]? = some (a,e)):=by
 unfold lb;induction c with
 |nil=>left;simp[ay]
 |cons g c o=>
  by_cases d:g.1=a
  .right;refine⟨0,g.2,?_,?_,?_⟩
   .simp[ay,List.find?,d]
   .simp[d]
   .simp[<-d]
  .have j:(g.1==a)=false:=by simpa using d
   have k:(a==g.1)=false:=by simp;exact λl=>d l.symm
   have n:ay (g::c) a=ay c a:=by simp[ay,List.find?,j]
   rw[n];rcases o with⟨f,h⟩|⟨b,e,f,h,m⟩
   .left;refine⟨f,?_⟩;split at h
    .omega
    .rename_i i;rw[List.map_cons,List.contains_cons,k,Bool.false_or,Y2 i];omega
   .right;refine⟨b+1,e,f,?_,by simpa using m⟩;split at h
    .rename_i i;rw[List.map_cons,List.contains_cons,k,Bool.false_or,Y9 i,List.idxOf_cons,j];simp only[cond_false];omega
    .omega
structure bq where
 dc:Nat
 z:Nl
 pd:Nl
 o:List UInt8
 ps:List bi
 rf:List (List UInt8×Int)
 fz:List de
def kb(b:List bc):List (List UInt8×Int):=b.filterMap λa=>if a.f=14 then some (a.a8,a.m)else none
def Nv(b:List bc)(a:bc):kb (b++[a])=kb b++if a.f=14 then [(a.a8,a.m)]else []:=by
 unfold kb;split<;>rename_i c<;>simp[c]
def jL:List bc:=[⟨0,0,0,[],[],0,[],0⟩,⟨1,0,0,[],[],0,[],0⟩,⟨2,0,0,[],[],0,[],0⟩,⟨3,0,0,[],[],0,[],0⟩,⟨4,0,0,[],[],0,[],0⟩]
def uk(b:Nat)(a:bc):Prop:=a.of<b/\(∀c∈a.bY,c<b)/\a.eV<b/\(a.f=5->∀c∈a.a0,di (-2147483648) 2147483647 c=true)
def Fz(a:List de)(e:Nl)(c:List de):Prop:=(∃d,c=a++d)/\∀(b:Nat) (g:List UInt8×Option ao),b<a.length->e[b]? = some g->g.2≠none
def Fz.fw{c:List de}{a:Nl}{b:List de}(h:Fz c a b)(k:b.length=a.length)(g:List UInt8×Option ao)(f:de):Fz c (a++[g]) (b++[f]):=by
 obtain⟨⟨m,d⟩,i⟩:=h;refine⟨⟨m++[f],by rw[d,YN]⟩,λe n j l=>i e n j ?_⟩;have:e<a.length:=by rw[<-k,d,Yq];omega
 rwa[Ys this]at l
def Fz.aH{c:List de}{e:Nl}{j:List de}(l:Fz c e j){k:List UInt8}(m:e[b]? = some (k,none))(d:ao)(r:de):Fz c (cL e k d) (j.set b r):=by
 obtain⟨⟨q,p⟩,h⟩:=l;have n:c.length<=b:=by
  rcases Yj b c.length with f|f
  .exact absurd rfl (h b _ f m)
  .exact f
 refine⟨⟨q.set (b-c.length) r,by rw[p,List.set_append_right _ _ n]⟩,λi t o a=>?_⟩;unfold cL at a;rw[List.getElem?_map]at a;cases g:e[i]? with
 |none=>rw[g]at a;cases a
 |some s=>
  rw[g]at a;simp only[Option.map_some,Yu]at a;subst a;split
  .simp
  .exact h i s o g
structure Q(j:List UInt8)(h:bq)(m:St)(f:ac):Prop where
 e:f.s.e=0
 wd:Wd (ea j m.m m.A) f.s.x
 z:m.g=h.z++h.pd
 pd:h.pd=[]\/∃s,h.pd=[(s,none)]/\ay h.z s=none
 nm:ik f.e h.z f.g
 k:f.j=m.j
 cn:f.D+h.dc=m.D
 pg:f.o=m.o.map (·.1)
 c9:∃l,f.e=jL++l
 bw:∀(b:Nat) (r:bc),f.e[b]? = some r->uk (max b 5) r
 ou:f.b=h.o
 pr:f.u=h.ps
 dL:kb f.e=h.rf
 d9:Fz h.fz h.z f.g
def bq.bP(h:bq)(a:List (List UInt8×Nat)):bq:={ h with rf:=h.rf++a.map λg=>(g.1,(g.2:Int)) }
def kQ(h:bq):h.bP []=h:=by simp[bq.bP]
def qC(h:bq)(a b:List (List UInt8×Nat)):(h.bP a).bP b=h.bP (a++b):=by simp[bq.bP]
structure Er(i:Mar.M)(f:ac):Prop where
 e:f.s.e=i.no
 a:f.s.a=i.m
 z:i.no≠0
structure Bd(i:Mar.M)(f:ac):Prop where
 e:f.s.e=0
 k:f.s.x.f=5
 n:f.s.x.e=i.no
 a:f.s.x.m=i.m
 z:i.no≠0
variable {j : List UInt8} {m t : St} {f q u : ac} {h : bq} {i : Mar.M}
def Er.a2(b:Er i f)(d:aM f q):Er i q:=by
 obtain⟨a,c⟩:=d (by rw[b.e];have:=b.z;omega);exact⟨a.trans b.e,c.trans b.a,b.z⟩
def Er.c8(a:Er i f):f.s.e≠0:=by rw[a.e];have:=a.z;omega
def Q.bd(a:Q j h m f)(b:ea j m.m m.A=.error i):Bd i f:=by
 have:=a.wd;rw[b]at this;exact⟨a.e,this.1,this.2.1,this.2.2.1,this.2.2.2⟩
def Bd.is(a:Bd i f){l:List UInt8}(b:p≠5):ax f p l=false:=by
 unfold ax hx;rw[a.k];have:((5:Nat)==p)=false:=by simp;omega
 rw[this];simp
def Bd.f5(b:Bd i f):Er i (da f):=by
 have:(da f).s=⟨f.s.x,i.no,i.m⟩:=by
  show jK f.s=_;unfold jK lT hl;rw[Y9 b.k,Y9 b.e,b.n,b.a]
 exact⟨by rw[this],by rw[this],b.z⟩
def Bd.g9(a:Bd i f){l:List UInt8}(c:p≠5):Er i (ab j p l f):=by
 have b:ab j p l f=da f:=by
  unfold ab mA da;have:=a.is (l:=l) c;unfold ax at this;rw[this];simp
 rw[b];exact a.f5
def pM(p:Nat)(a:List UInt8):Bool:=(p==2&&Mar.db a)||(p==4&&(a.length==1&&Mar.e1 (a.getD 0 0)))
def JI{c:List UInt8}(b:pM p c=true):p≠5:=by
 intro a;subst a;simp[pM]at b
def Q.is{d:Mar.am}(o:Q j h m f)(w:ea j m.m m.A=.ok (d,g)){l:List UInt8}(k:pM p l=true):ax f p l=(d.text==l):=by
 have r:=o.wd;rw[w]at r;obtain⟨⟨s,t,-⟩,q⟩:=r;unfold ax hx;rw[o.e,s,t];by_cases c:d.text=l
 .have v:d.f=p:=by
   unfold pM at k;simp only[Bool.or_eq_true,Bool.and_eq_true,beq_iff_eq]at k;rcases k with⟨a,i⟩|⟨a,i,n⟩
   .rw[a];exact q.h2 (by rw[c];exact i)
   .rw[a];obtain⟨b,u⟩:∃b,l=[b]:=by
     match l,i with
     |[b],_=>exact⟨b,rfl⟩
    rw[u]at n c;exact q.n8 b (by simpa using n) c
  rw[v,c];simp
 .have:(d.text==l)=false:=by simpa using c
  rw[this];simp
def Q.c7{y:Mar.am}(a:Q j h m f)(d:ea j m.m m.A=.ok (y,g)):Q j h { m with m:=g,A:=none } (aI j f):=by
 have b:=a.wd;rw[d]at b;obtain⟨⟨-,-,-,-,c⟩,-⟩:=b;refine⟨a.e,?_,a.z,a.pd,a.nm,a.k,a.cn,a.pg,a.c9,a.bw,a.ou,a.pr,a.dL,a.d9⟩;show Wd (lz j g) (cQ j f.s.x.fin);rw[c];exact Eg j g
def Q.f2{c:Mar.am}(a:Q j h m f)(d:ea j m.m m.A=.ok (c,g)):Q j h { m with m:=g,A:=some c } f:=by
 have b:=a.wd;rw[d]at b;exact⟨a.e,b,a.z,a.pd,a.nm,a.k,a.cn,a.pg,a.c9,a.bw,a.ou,a.pr,a.dL,a.d9⟩
def Q.hs(e:Q j h m f)(a:List UInt8):(ay h.z a=none/\bz f a<0)\/(∃(b:Nat) (c:Option ao) (l:de),ay h.z a=some c/\bz f a=(b:Int)/\h.z[b]? = some (a,c)/\f.g[b]? = some l/\oV f.e h.z (a,c) l):=by
 have p:bz f a=lb (h.z.map (·.1)) a:=by unfold bz;rw[e.nm.j8]
 rw[p];rcases HZ h.z a with g|⟨b,c,g,n,d⟩
 .exact Y8 g
 .right;have o:b<h.z.length:=by
   rcases Yj b h.z.length with i|i
   .exact i
   .rw[YA i]at d;cases d
  have k:b<f.g.length:=by rw[e.nm.ak];exact o
  exact⟨b,c,f.g[b],g,n,d,Yd k,e.nm.fG b _ _ d (Yd k)⟩
end
section
variable {a kd g:Nat}{nl:Nl}{i q n:Type}
variable {t : List UInt8} {c j : St} {b r u o p : ac} {d f : bq} {h : Mar.M}
def S(t:List UInt8)(c:i->bq->Prop)(d:Except Mar.M (i×St))(b:ac):Prop:=match d with
 |.ok (a,j)=>∃f,Q t f j b/\c a f
 |.error h=>Er h b
def Sx(t:List UInt8)(c:i->n->bq->Prop)(d:Except Mar.M (i×n×St))(b:ac):Prop:=match d with
 |.ok (a,e,j)=>∃f,Q t f j b/\c a e f
 |.error h=>Er h b
def fc{e:i->bq->Prop}{R':q->bq->Prop}{d:PM i}{k:i->PM q}(b:S t e (d c) o)(s:aM o p)(r:∀a j f,Q t f j o->e a f->S t R' (k a j) p):S t R' (au d k c) p:=by
 unfold au;cases g:d c with
 |ok l=>rw[g]at b;obtain⟨f,m,n⟩:=b;exact r l.1 l.2 f m n
 |error h=>rw[g]at b;exact Er.a2 b s
def eM{k:i->n->bq->Prop}{R':q->n->bq->Prop}{d:PX n i}{m:i->PX n q}{g:n}(b:Sx t k (d g c) o)(w:aM o p)(v:∀a r j f,Q t f j o->k a r f->Sx t R' (m a r j) p):Sx t R' (av d m g c) p:=by
 unfold av;cases l:d g c with
 |ok e=>rw[l]at b;obtain⟨f,s,u⟩:=b;exact v e.1 e.2.1 e.2.2 f s u
 |error h=>rw[l]at b;exact Er.a2 b w
def gg{e:i->bq->Prop}{d:PM i}{j:n}(b:S t e (d c) o):Sx t (λa m f=>e a f/\m=j) (lift d j c) o:=by
 unfold lift;cases g:d c with
 |ok p=>rw[g]at b;obtain⟨f,k,l⟩:=b;exact⟨f,k,l,rfl⟩
 |error h=>rw[g]at b;exact b
def S.l{R d:i->bq->Prop}{e:Except Mar.M (i×St)}(c:S t R e b)(j:∀a f,R a f->d a f):S t d e b:=by
 unfold S at *
 split at c
 .obtain⟨f,g,h⟩:=c;exact⟨f,g,j _ _ h⟩
 .exact c
def Sx.l{R d:i->n->bq->Prop}{e:Except Mar.M (i×n×St)}(c:Sx t R e b)(k:∀a g f,R a g f->d a g f):Sx t d e b:=by
 unfold Sx at *
 split at c
 .obtain⟨f,h,j⟩:=c;exact⟨f,h,k _ _ _ j⟩
 .exact c
def S.ret{e:i->bq->Prop}{a:i}(f:Q t d c b)(g:e a d):S t e (bS a c) b:=⟨d,f,g⟩
def Sx.ret{e:i->n->bq->Prop}{a:i}{f:n}(g:Q t d c b)(h:e a f d):Sx t e (cG a f c) b:=⟨d,g,h⟩
def JW(j:Q t d c b)(a:List UInt8):(∀i,ay d.z a=some i->ay c.g a=some i)/\(ay d.z a=none->ay c.g a=none\/ay c.g a=some none):=by
 rw[j.z];unfold ay;rw[List.find?_append];constructor
 .intro i e;cases f:d.z.find? (λg=>g.1==a)with
  |none=>rw[f]at e;cases e
  |some m=>rw[f]at e;simpa using e
 .intro e;cases f:d.z.find? (λg=>g.1==a)with
  |some m=>rw[f]at e;cases e
  |none=>
   rcases j.pd with h|⟨l,h,-⟩
   .rw[h];left;rfl
   .rw[h];by_cases k:(l==a)=true
    .right;simp[k]
    .left;simp[k]
def pk(t:List UInt8)(c:St):(∃b g,ea t c.m c.A=.ok (b,g))\/∃h,ea t c.m c.A=.error h:=by
 cases d:ea t c.m c.A with
 |ok a=>exact Y8 ⟨a.1,a.2,rfl⟩
 |error h=>exact Ya ⟨h,rfl⟩
def mg{y:Mar.am}(a:ea t c.m c.A=.ok (y,g)):next (ap t) c=.ok (y,{ c with m:=g,A:=none }):=by
 unfold next;rw[a]
def ni(a:ea t c.m c.A=.error h):next (ap t) c=.error h:=by
 unfold next;rw[a]
def pZ{a:Mar.am}(b:ea t c.m c.A=.ok (a,g)):fI (ap t) c=.ok (a,{ c with m:=g,A:=some a }):=by
 unfold fI;rw[b]
def tB(a:ea t c.m c.A=.error h):fI (ap t) c=.error h:=by
 unfold fI;rw[a]
def vR(e:Q t d c b){l:List UInt8}(f:pM kd l=true):(∃h,gc (ap t) l c=.error h/\Bd h b)\/∃j,gc (ap t) l c=.ok (ax b kd l,j)/\Q t d j b:=by
 rcases pk t c with⟨i,g,a⟩|⟨h,a⟩
 .right;refine⟨_,?_,e.f2 a⟩;unfold gc;rw[pZ a,e.is a f]
 .left;exact⟨h,by unfold gc;rw[tB a],e.bd a⟩
def it(e:Q t d c b){l:List UInt8}(m:pM kd l=true):(∃h,cZ (ap t) l c=.error h/\Bd h b)\/(∃j,cZ (ap t) l c=.ok (true,j)/\ax b kd l=true/\Q t d j (aI t b))\/∃j,cZ (ap t) l c=.ok (false,j)/\ax b kd l=false/\Q t d j b:=by
 rcases pk t c with⟨k,g,a⟩|⟨h,a⟩
 .right;have i:gc (ap t) l c=.ok (ax b kd l,{ c with m:=g,A:=some k }):=by
   unfold gc;rw[pZ a,e.is a m]
  cases f:ax b kd l with
  |true=>
   left;refine⟨{ c with m:=g,A:=none },?_,rfl,e.c7 a⟩;unfold cZ au;rw[i,f];rfl
  |false=>
   right;refine⟨{ c with m:=g,A:=some k },?_,rfl,e.f2 a⟩;unfold cZ au;rw[i,f];rfl
 .left;refine⟨h,?_,e.bd a⟩;unfold cZ au gc;rw[tB a]
def mB{c:List UInt8}(a:ax b kd c=true):ab t kd c b=aI t b:=by
 unfold ab mA aI;unfold ax at a;rw[a];rfl
def Ee{c:List UInt8}(a:ax b kd c=false):ab t kd c b=da b:=by
 unfold ab mA da;unfold ax at a;rw[a];rfl
def Q.fx{a:Mar.am}(f:Q t d c b)(l:ea t c.m c.A=.ok (a,g)):Er ⟨3,a.m⟩ (da b):=by
 have h:=f.wd;rw[l]at h;obtain⟨⟨i,m,n,j,o⟩,k⟩:=h;have:(da b).s=⟨b.s.x,3,a.m⟩:=by
  show jK b.s=_;unfold jK lT hl;have:=k.dn;rw[Y2 (by rw[i];omega),Y9 f.e,j]
 exact⟨by rw[this];rfl,by rw[this],by simp⟩
def eL(e:Q t d c b){l:List UInt8}(k:pM kd l=true):S t (λ(n:Mar.am) f=>f=d/\n.m=b.s.x.m) (bU (ap t) l c) (ab t kd l b):=by
 unfold bU au;rcases pk t c with⟨o,g,a⟩|⟨h,a⟩
 .rw[mg a];have i:=e.is a k;have m:=e.wd;rw[a]at m;simp only;cases j:(o.text==l)with
  |true=>
   rw[j]at i;rw[Y9 rfl,mB i];exact⟨d,e.c7 a,rfl,m.1.2.2.2.1.symm⟩
  |false=>
   rw[j]at i;rw[Y2 (by simp),Ee i];exact e.fx a
 .rw[ni a];exact(e.bd a).g9 (JI k)
def Q.c3(f:Q t d c b){e:Nat}(g:e≠0):Er ⟨e,a⟩ (bo e a b):=by
 have:(bo e a b).s=⟨b.s.x,e,a⟩:=by
  unfold bo hl;rw[Y9 f.e]
 exact⟨by rw[this],by rw[this],g⟩
def zA(c:b.s.e=0){e:Nat}(d:e≠0):Er ⟨e,a⟩ (bo e a b):=by
 have:(bo e a b).s=⟨b.s.x,e,a⟩:=by
  unfold bo hl;rw[Y9 c]
 exact⟨by rw[this],by rw[this],d⟩
def Bd.g8(a:Bd h b)(d c:Int):Er h (aV t d c b).2:=by
 unfold aV;rw[Y2 (by simpa using a.e),Y2 (by rw[a.k];omega),Y2 (by rw[a.is (by omega)];simp),Y2 (by rw[a.is (by omega)];simp),Y2 (by rw[a.k];omega)];exact a.f5
def Pe(m:Q t d c b){l:Mar.am}(p:ea t c.m c.A=.ok (l,g))(j i h:Int) :
  S t (λ(o:Int×Nat) f=>f=d/\(eh t j i h b).1=(o.1,(o.2:Int))/\o.1=h/\di j i h=true) ((if di j i h then bS (h,l.m)else fj 8 l.m) { c with m:=g,A:=none }) (eh t j i h b).2:=by
 have n:=m.wd;rw[p]at n;unfold eh;by_cases k:di j i h=true
 .have:¬(h<j\/i<h):=by simp[di]at k;omega
  rw[Y9 k,Y2 this];exact⟨d,m.c7 p,rfl,by simp only;rw[n.1.2.2.2.1],rfl,k⟩
 .have:h<j\/i<h:=by simp[di]at k;omega
  rw[Y2 k,Y9 this,n.1.2.2.2.1];exact m.c3 (e:=8) (a:=l.m) (by omega)
def tL(m:Q t d c b)(k j:Int):S t (λ(n:Int×Nat) f=>f=d/\(aV t k j b).1=(n.1,(n.2:Int))/\di k j n.1=true) (hG (ap t) (di k j) c) (aV t k j b).2:=by
 unfold hG au;rcases pk t c with⟨e,g,p⟩|⟨h,p⟩
 .rw[mg p];have G:=m.wd;rw[p]at G;obtain⟨⟨E,J,P,K,a7⟩,M⟩:=G;have L:=m.is p (kd:=2) (l:=[84,82,85,69]) (by decide);have hF:=m.is p (kd:=2) (l:=[70,65,76,83,69]) (by decide);unfold aV;rw[Y2 (by simpa using m.e)];simp only;unfold hW;have D:∀y,S t (λ(n:Int×Nat) f=>f=d/\(eh t k j y b).1=(n.1,(n.2:Int))/\di k j n.1=true) ((if di k j y then bS (y,e.m)else fj 8 e.m) { c with m:=g,A:=none }) (eh t k j y b).2:=λy=>
   (Pe m p k j y).l λn f F=>⟨F.1,F.2.1,by rw[F.2.2.1];exact F.2.2.2⟩
  by_cases N:e.f=3
  .rw[Y9 (c:=b.s.x.f=3) (by rw[E,N]),Y9 (c:=((e.f:Int)==3)=true) (by rw[N];rfl),P];exact D e.n
  .rw[Y2 (c:=b.s.x.f=3) (by rw[E];omega),Y2 (c:=((e.f:Int)==3)=true) (by simp;omega)];by_cases H:e.f=1
   .have a5:(e.text==[84,82,85,69])=false:=by
     simp only[Yi];intro w;have:=M.h2 (by rw[w];decide);omega
    have a4:(e.text==[70,65,76,83,69])=false:=by
     simp only[Yi];intro w;have:=M.h2 (by rw[w];decide);omega
    rw[L,hF,a5,a4,Y9 (c:=b.s.x.f=1) (by rw[E,H]),Y9 (c:=((e.f:Int)==1)=true) (by rw[H];rfl)];simp only[Ye,if_false]
    unfold hv;obtain⟨a0,a1⟩:=JW m e.text;rw[J];rcases m.hs e.text with⟨q,I⟩|⟨a8,a6,i,q,I,a9,a2,a3⟩
    .rw[Y9 (Y8 I),K];rcases a1 q with q|q
     .rw[q];exact m.c3 (e:=7) (a:=e.m) (by omega)
     .rw[q];exact m.c3 (e:=7) (a:=e.m) (by omega)
    .rw[a0 _ q];have R:bM b=i:=by
      unfold bM;rw[J,I,Int.toNat_natCast,List.getD_eq_getElem?_getD,a2];rfl
     rw[R];have u:i.ag≠0->S t (λ(n:Int×Nat) f=>f=d/\(if bz b e.text<0\/i.ag≠0 then ((0,0),bo 7 ↑b.s.x.m b)else eh t k j i.n b).1=(n.1,(n.2:Int))/\di k j n.1=true) (.error ⟨7,e.m⟩) (if bz b e.text<0\/i.ag≠0 then ((0,0),bo 7 ↑b.s.x.m b)else eh t k j i.n b).2:=λG=>by
      rw[Y9 (Ya G),K];exact m.c3 (e:=7) (a:=e.m) (by omega)
     have r:=a3.2;cases a6 with
     |none=>exact u (by have:i.ag=2:=r;omega)
     |some A=>
      cases A with
      |const a z v=>
       have O:i.ag=0/\i.n=v:=r;rw[Y2 (by rw[O.1];simp;omega),O.2];exact D v
      |prog a z o A=>exact u (by have:i.ag=2:=r;omega)
      |typedef A=>exact u (by have:i.ag=1:=r.1;omega)
      |enum a z o=>exact u (by have:i.ag=1:=r.1;omega)
      |struct a z o=>exact u (by have:i.ag=1:=r.1;omega)
      |union a z o A=>exact u (by have:i.ag=1:=r.1;omega)
   .rw[Y2 (c:=((e.f:Int)==1)=true) (by simp;omega),L,hF];by_cases C:(e.text==[84,82,85,69])=true
    .rw[Y9 C,Y9 C];exact D 1
    .rw[Y2 C,Y2 C];by_cases B:(e.text==[70,65,76,83,69])=true
     .rw[Y9 B,Y9 B];exact D 0
     .rw[Y2 B,Y2 B,Y2 (by rw[E];exact H)];exact m.fx p
 .rw[ni p];exact(m.bd p).g8 k j
def Bd.co(a:Bd h b):Er h (cJ t b).2:=by
 unfold cJ ie;rw[Y2 (by simpa using a.e),Y2 (by rw[a.k];omega)];exact a.f5
def Bd.m4(c:Bd h b)(d:Int):Er h (aG t d b).2:=by
 have a:=c.co (t:=t);unfold aG;rw[Y9 a.c8];exact a
def Bd.ij(c:Bd h b)(a:List (List UInt8))(all:Bool):Er h (bV t a all b).2:=(c.co (t:=t)).a2 (by
 unfold bV;simp only;generalize (if all=true then decide (0<=bz (cJ t b).2 (cJ t b).1.text)else a.contains (cJ t b).1.text)=d
 split
 .exact kc _ _ _
 .exact ed _)
def zj{a:Mar.am}(f:Q t d c b)(l:ea t c.m c.A=.ok (a,g))(m:a.f=1):(cJ t b).1.text=a.text/\(cJ t b).1.m=a.m/\(cJ t b).2=aI t b:=by
 have h:=f.wd;rw[l]at h;obtain⟨⟨i,j,n,k,o⟩,p⟩:=h;unfold cJ ie;rw[Y2 (by simpa using f.e),Y9 (by rw[i];exact m)];exact⟨j,k,rfl⟩
def zm{h:Mar.am}(a:Q t d c b)(j:ea t c.m c.A=.ok (h,g))(k:h.f≠1):(cJ t b).2=da b:=by
 have f:=a.wd;rw[j]at f;obtain⟨⟨i,l,m,n,o⟩,p⟩:=f;unfold cJ ie;rw[Y2 (by simpa using a.e),Y2 (by rw[i];exact k)];rfl
def nc(nl:Nl)(b a:List UInt8)(d:ay nl b=none):ay (nl++[(b,none)]) a=if a=b then some none else ay nl a:=by
 unfold ay at *
 rw[List.find?_append];by_cases c:a=b
 .subst c;cases e:nl.find? (λg=>g.1==a)with
  |none=>simp
  |some h=>rw[e]at d;simp at d
 .rw[Y2 c];cases e:nl.find? (λg=>g.1==a)with
  |none=>
   have:(b==a)=false:=by simp;exact λf=>c f.symm
   simp[this]
  |some h=>simp
def Jv{a:List UInt8}(c:ay nl a=none):Kp nl (nl++[(a,none)]):=λe f b=>by
 rw[nc nl a e c];by_cases d:e=a
 .rw[d,c]at b;cases b
 .rw[Y2 d];exact b
def uR{a:List UInt8}(b:ay nl a=none):a ∉ nl.map (·.1):=by
 intro d;obtain⟨f,e,c⟩:=YE.1 d;unfold ay at b;have:nl.find? (λg=>g.1==a)=none:=by simpa using b
 rw[List.find?_eq_none]at this;exact this f e (by simp[c])
def ik.fw{n:List bc}{l:List de}(c:ik n nl l){h:List UInt8}(j:ay nl h=none)(q a:Int):ik n (nl++[(h,none)]) (l++[⟨h,2,q,a⟩]):=by
 refine⟨by simp[c.ak],?_,?_⟩
 .intro f g r b d;rcases Yj f nl.length with e|e
  .rw[Ys e]at b;rw[Ys (by rw[c.ak];exact e)]at d;have:=(c.fG f g r b d).bv [] (Jv j);simpa using this
  .rw[Yw e]at b;rw[Yw (by rw[c.ak];exact e),c.ak]at d;match i:f-nl.length with
   |0=>
    rw[i]at b d;simp at b d;subst b;subst d;exact⟨rfl,rfl⟩
   |m+1=>rw[i]at b;simp at b
 .rw[List.map_append,YJ];refine⟨c.H,by simp,?_⟩;intro s p t k;simp at k;subst k;exact λo=>uR j (o▸p)
abbrev bq.L(d:bq)(a:List UInt8):bq:={ d with z:=d.z++[(a,none)] }
def rO(m:Q t d c b)(q:d.pd=[]):S t (λn f=>f=d.L n.1/\(aG t 2 b).1.text=n.1/\(aG t 2 b).1.m=n.2/\ay d.z n.1=none/\(aG t 2 b).2.g=b.g++[⟨n.1,2,-1,n.2⟩]) (gp (ap t) c) (aG t 2 b).2:=by
 unfold gp hP name av lift;rcases pk t c with⟨j,g,l⟩|⟨h,l⟩
 .rw[mg l];simp only;by_cases r:j.f=1
  .obtain⟨w,x,A⟩:=zj m l r;rw[Y9 (by rw[r];rfl)];have i:=m.c7 l;have y:ay d.z j.text=none/\bz (aI t b) j.text<0\/(∃o,ay d.z j.text=some o)/\0<=bz (aI t b) j.text:=by
    rcases i.hs j.text with k|⟨B,o,C,k,p,-⟩
    .exact Y8 k
    .exact Ya ⟨⟨o,k⟩,by omega⟩
   have u:c.g=d.z:=by rw[m.z,q];simp
   have z:(fM mh).af j () { c with m:=g,A:=none } = match ay d.z j.text with
     |none=>.ok ((),(),{ c with m:=g,A:=none,g:=d.z++[(j.text,none)] })
     |some _=>.error ⟨6,j.m⟩:=by
    show lift (fZ j) () { c with m:=g,A:=none } = _;unfold lift fZ;rw[show ay ({ c with m:=g,A:=none }:St).g j.text=ay d.z j.text by rw[<-u]];cases ay d.z j.text with
    |none=>simp only[u]
    |some o=>rfl
   rw[z];unfold aG;rw[A,Y2 (by simpa using i.e),w,x];rcases y with⟨k,p⟩|⟨⟨o,k⟩,p⟩
   .rw[k,Y2 (by omega)];refine⟨d.L j.text,⟨i.e,i.wd,?_,Y8 q,i.nm.fw k _ _,i.k,i.cn,i.pg,i.c9,i.bw,i.ou,i.pr,i.dL,i.d9.fw i.nm.ak _ _⟩,rfl,w,x,k,rfl⟩;rw[q,YH]
   .rw[k,Y9 p];exact i.c3 (e:=6) (a:=j.m) (by omega)
  .rw[Y2 (by simp;omega)];have v:=zm m l r;have s:=m.fx l;have:(aG t 2 b).2=da b:=by
    unfold aG;rw[v,Y9 s.c8,v]
   rw[this];exact s
 .rw[ni l];exact(m.bd l).m4 2
def vV(l:Q t d c b)(e:List (List UInt8))(a s:Nat):Sx t (λr A f=>f=d/\(bV t e false b).1.text=r.1/\(bV t e false b).1.m=r.2/\A=e++[r.1]) (name (ap t) (aS a s) e c) (bV t e false b).2:=by
 unfold name av lift;rcases pk t c with⟨j,g,i⟩|⟨h,i⟩
 .rw[mg i];simp only;by_cases q:j.f=1
  .obtain⟨w,x,y⟩:=zj l i q;rw[Y9 (by rw[q];rfl)];have p:=l.c7 i;have z:(aS a s).af j e { c with m:=g,A:=none } = if e.contains j.text=true then .error ⟨6,j.m⟩else .ok ((),e++[j.text],{ c with m:=g,A:=none }):=by
    show lC (kZ j) e { c with m:=g,A:=none } = _;unfold lC kZ;split<;>rename_i k
    .split at k
     .cases k
     .rename_i o;cases k;rw[Y2 o]
    .split at k
     .rename_i o;cases k;rw[Y9 o]
     .cases k
   rw[z];unfold bV;simp only[Ye,if_false]
   rw[y,w,x];by_cases n:e.contains j.text=true
   .rw[Y9 n,Y9 ⟨p.e,n⟩];exact p.c3 (e:=6) (a:=j.m) (by omega)
   .rw[Y2 n,Y2 (λm=>n m.2)];exact⟨d,by rw[y];exact p,rfl,w,x,rfl⟩
  .rw[Y2 (by simp;omega)];have v:=zm l i q;have u:=l.fx i;have:(bV t e false b).2=da b:=by
    unfold bV;simp only;rw[v,Y2 (λm=>u.c8 m.1)];exact v
   rw[this];exact u
 .rw[ni i];exact(l.bd i).ij e false
end
section
variable {all:Bool}{o:Int}{r:bc}{j:Ty}{p u i:Type}
variable {t : List UInt8} {f q : St} {a v w n s : ac} {h b : bq} {g : Mar.M}
def Q.g3(b:Q t h f a):5<=a.e.length:=by
 obtain⟨d,c⟩:=b.c9;rw[c,Yq];simp[jL]
def dy.K{c:List bc}(m:5<=c.length)(a:dy c j o):o<c.length:=by
 have e:∀{r:bc},0<=o->c[o.toNat]? = some r->o<c.length:=λd b=>by
  have:o.toNat<c.length:=by
   rcases Yj o.toNat c.length with f|f
   .exact f
   .rw[YA f]at b;cases b
  omega
 cases j with
 |plain n=>have:=a.1;have:=a.2;omega
 |named p l=>obtain⟨d,r,b,-⟩:=a;exact e d b
 |opaq h g=>exact e a.1 a.2
 |str h g=>exact e a.1 a.2
 |arr k h g=>obtain⟨d,i,b,-⟩:=a;exact e d b
 |opt k=>obtain⟨d,i,b,-⟩:=a;exact e d b
 |void=>have:o = -1:=a;omega
def Q.l0(b:Q t h f a)(j:uk (max a.e.length 5) r):Q t { h with rf:=h.rf++if r.f=14 then [(r.a8,r.m)]else [] } f (bJ r a):=by
 refine⟨b.e,b.wd,b.z,b.pd,b.nm.bv [r],b.k,b.cn,b.pg,?_,?_,b.ou,b.pr,by show kb (a.e++[r])=_;rw[Nv,b.dL],b.d9⟩
 .obtain⟨k,i⟩:=b.c9;exact⟨k++[r],by show a.e++[r]=_;rw[i,YN]⟩
 .intro o l c;rcases Yj o a.e.length with d|d
  .rw[show (bJ r a).e=a.e++[r]from rfl,Ys d]at c;exact b.bw o l c
  .rw[show (bJ r a).e=a.e++[r]from rfl,Yw d]at c;match g:o-a.e.length with
   |0=>
    rw[g]at c;simp at c;subst c;have:o=a.e.length:=by omega
    rw[this];exact j
   |m+1=>rw[g]at c;simp at c
def Q.row(b:Q t h f a)(d:uk (max a.e.length 5) r)(c:r.f≠14):Q t h f (bJ r a):=by
 have:=b.l0 d;rw[Y2 c,YH]at this;exact this
def mn(a:ac)(r:bc):(bJ r a).e[((a.e.length:Nat):Int).toNat]? = some r:=by
 show (a.e++[r])[_]? = _;simp
def wR(a:Int)(g:Bool):List UInt8:=if g then [91]++bB a++[93]else [60]++bB a++[62]
def pF:Ty->List UInt8
 |.opaq _ _=>[111,112,97,113,117,101,32]
 |.str _ _=>[115,116,114,105,110,103,32]
 |.arr a _ _=>ib a++[32]
 |.opt a=>ib a++[32,42]
 |j=>ib j++[32]
def ut:Ty->List UInt8
 |.opaq a g=>wR a g
 |.str a _=>wR a false
 |.arr _ a g=>wR a g
 |_=>[]
def sy(j:Ty):Prop:=(∃a,j=.plain a/\a<=4)\/∃c b,j=.named c b
def sy.cW(a:sy j):pF j=ib j++[32]/\ut j=[]:=by
 rcases a with⟨c,rfl,-⟩|⟨d,b,rfl⟩<;>exact⟨rfl,rfl⟩
def sy.gw{b:List bc}(a:sy j)(r:dy b j o):0<=o:=by
 rcases a with⟨d,rfl,-⟩|⟨e,c,rfl⟩
 .have:=r.1;omega
 .exact r.1
def Ew(g:Mar.M)(a:ac):Prop:=Er g a\/Bd g a
def Sw(t:List UInt8)(c:p->bq->Prop)(r:Except Mar.M (p×St))(a:ac):Prop:=match r with
 |.ok (d,q)=>∃b,Q t b q a/\c d b
 |.error g=>Ew g a
def Sy(t:List UInt8)(c:p->i->bq->Prop)(r:Except Mar.M (p×i×St))(a:ac):Prop:=match r with
 |.ok (d,e,q)=>∃b,Q t b q a/\c d e b
 |.error g=>Ew g a
def qO{c:p->i->bq->Prop}{r:Except Mar.M (p×i×St)}(b:Sx t c r a):Sy t c r a:=by
 unfold Sx at b;split at b
 .exact b
 .exact Y8 b
def wE{h:p->i->bq->Prop}{R':u->i->bq->Prop}{c:PX i p}{l:p->PX i u}{e:i}(a:Sx t h (c e f) n)(w:aM n s)(v:∀j m q b,Q t b q n->h j m b->Sy t R' (l j m q) s):Sy t R' (av c l e f) s:=by
 unfold av;cases k:c e f with
 |ok d=>rw[k]at a;obtain⟨b,o,r⟩:=a;exact v d.1 d.2.1 d.2.2 b o r
 |error g=>rw[k]at a;exact Y8 (Er.a2 a w)
def wF{h:p->i->bq->Prop}{j:u->i->bq->Prop}{c:PX i p}{m:p->PX i u}{e:i}(a:Sy t h (c e f) n)(y:aM n s)(w:∀g,Bd g n->Er g s)(x:∀k o q b,Q t b q n->h k o b->Sx t j (m k o q) s):Sx t j (av c m e f) s:=by
 unfold av;cases l:c e f with
 |ok d=>rw[l]at a;obtain⟨b,r,v⟩:=a;exact x d.1 d.2.1 d.2.2 b r v
 |error g=>
  rw[l]at a;rcases a with a|a
  .exact Er.a2 a y
  .exact w g a
def zJ{d:p->bq->Prop}{e:u->bq->Prop}{c:PM p}{j:p->PM u}(a:Sw t d (c f) n)(v:aM n s)(o:∀g,Bd g n->Er g s)(r:∀h q b,Q t b q n->d h b->S t e (j h q) s):S t e (au c j f) s:=by
 unfold au;cases i:c f with
 |ok k=>rw[i]at a;obtain⟨b,l,m⟩:=a;exact r k.1 k.2 b l m
 |error g=>
  rw[i]at a;rcases a with a|a
  .exact Er.a2 a v
  .exact o g a
def zI{d:p->bq->Prop}{c:PM p}{h:i}(a:Sw t d (c f) n):Sy t (λj m b=>d j b/\m=h) (lift c h f) n:=by
 unfold lift;cases e:c f with
 |ok o=>rw[e]at a;obtain⟨b,k,l⟩:=a;exact⟨b,k,l,rfl⟩
 |error g=>rw[e]at a;exact a
def Bd.f(b:Bd g a):Er g (ch t a).2:=by
 unfold ch;have c:∀d,¬(a.s.x.f=2/\a.s.x.text=d):=λd f=>by rw[b.k]at f;omega
 rw[Y2 (by simpa using b.e),Y2 (by rw[b.k];omega),Y2 (c _),Y2 (c _),Y2 (c _),Y2 (c _)];exact b.f5
def Dc(q:Q t h f a):Sw t (λj b=>b=h.bP (cf j)/\sy j/\dy (ch t a).2.e j (ch t a).1.1/\(ch t a).1.2=ib j) (kf (ap t) f) (ch t a).2:=by
 unfold kf au;rcases pk t f with⟨i,N,m⟩|⟨g,m⟩
 .rw[mg m];have H:=q.wd;rw[m]at H;obtain⟨⟨D,z,P,G,R⟩,K⟩:=H;have s:=q.c7 m;unfold hE ch;rw[Y2 (by simpa using q.e)];have e:∀A,Mar.db A=true->((a.s.x.f=2/\a.s.x.text=A)↔(i.text==A)=true):=λA M=>by
   rw[D,z];simp only[beq_iff_eq];exact⟨λd=>d.2,λd=>⟨K.h2 (by rw[d];exact M),d⟩⟩
  simp only;by_cases F:i.f=1
  .rw[Y9 (c:=((i.f:Int)==1)=true) (by rw[F];rfl),Y9 (c:=a.s.x.f=1) (by rw[D];exact F)];have L:=s.l0 (r:=nr a.s.x.text a.s.x.m) ⟨by simp[nr]<;>omega,by simp[nr],by simp[nr]<;>omega,by simp[nr]⟩;refine⟨_,L,by simp[bq.bP,cf,nr,z,G],Ya ⟨_,_,rfl⟩,⟨by simp,_,mn _ _,rfl,z,by show ((a.s.x.m:Nat):Int)=_;rw[G]⟩,z⟩
  .rw[Y2 (c:=((i.f:Int)==1)=true) (by simp;omega),Y2 (c:=a.s.x.f=1) (by rw[D];exact F)];by_cases u:(i.text==[105,110,116])=true
   .rw[Y9 u,Y9 ((e _ (by decide)).2 u)];exact⟨h,s,(kQ h).symm,Y8 ⟨0,rfl,by omega⟩,⟨rfl,by omega⟩,rfl⟩
   .rw[Y2 u,Y2 (λd=>u ((e _ (by decide)).1 d))];by_cases v:(i.text==[104,121,112,101,114])=true
    .rw[Y9 v,Y9 ((e _ (by decide)).2 v)];exact⟨h,s,(kQ h).symm,Y8 ⟨2,rfl,by omega⟩,⟨rfl,by omega⟩,rfl⟩
    .rw[Y2 v,Y2 (λd=>v ((e _ (by decide)).1 d))];by_cases w:(i.text==[98,111,111,108])=true
     .rw[Y9 w,Y9 ((e _ (by decide)).2 w)];exact⟨h,s,(kQ h).symm,Y8 ⟨4,rfl,by omega⟩,⟨rfl,by omega⟩,rfl⟩
     .rw[Y2 w,Y2 (λd=>w ((e _ (by decide)).1 d))];by_cases y:(i.text==[117,110,115,105,103,110,101,100])=true
      .rw[Y9 y,Y9 ((e _ (by decide)).2 y)];unfold iD;rcases it s (kd:=2) (l:=[104,121,112,101,114]) (by decide)with⟨J,o,k⟩|⟨I,o,k,B⟩|⟨I,o,k,B⟩
       .unfold au;rw[o,Y2 (by rw[k.is (by omega)];simp),Y2 (by rw[k.is (by omega)];simp)];exact Ya k
       .unfold au;rw[o,Y9 k];exact⟨h,B,(kQ h).symm,Y8 ⟨3,rfl,by omega⟩,⟨rfl,by omega⟩,rfl⟩
       .rw[Y2 (by rw[k];simp)];have d:∀(E:Bool->PM Ty),au (cZ (ap t) [104,121,112,101,114]) E { f with m:=N,A:=none } = E false I:=λE=>by unfold au;rw[o]
        rw[d];simp only[Ye,if_false]
        unfold au;rcases it B (kd:=2) (l:=[105,110,116]) (by decide)with⟨J,p,n⟩|⟨O,p,n,C⟩|⟨O,p,n,C⟩
        .rw[p,Y2 (by rw[n.is (by omega)];simp)];exact Ya n
        .rw[p,Y9 n];exact⟨h,C,(kQ h).symm,Y8 ⟨1,rfl,by omega⟩,⟨rfl,by omega⟩,rfl⟩
        .rw[p,Y2 (by rw[n];simp)];exact⟨h,C,(kQ h).symm,Y8 ⟨1,rfl,by omega⟩,⟨rfl,by omega⟩,rfl⟩
      .rw[Y2 y,Y2 (λd=>y ((e _ (by decide)).1 d))];exact Y8 (q.fx m)
 .rw[ni m];exact Y8 (q.bd m).f
def Bd.m1(c:Bd g a):Er g (bp t false a).2:=by
 have b:=c.g9 (t:=t) (kd:=4) (l:=[60]) (by omega);unfold bp;rw[Y2 (by simp)];rw[Y2 (by rw[tb b.c8];simp)];exact(b.a2 (gY _ _ _)).a2 (aO _ _ _)
def Dd(o:Q t h f a):S t (λi b=>b=h/\i=((bp t false a).1,false)) (nh (ap t) f) (bp t false a).2:=by
 unfold nh bp;rw[Y2 (by simp)];simp only;have p:=eL o (kd:=4) (l:=[60]) (by decide);generalize ab t 4 [60] a=n at *
 have r:aM n (if ax n 4 [62]=true then ((4294967295:Int),ab t 4 [62] n)else ((aV t 0 4294967295 n).1.1,ab t 4 [62] (aV t 0 4294967295 n).2)).2:=by
  split
  .exact aO _ _ _
  .exact(gY _ _ _).a (aO _ _ _)
 refine fc p r ?_;rintro x w k s ⟨rfl,-⟩;rcases it s (kd:=4) (l:=[62]) (by decide)with⟨A,d,c⟩|⟨j,d,c,e⟩|⟨j,d,c,e⟩
 .unfold au;rw[d,Y2 (by rw[c.is (by omega)];simp)];exact(c.g8 0 4294967295).a2 (aO _ _ _)
 .unfold au;rw[d,Y9 c,mB c];exact⟨k,e,rfl,rfl⟩
 .have m:∀(g:Bool->PM (Int×Bool)),au (cZ (ap t) [62]) g w=g false j:=λg=>by unfold au;rw[d]
  rw[m,Y2 (by rw[c];simp)];refine fc (tL e 0 4294967295) (aO _ _ _) ?_;rintro i B y u ⟨rfl,q,-⟩;refine fc (eL u (kd:=4) (l:=[62]) (by decide)) (ed _) ?_;rintro x C z v ⟨rfl,-⟩;exact S.ret v ⟨rfl,by rw[q]⟩
def CZ(n:Q t h f a)(c:ax a 4 [91]=true):S t (λj b=>b=h/\j=((bp t true a).1,true)) (jM (ap t) f) (bp t true a).2:=by
 unfold jM bp;rw[Y9 rfl];simp only;rw[mB c];rcases it n (kd:=4) (l:=[91]) (by decide)with⟨u,e,d⟩|⟨k,e,d,i⟩|⟨k,e,d,i⟩
 .rw[d.is (by omega)]at c;cases c
 .have m:∀(g:Bool->PM (Int×Bool)),au (cZ (ap t) [91]) g f=g true k:=λg=>by unfold au;rw[e]
  rw[m];refine fc (tL i 1 1000) (aO _ _ _) ?_;rintro j v r p ⟨rfl,o,-⟩;refine fc (eL p (kd:=4) (l:=[93]) (by decide)) (ed _) ?_;rintro x w s q ⟨rfl,-⟩;exact S.ret q ⟨rfl,by rw[o]⟩
 .rw[d]at c;cases c
def CY(m:Q t h f a)(i:ax a 4 [91]=false):S t (λn b=>b=h/\n=((bp t false a).1,false)) (jM (ap t) f) (bp t false a).2:=by
 unfold jM;rcases it m (kd:=4) (l:=[91]) (by decide)with⟨o,c,d⟩|⟨j,c,d,g⟩|⟨j,c,d,g⟩
 .unfold au;rw[c];exact d.m1
 .rw[d]at i;cases i
 .have k:∀(e:Bool->PM (Int×Bool)),au (cZ (ap t) [91]) e f=e false j:=λe=>by unfold au;rw[c]
  rw[k];exact Dd g
structure sh(d:aF)(r:jb)(a:ac):Prop where
 x:r.x.text=d.t
 m:r.x.m=d.m
 cW:r.cW=pF d.k
 dR:r.dR=ut d.k
 hF:dy a.e d.k r.r
 gw:0<=r.r
def Du(b:List (List UInt8))(all d:Bool)(a:ac):aM (bV t b all (aI t a)).2 (gq t b all d a).2:=by
 unfold gq;generalize bV t b all (aI t a)=r;by_cases c:ax r.2 4 [91]=true/\d=true
 .rw[Y9 c];exact(kK _ _).a (fq _ _)
 .rw[Y2 c];exact(kK _ _).a (fq _ _)
def Do(g:List (List UInt8))(all:Bool)(a:ac):aM (ch t a).2 (gn t g all a).2:=by
 unfold gn;generalize ch t a=c;by_cases d:ax c.2 4 [42]=true
 .rw[Y9 d];exact(gX _).a ((lF _ _ _).a (fq _ _))
 .rw[Y2 d];generalize h:bV t g all c.2=r;have b:aM c.2 r.2:=by rw[<-h];exact lF _ _ _
  by_cases e:ax r.2 4 [91]=true
  .rw[Y9 e];exact b.a ((kK _ _).a (fq _ _))
  .rw[Y2 e];by_cases f:ax r.2 4 [60]=true
   .rw[Y9 f];exact b.a ((kK _ _).a (fq _ _))
   .rw[Y2 f];exact b
def Bd.j4(c:Bd g a)(b:List (List UInt8))(all:Bool):Er g (gn t b all a).2:=(c.f (t:=t)).a2 (Do b all a)
def HE(d:List (List UInt8))(all:Bool)(c:Bd g (ch t a).2):Er g (gn t d all a).2:=by
 unfold gn;rw[Y2 (by rw[c.is (by omega)];simp)];have b:=c.ij (t:=t) d all;rw[Y2 (by rw[tb b.c8];simp),Y2 (by rw[tb b.c8];simp)];exact b
def Bd.i2(b:Bd g a)(c:List (List UInt8))(all:Bool):Er g (bQ t c all a).2:=by
 unfold bQ;rw[Y2 (by rw[b.is (by omega),b.is (by omega)];simp)];exact b.j4 c all
abbrev tY(i:Type):=List (List UInt8×Nat)->(List UInt8×Nat)->i->bq->Prop
abbrev Ev(i:Type):=(List UInt8×Nat)->i->bq->Prop
def qy(t:List UInt8)(e:cM i)(j:i)(d:List (List UInt8))(all:Bool)(h:bq)(g:Ev i):Prop:=
 ∀f a,Q t h f a->Sx t (λc k b=>g c k b/\(bV t d all a).1.text=c.1/\(bV t d all a).1.m=c.2) (name (ap t) e j f) (bV t d all a).2
def OY{j:cM i}{p:i}{c:List (List UInt8)}{k:tY i}(v:qy t j p c all h (k []))(z:Q t h f (aI t a))(n:a.s.x.text=[111,112,97,113,117,101])(y:ax a 2 [115,116,114,105,110,103]=false) :
  Sx t (λd B b=>k (cf d.k) (d.t,d.m) B b/\sh d (gq t c all true a).1 (gq t c all true a).2) (od (ap t) j true p f) (gq t c all true a).2:=by
 refine eM (v _ _ z) (Du _ _ _ _) ?_;rintro F G H E o ⟨l,q,s⟩;unfold gq;simp only[and_true];generalize bV t c all (aI t a)=r at *
 have m:aM r.2 (if ax r.2 4 [91]=true then ((⟨(bp t true r.2).2.e.length,a.s.x.text++[32],[91]++bB (bp t true r.2).1++[93],r.1⟩:jb),bJ (ej 6 (bp t true r.2).1) (bp t true r.2).2)else ((⟨(bp t false r.2).2.e.length,a.s.x.text++[32],[60]++bB (bp t false r.2).1++[62],r.1⟩:jb),bJ (ej (if ax a 2 [115,116,114,105,110,103]=true then 8 else 7) (bp t false r.2).1) (bp t false r.2).2)).2:=by
  split
  .exact(kK _ _).a (fq _ _)
  .exact(kK _ _).a (fq _ _)
 by_cases e:ax r.2 4 [91]=true
 .simp only[Y9 e]at m ⊢;refine eM (gg (CZ o e)) (fq _ _) ?_;rintro A C D u g ⟨⟨rfl,rfl⟩,rfl⟩;refine⟨_,g.row ⟨by simp[ej]<;>omega,by simp[ej],by simp[ej]<;>omega,by simp[ej]<;>split<;>simp⟩ (by simp only[ej,ne_eq];first|decide|(split<;>decide)),l,?_⟩;exact⟨q,s,by rw[n];rfl,rfl,⟨by simp,mn _ _⟩,by simp⟩
 .have w:ax r.2 4 [91]=false:=by simpa using e
  simp only[Y2 e]at m ⊢;refine eM (gg (CY o w)) (fq _ _) ?_;rintro A C D u g ⟨⟨rfl,rfl⟩,rfl⟩;refine⟨_,g.row ⟨by simp[ej]<;>omega,by simp[ej],by simp[ej]<;>omega,by simp[ej]<;>split<;>simp⟩ (by simp only[ej,ne_eq];first|decide|(split<;>decide)),l,?_⟩;rw[Y2 (by rw[y];simp)];exact⟨q,s,by rw[n];rfl,rfl,⟨by simp,mn _ _⟩,by simp⟩
def OZ{e:cM i}{j:i}{d:List (List UInt8)}{g:tY i}(l:qy t e j d all h (g []))(n:Q t h f (aI t a))(o:a.s.x.text=[115,116,114,105,110,103])(m:ax a 2 [115,116,114,105,110,103]=true) :
  Sx t (λc r b=>g (cf c.k) (c.t,c.m) r b/\sh c (gq t d all false a).1 (gq t d all false a).2) (mU (ap t) e true j f) (gq t d all false a).2:=by
 refine eM (l _ _ n) (Du _ _ _ _) ?_;rintro y A C v p ⟨k,s,u⟩;unfold gq;simp only[Ye,and_false,if_false]
 refine eM (gg (Dd p)) (fq _ _) ?_;rintro z B D w q ⟨⟨rfl,rfl⟩,rfl⟩;refine⟨_,q.row ⟨by simp[ej]<;>omega,by simp[ej],by simp[ej]<;>omega,by simp[ej]<;>split<;>simp⟩ (by simp only[ej,ne_eq];first|decide|(split<;>decide)),k,?_⟩;rw[Y9 m];exact⟨s,u,by rw[o];rfl,rfl,⟨by simp,mn _ _⟩,by simp⟩
def dy.p(b:dy a.e j o)(d:cy a v):dy v.e j o:=by
 obtain⟨e,c,-⟩:=d.e;rw[c];exact b.bv e
def OW{J:cM i}{a2:i}{e:List (List UInt8)}{K:tY i}(M:∀a1,qy t J a2 e all (h.bP a1) (K a1))(a5:Q t h f a) :
  Sy t (λz b0 b=>K (cf z.k) (z.t,z.m) b0 b/\sh z (gn t e all a).1 (gn t e all a).2) (mU (ap t) J false a2 f) (gn t e all a).2:=by
 unfold mU;rw[Y2 (by simp)];have j:=Dc a5;unfold av lift;cases P:kf (ap t) f with
 |error g=>
  rw[P]at j;rcases j with j|j
  .exact Y8 (j.a2 (Do e all a))
  .exact Y8 (HE e all j)
 |ok R=>
  rw[P]at j;obtain⟨b6,a0,rfl,C,I,v⟩:=j;simp only at a0 C I v ⊢;unfold py;unfold gn;generalize ch t a=d at *
  unfold av lift;rcases it a0 (kd:=4) (l:=[42]) (by decide)with⟨L,p,m⟩|⟨b1,p,m,E⟩|⟨b1,p,m,E⟩
  .rw[p,Y2 (c:=ax d.2 4 [42]=true) (by rw[m.is (by omega)];simp)];have H:=m.ij (t:=t) e all;rw[Y2 (c:=ax (bV t e all d.2).2 4 [91]=true) (by rw[tb H.c8];simp),Y2 (c:=ax (bV t e all d.2).2 4 [60]=true) (by rw[tb H.c8];simp)];exact Y8 H
  .rw[p,Y9 m];refine qO (eM (M _ _ _ E) (fq _ _) ?_);rintro a9 b2 b4 a3 D ⟨s,x,y⟩;have A:=((eB (t:=t) d.2).a (gW (t:=t) e all _)).p;have k:=I.p A;have O:=k.K D.g3;refine Sx.ret (D.row ⟨by simp[dH]<;>omega,by simp[dH],by simp[dH]<;>omega,by simp[dH]⟩ (by simp[dH])) ⟨s,x,y,?_,rfl,⟨by simp,_,mn _ _,k.bv _⟩,by simp⟩;simp only[pF];rw[v]
  .rw[p,Y2 (c:=ax d.2 4 [42]=true) (by rw[m];simp)];generalize a7:bV t e all d.2=r;have a8:aM r.2 (if ax r.2 4 [91]=true then ((⟨(bp t true r.2).2.e.length,d.1.2++[32],[91]++bB (bp t true r.2).1++[93],r.1⟩:jb),bJ (dH 9 (bp t true r.2).1 d.1.1) (bp t true r.2).2)
     else if ax r.2 4 [60]=true then ((⟨(bp t false r.2).2.e.length,d.1.2++[32],[60]++bB (bp t false r.2).1++[62],r.1⟩:jb),bJ (dH 10 (bp t false r.2).1 d.1.1) (bp t false r.2).2)
     else ((⟨d.1.1,d.1.2++[32],[],r.1⟩:jb),r.2)).2:=by
    split
    .exact(kK _ _).a (fq _ _)
    .split
     .exact(kK _ _).a (fq _ _)
     .exact ed _
   have N:=M _ _ _ E;have A:=(gW (t:=t) e all d.2).p;have k:=I.p A;rw[a7]at N A k;refine wE N a8 ?_;rintro a9 b2 b4 a3 D ⟨s,x,y⟩;unfold oe av lift;rcases vR D (kd:=4) (l:=[91]) (by decide)with⟨L,F,n⟩|⟨b7,F,n⟩
   .rw[F,Y2 (c:=ax r.2 4 [91]=true) (by rw[n.is (by omega)];simp),Y2 (c:=ax r.2 4 [60]=true) (by rw[n.is (by omega)];simp)];exact Ya n
   .rw[F];simp only;unfold pz;by_cases o:ax r.2 4 [91]=true
    .rw[Y9 o,Y9 o];refine qO (eM (gg (CZ n o)) (fq _ _) ?_);rintro R b3 b5 a4 w ⟨⟨rfl,rfl⟩,rfl⟩;have u:=k.p (mq (t:=t) true r.2).p;have O:=u.K w.g3;exact Sx.ret (w.row ⟨by simp[dH]<;>omega,by simp[dH],by simp[dH]<;>omega,by simp[dH]⟩ (by simp[dH])) ⟨s,x,y,by simp only[pF];rw[v],rfl,⟨by simp,_,mn _ _,u.bv _⟩,by simp⟩
    .rw[Y2 o,Y2 o];have a6:ax r.2 4 [91]=false:=by simpa using o
     unfold av lift;rcases vR n (kd:=4) (l:=[60]) (by decide)with⟨L,G,q⟩|⟨b8,G,q⟩
     .rw[G,Y2 (c:=ax r.2 4 [60]=true) (by rw[q.is (by omega)];simp)];exact Ya q
     .rw[G];simp only;unfold pA;by_cases B:ax r.2 4 [60]=true
      .rw[Y9 B,Y9 B];refine qO (eM (gg (CY q a6)) (fq _ _) ?_);rintro R b3 b5 a4 w ⟨⟨rfl,rfl⟩,rfl⟩;have u:=k.p (mq (t:=t) false r.2).p;have O:=u.K w.g3;exact Sx.ret (w.row ⟨by simp[dH]<;>omega,by simp[dH],by simp[dH]<;>omega,by simp[dH]⟩ (by simp[dH])) ⟨s,x,y,by simp only[pF];rw[v],rfl,⟨by simp,_,mn _ _,u.bv _⟩,by simp⟩
      .rw[Y2 B,Y2 B];exact⟨_,q,s,x,y,by rw[C.cW.1,v],C.cW.2.symm,k,C.gw k⟩
def yH{q:cM i}{s:i}{e:List (List UInt8)}{G:tY i}(p:∀r,qy t q s e all (h.bP r) (G r))(v:Q t h f a) :
  Sy t (λk y b=>G (cf k.k) (k.t,k.m) y b/\sh k (bQ t e all a).1 (bQ t e all a).2) (dY (ap t) q s f) (bQ t e all a).2:=by
 unfold dY bQ av lift;rcases it v (kd:=2) (l:=[111,112,97,113,117,101]) (by decide)with⟨u,g,c⟩|⟨z,g,c,n⟩|⟨z,g,c,n⟩
 .rw[g,Y2 (by rw[c.is (by omega),c.is (by omega)];simp)];exact Y8 (c.j4 e all)
 .rw[g,Y9 (Y8 c)];have m:a.s.x.text=[111,112,97,113,117,101]:=by unfold ax hx at c;simp at c;exact c.2.2
  have w:ax a 2 [115,116,114,105,110,103]=false:=by unfold ax hx;rw[m];simp
  rw[c];exact qO (OY (by have:=p [];rw[kQ]at this;exact this) n m w)
 .rw[g];unfold od;simp only[Ye,if_false]
  unfold av lift;rcases it n (kd:=2) (l:=[115,116,114,105,110,103]) (by decide)with⟨u,j,d⟩|⟨A,j,d,o⟩|⟨A,j,d,o⟩
  .rw[j,Y2 (by rw[d.is (by omega),d.is (by omega)];simp)];exact Y8 (d.j4 e all)
  .rw[j,Y9 (Ya d)];have m:a.s.x.text=[115,116,114,105,110,103]:=by unfold ax hx at d;simp at d;exact d.2.2
   rw[c];exact qO (OZ (by have:=p [];rw[kQ]at this;exact this) o m d)
  .rw[j,Y2 (by rw[c,d];simp)];exact OW p o
def Ac(d:List (List UInt8))(e g:Nat):qy t (aS e g) d d false h (λj i b=>b=h/\i=d++[j.1]):=λf a k=>(vV k d e g).l λj i b c=>⟨⟨c.1,c.2.2.2⟩,c.2.1,c.2.2.1⟩
end
section
variable {a i h:Nat}{d:ao}{p:PM ao}{nl:Nl}{j:de}{u:Type}
variable {t : List UInt8} {st r : St} {g w x y z : ac} {f m : bq} {q : Mar.M}
def Bu(nl:Nl)(b a:List UInt8)(d:ao)(m:(ay nl b).isSome):ay (cL nl b d) a=if a=b then some (some d)else ay nl a:=by
 unfold ay cL at *
 induction nl with
 |nil=>simp at m
 |cons h nl f=>
  by_cases j:h.1=b
  .have g:(h.1==b)=true:=by simpa using j
   by_cases e:a=b
   .rw[Y9 e,e];simp only[List.map_cons,List.find?,g,if_true]
    rfl
   .rw[Y2 e];have o:(h.1==a)=false:=by simp;rw[j];exact λn=>e n.symm
    simp only[List.map_cons,List.find?,g,if_true,o]
    clear f m;induction nl with
    |nil=>rfl
    |cons i nl f=>
     by_cases c:i.1=a
     .have l:(i.1==b)=false:=by simp;rw[c];exact e
      have k:(i.1==a)=true:=by simpa using c
      simp only[List.map_cons,List.find?,l,k,Ye,if_false]
     .have k:(i.1==a)=false:=by simpa using c
      by_cases l:(i.1==b)=true
      .simp only[List.map_cons,List.find?,l,if_true,k];exact f
      .simp only[List.map_cons,List.find?,l,Ye,if_false,k];exact f
  .have g:(h.1==b)=false:=by simpa using j
   have f:=f (by simpa[List.find?,g]using m);by_cases c:(h.1==a)=true
   .have e:a≠b:=by simp at c;rw[<-c];exact j
    rw[Y2 e];simp only[List.map_cons,List.find?,g,c,Ye,if_false]
   .simp only[List.map_cons,List.find?,g,Ye,if_false,c]
    exact f
def Bm{a:List UInt8}(d:ao)(c:ay nl a=some none):Kp nl (cL nl a d):=λf g b=>by
 rw[Bu nl a f d (by rw[c];rfl)];by_cases e:f=a
 .rw[e,c]at b;cases b
 .rw[Y2 e];exact b
def ik.aH{q:List bc}{u:List de}(k:ik q nl u){a:List UInt8}(z:ay nl a=some none)(l:nl[i]? = some (a,none))(y:oV q (cL nl a d) (a,some d) j):ik q (cL nl a d) (u.set i j):=by
 have A:=Bm d z;have o:i<nl.length:=by
  rcases Yj i nl.length with e|e
  .exact e
  .rw[YA e]at l;cases l
 refine⟨by simp[cL,k.ak],?_,by rw[CQ];exact k.H⟩;intro c h B b g;unfold cL at b;rw[List.getElem?_map]at b;rw[YP]at g;by_cases n:i=c
 .subst n;rw[l]at b;rw[Y9 rfl,Y9 (by rw[k.ak];exact o)]at g;simp at b g;subst b;subst g;exact y
 .rw[Y2 n]at g;cases f:nl[c]? with
  |none=>rw[f]at b;cases b
  |some p=>
   rw[f]at b;have x:p.1≠a:=by
    intro w;have t:c<nl.length:=by
     rcases Yj c nl.length with e|e
     .exact e
     .rw[YA e]at f;cases f
    have v:=List.pairwise_iff_getElem.1 k.H;have r:(nl.map (·.1))[i]'(by simpa using o)=a:=by
     have:(nl.map (·.1))[i]? = some a:=by rw[List.getElem?_map,l];rfl
     simpa[Yd o]using this
    have s:(nl.map (·.1))[c]'(by simpa using t)=a:=by
     have:(nl.map (·.1))[c]? = some a:=by rw[List.getElem?_map,f];simp[w]
     simpa[Yd t]using this
    rcases Nat.lt_or_gt_of_ne n with m|m
    .exact v i c _ _ m (r.trans s.symm)
    .exact v c i _ _ m (s.trans r.symm)
   have:(p.1==a)=false:=by simpa using x
   simp only[Option.map_some,this,Ye,if_false,Yu]at b
   subst b;simpa using (k.fG c p B f g).bv [] A
abbrev bq.aH(f:bq)(a:List UInt8)(d:ao):bq:={ f with z:=cL f.z a d }
def xt(d:Q t f st g){a:List UInt8}(b:ay f.z a=some none):∃(i:Nat) (j:de),bz g a=(i:Int)/\f.z[i]? = some (a,none)/\g.g[i]? = some j/\j.s=a:=by
 rcases d.hs a with⟨c,-⟩|⟨i,m,j,c,e,h,k,l⟩
 .rw[c]at b;cases b
 .rw[c]at b;cases b
  exact⟨i,j,e,h,k,l.1⟩
def Q.k5(b:Q t f st g){s:List UInt8}(a:Nat)(v:Int)(h:ay f.z s=some none)(c:f.pd=[])(o:f.dc=1):Q t { f.aH s (.const s a v)with dc:=0 } { st with g:=cL st.g s (.const s a v) } (dA s v g):=by
 obtain⟨i,j,d,e,l,m⟩:=xt b h;have n:st.g=f.z:=by rw[b.z,c];simp
 have k:dA s v g = { gs g i 0 v with D:=g.D+1 }:=by
  unfold dA;rw[Y9 (by rw[d];omega),d];rfl
 rw[k];refine⟨b.e,b.wd,?_,Y8 c,?_,b.k,?_,b.pg,b.c9,b.bw,b.ou,b.pr,b.dL,b.d9.aH e _ _⟩
 .show cL st.g s _=cL f.z s _++f.pd;rw[n,c,YH]
 .refine b.nm.aH h e ⟨?_,rfl,rfl⟩;simp[l,m]
 .have:=b.cn;show g.D+1+((0:Nat):Int)=st.D;omega
def At(c:List UInt8)(a:Nat)(b:List de):Prop:=∃j∈b,j.s=c/\j.m=a
def At.bv{c:List UInt8}{b:List de}(d:At c a b)(p:List de):At c a (b++p):=by
 obtain⟨j,e,f⟩:=d;exact⟨j,Yf _ e,f⟩
def En{h:List UInt8}{b:List de}(l:At h a b)(i:Nat)(k n:Int):At h a (b.set i { b.getD i gT with ag:=k,n:=n }):=by
 obtain⟨j,m,e,f⟩:=l;obtain⟨d,c,rfl⟩:=List.mem_iff_getElem.1 m;by_cases g:i=d
 .subst g;refine⟨{ b[i]with ag:=k,n:=n },?_,e,f⟩;rw[List.mem_iff_getElem];exact⟨i,by simpa using c,by simp[c]⟩
 .refine⟨b[d],?_,e,f⟩;rw[List.mem_iff_getElem];exact⟨d,by simpa using c,by simp[g]⟩
def At.nT{o:List UInt8}(p:At o a g.g)(n:Q t f st g)(c:g.g[i]? = some j)(m:j.s=o):j.m=a:=by
 obtain⟨u,q,k,r⟩:=p;obtain⟨d,l,rfl⟩:=List.mem_iff_getElem.1 q;have h:i<g.g.length:=by
  rcases Yj i g.g.length with b|b
  .exact b
  .rw[YA b]at c;cases c
 rw[Yd h]at c;cases c
 have e:(g.g.map (·.s)).Nodup:=by rw[n.nm.j8];exact n.nm.H
 have e:=List.pairwise_iff_getElem.1 e;have s:i=d:=by
  rcases Nat.lt_trichotomy i d with b|b|b
  .exact(e i d (by simpa using h) (by simpa using l) b (by simp[m,k])).elim
  .exact b
  .exact(e d i (by simpa using l) (by simpa using h) b (by simp[m,k])).elim
 subst s;exact r
def Q.ks(b:Q t f st g){c:List UInt8}{n:Int}(u:ay f.z c=some none)(o:f.pd=[])(e:At c (bA d).2 g.g)(s:iR d=true)(l:pj g.e (cL f.z c d) d n):Q t (f.aH c d) { st with g:=cL st.g c d } (cX c n g):=by
 obtain⟨i,j,p,q,m,r⟩:=xt b u;have w:st.g=f.z:=by rw[b.z,o];simp
 have e:=e.nT b m r;have v:cX c n g=gs g i 1 n:=by
  unfold cX;rw[Y9 (by rw[p];omega),p];rfl
 rw[v];refine⟨b.e,b.wd,?_,Y8 o,?_,b.k,b.cn,b.pg,b.c9,b.bw,b.ou,b.pr,b.dL,b.d9.aH q _ _⟩
 .show cL st.g c _=cL f.z c _++f.pd;rw[w,o,YH]
 .refine b.nm.aH u q ⟨by simp[m,r],?_⟩;have x:{ g.g.getD i gT with ag:=1,n:=n } = { j with ag:=1,n:=n }:=by simp[m]
  rw[x];cases d with
  |const a h k=>simp[iR]at s
  |prog a h k d=>simp[iR]at s
  |typedef d=>exact⟨rfl,e,l⟩
  |enum a h k=>exact⟨rfl,e,l⟩
  |struct a h k=>exact⟨rfl,e,l⟩
  |union a h k d=>exact⟨rfl,e,l⟩
def Q.bn(a:Q t f st g)(o:List UInt8):Q t { f with o:=f.o++o } st (dV o g):=⟨a.e,a.wd,a.z,a.pd,a.nm,a.k,a.cn,a.pg,a.c9,a.bw,by show g.b++o=_;rw[a.ou],a.pr,a.dL,a.d9⟩
def Bd.c4(a:Bd q g)(d p:Int):Er q (ar d p g):=by
 have b:=a.f5;unfold ar;rw[Y9 ⟨a.e,a.k⟩];unfold iQ;rw[Y2 (λc=>b.c8 c.1)];exact b
def Q.c4{i:Mar.am}(e:Q t f st g)(j:ea t st.m st.A=.ok (i,h))(d p:Int):ar d p g=if p<=d then bo 5 i.m g else g:=by
 have b:=e.wd;rw[j]at b;have:=b.2.dn;unfold ar;rw[Y2 (λc=>by have:=c.2;rw[b.1.1]at this;omega)];unfold iQ;by_cases a:p<=d
 .rw[Y9 a,Y9 ⟨e.e,a⟩,b.1.2.2.2.1]
 .rw[Y2 a,Y2 (λc=>a c.2)]
def qj{a:List UInt8}(c:ay nl a=none):cL (nl++[(a,none)]) a d=nl++[(a,some d)]:=by
 unfold cL;rw[List.map_append];congr 1
 .have e:=uR c;conv=>rhs;rw[<-List.map_id nl]
  apply List.map_congr_left;intro h f;have:(h.1==a)=false:=by
   simp only[Yi];exact λb=>e (YE.2 ⟨h,f,b⟩)
  simp[this]
 .simp
def hS(p:PM ao):PM ao:=au p λd=>au (CP d) λ_=>bS d
def oj(a:p st=.ok (d,r)):hS p st=.ok (d,{ r with g:=cL r.g (bA d).1 d }):=by
 unfold hS au;rw[a];rfl
def hT(a:p st=.error q):hS p st=.error q:=by
 unfold hS au;rw[a]
def LG(c:¬40<=st.D)(a:Nat)(b:Unit->PM u):au (ix a) b st=b () { st with D:=st.D+1 }:=by
 unfold au ix;rw[Y2 c]
def vl(c:¬24<=st.j)(a:Nat)(b:Unit->PM u):au (iy a) b st=b () { st with j:=st.j+1 }:=by
 unfold au iy;rw[Y2 c]
def vk(b:24<=st.j)(a:Nat)(c:Unit->PM u):au (iy a) c st=.error ⟨5,a⟩:=by
 unfold au iy;rw[Y9 b]
structure oU(f m:bq)(d:ao)(o:List UInt8)(ps:List bi):Prop where
 pd:m.pd=[]
 dc:m.dc=0
 fz:m.fz=f.fz
 o:m.o=f.o++o
 ps:m.ps=f.ps++ps
 rf:m.rf=f.rf++(gi d).map λh=>(h.1,(h.2:Int))
 z:∃cs:Nl,m.z=f.z++((bA d).1,some d)::cs/\∀c∈cs,∃a b v,c.2=some (.const a b v)
def xe(a:List UInt8)(v:Int):List UInt8:=[99,111,110,115,116,32]++a++[32,61,32]++bB v++[59,10]
def OT{j:Mar.am}(k:Q t f st g)(r:f.pd=[])(D:f.dc=0)(x:ea t st.m st.A=.ok (j,h))(E:ax g 2 [99,111,110,115,116]=true) :
  S t (λd m=>∃c a v,d=.const c a v/\oU f m d (xe c v) []) (hS (iv (ap t) j.m) { st with m:=h,A:=none }) (fL t g):=by
 have b:=k.c7 x;have o:=k.c4 x g.D 40;have a0:=k.cn;by_cases w:40<=st.D
 .rw[Y9 (by omega)]at o;have i:iv (ap t) j.m { st with m:=h,A:=none } = .error ⟨5,j.m⟩:=by
   unfold iv au ix;rw[Y9 w]
  rw[hT i];have:=PW (t:=t) g;rw[o]at this;exact(k.c3 (e:=5) (a:=j.m) (by omega)).a2 this
 .rw[Y2 (by omega)]at o;have G:Q t { f with dc:=1 } { st with m:=h,A:=none,D:=st.D+1 } (ab t 2 [99,111,110,115,116] (ar g.D 40 g)):=by
   rw[o,mB E];exact⟨b.e,b.wd,b.z,b.pd,b.nm,b.k,by have:=b.cn;rw[D]at this;show _+((1:Nat):Int)=((st.D+1:Nat):Int);simp at this;omega,b.pg,b.c9,b.bw,b.ou,b.pr,b.dL,b.d9⟩
  unfold fL;generalize ab t 2 [99,111,110,115,116] (ar g.D 40 g)=s at *
  have i:S t (λd m=>∃c a v,d=.const c a v/\m = { f with dc:=1,z:=f.z++[(c,none)] }/\ay f.z c=none/\(aG t 2 s).1.text=c/\(aV t (-2147483648) 4294967295 (ab t 4 [61] (aG t 2 s).2)).1.1=v) (iv (ap t) j.m { st with m:=h,A:=none }) (ab t 4 [59] (aV t (-2147483648) 4294967295 (ab t 4 [61] (aG t 2 s).2)).2):=by
   unfold iv;rw[LG (st:={ st with m:=h,A:=none }) w];refine fc (rO G r) ((aO _ _ _).a ((gY _ _ _).a (aO _ _ _))) ?_;rintro y a2 z p ⟨rfl,L,-,M,-⟩;refine fc (eL p (kd:=4) (l:=[61]) (by decide)) ((gY _ _ _).a (aO _ _ _)) ?_;rintro K a3 O H ⟨rfl,-⟩;refine fc (tL H (-2147483648) 4294967295) (aO _ _ _) ?_;rintro v a4 P I ⟨rfl,N,-⟩;refine fc (eL I (kd:=4) (l:=[59]) (by decide)) (ed _) ?_;rintro K a5 R J ⟨rfl,-⟩;exact S.ret J ⟨y.1,y.2,v.1,rfl,rfl,M,L,by rw[N]⟩
  cases n:iv (ap t) j.m { st with m:=h,A:=none }with
  |error q=>
   rw[n]at i;rw[hT n,Y9 i.c8];exact i
  |ok a1=>
   rw[n]at i;obtain⟨z,p,c,a,v,C,rfl,u,A,B⟩:=i;rw[oj n,Y2 (by simpa using p.e),A,B];rw[C];have F:=(p.k5 a v (by rw[nc _ _ _ u,Y9 rfl]) r rfl).bn (xe c v);exact⟨_,F,c,a,v,rfl,⟨r,rfl,rfl,rfl,by simp,by simp[gi],[],by show cL (f.z++[(c,none)]) c _=_;rw[qj u];rfl,by simp⟩⟩
def Gb(B:f.pd=[]):qy t (fM mh) () [] true f (λx _ m=>m = { f with pd:=[(x.1,none)] }/\ay f.z x.1=none):=λst g l=>by
 unfold name av lift;rcases pk t st with⟨b,h,k⟩|⟨q,k⟩
 .rw[mg k];simp only;by_cases r:b.f=1
  .obtain⟨y,z,d⟩:=zj l k r;rw[Y9 (by rw[r];rfl)];have c:=l.c7 k;have A:ay f.z b.text=none/\bz (aI t g) b.text<0\/(∃o,ay f.z b.text=some o)/\0<=bz (aI t g) b.text:=by
    rcases c.hs b.text with e|⟨i,o,j,e,s,-⟩
    .exact Y8 e
    .exact Ya ⟨⟨o,e⟩,by omega⟩
   have v:st.g=f.z:=by rw[l.z,B];simp
   have C:(fM mh).af b () { st with m:=h,A:=none } = match ay f.z b.text with
     |none=>.ok ((),(),{ st with m:=h,A:=none,g:=f.z++[(b.text,none)] })
     |some _=>.error ⟨6,b.m⟩:=by
    show lift (fZ b) () { st with m:=h,A:=none } = _;unfold lift fZ;rw[show ay ({ st with m:=h,A:=none }:St).g b.text=ay f.z b.text by rw[<-v]];cases ay f.z b.text with
    |none=>simp only[v]
    |some o=>rfl
   rw[C];unfold bV;simp only[if_true]
   rw[d,y,z];rcases A with⟨e,s⟩|⟨⟨o,e⟩,s⟩
   .rw[e];have p:decide (0<=bz (aI t g) b.text)=false:=by simp;omega
    rw[Y2 (λn=>by rw[p]at n;exact absurd n.2 (by simp))];refine⟨{ f with pd:=[(b.text,none)] },⟨by rw[d];exact c.e,by rw[d];exact c.wd,rfl,Ya ⟨_,rfl,e⟩,by rw[d];exact c.nm,by rw[d];exact c.k,by rw[d];exact c.cn,by rw[d];exact c.pg,by rw[d];exact c.c9,by rw[d];exact c.bw,by rw[d];exact c.ou,by rw[d];exact c.pr,by rw[d];exact c.dL,by rw[d];exact c.d9⟩,⟨rfl,e⟩,y,z⟩
   .rw[e];have p:decide (0<=bz (aI t g) b.text)=true:=by simp;omega
    rw[Y9 ⟨c.e,p⟩];exact c.c3 (e:=6) (a:=b.m) (by omega)
  .rw[Y2 (by simp;omega)];have w:=zm l k r;have u:=l.fx k;have:(bV t [] true g).2=da g:=by
    unfold bV;simp only;rw[w,Y2 (λn=>u.c8 n.1)];exact w
   rw[this];exact u
 .rw[ni k];exact(l.bd k).ij [] true
end
end Go.Proofs.YtjdhaegijjednaaGreatDoor
