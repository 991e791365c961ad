import Derived.Test.YtjdhaegijjednaaGreatDoorT1
import Derived.Deep.RegionHeld2
import Derived.Laws.EntriesVeiled
import Derived.ChangeKeysEq
import Derived.Deep.AppendLies
set_option linter.all false
set_option maxRecDepth 100000
set_option maxHeartbeats 4000000
namespace Go.Proofs.YtjdhaegijjednaaGreatDoor
open Go.Proofs.Tryz
section
variable {L i b:Nat}
section
variable {d : Program} {a : Array Oper} {Q : Exit -> Act -> World -> Prop} {c : Region.Mode} {S : World -> Prop}
abbrev py(d:Program)(a:Array Oper)(Q:Exit->Act->World->Prop)(L:Nat):Exit->Act->World->Prop:=λg b c=>match g with
 |.normal=>wpOp d a Q L (λe j=>Q .normal e j) b c
 |.exit i=>Q (.exit i) b c
 |.goto h=>Q (.goto h) b c
 |.ret=>Q .ret b c
 |.panic f=>Q (.panic f) b c
 |.outgrown=>Q .outgrown b c
def JP(b:LetsOut (py d a Q L)):LetsOut Q:=b
def Mn{e:Oper}{c:Act}{f:World}{g:Act->World->Prop}(b:e.wp d c f g (py d a Q L)):e.wp d c f g Q:=by
 unfold Oper.wp at *
 generalize (execOp c.eval e).run d f=i at *
 cases i with
 |ok h j=>cases h<;>simp only[Oper.upon]at b ⊢<;>exact b
 |halt k j=>cases k<;>simp only[Oper.upon]at b ⊢<;>exact b
def SF{g:Act}{h:World}{f:Act->World->Prop}(b:wpOp d a (py d a Q L) i f g h):wpOp d a Q i f g h:=by
 unfold wpOp at *
 split
 .rename_i c;simp only[c]at b;exact b
 .rename_i l c;simp only[c]at b;split
  .rename_i e;simp only[e,if_true]at b
   rcases b with b|⟨j,k⟩
   .exact Y8 (Mn b)
   .exact Ya ⟨j,JP k⟩
  .rename_i e;simp only[e]at b;exact b
def pA(c:Region.Mode)(a:Array Oper):Bool:=(List.range a.size).all λb=>match a[b]? with
 |some e=>e.after.all λd=>!Region.binds c d||decide (d.on<b)
 |none=>true
def rk(c:Region.Mode)(a:Array Oper)(L:Nat):Bool:=(List.range L).all λb=>(List.range a.size).any λe=>match a[e]? with
 |some f=>f.after.any λd=>Region.binds c d&&d.on==b
 |none=>false
def zY(e:pA c a=true){h:Oper}(g:a[b]? = some h){d:_}(k:d∈h.after)(j:Region.binds c d=true):d.on<b:=by
 simp only[pA,List.all_eq_true,List.mem_range]at e;have f:=e b (Array.getElem?_eq_some_iff.1 g).1;simp only[g,Array.all_eq_true_iff_forall_mem]at f;have i:=f d k;simpa[j]using i
def GQ(j:rk c a L=true)(m:b<L):∃e:Nat,∃f:Oper,a[e]? = some f/\∃d∈f.after,Region.binds c d=true/\d.on=b:=by
 simp only[rk,List.all_eq_true,List.mem_range]at j;have k:=j b m;rw[List.any_eq_true]at k;obtain⟨e,_,g⟩:=k;cases i:a[e]? with
 |none=>simp[i]at g
 |some f=>
  simp only[i]at g;obtain⟨d,l,h⟩:=Array.any_eq_true'.1 g;simp only[Bool.and_eq_true,beq_iff_eq]at h;exact⟨e,f,i,d,l,h.1,h.2⟩
def qF(c:Region.Mode)(a:Array Oper)(e:Array Bool):Prop:=
 ∀b f,a[b]? = some f->e.getD b false=true->∀d∈f.after,Region.binds c d=true->e.getD d.on false=true
def qF.dL{d:Array Bool}(m:qF c a d)(o:i∈Region.ready c a d):qF c a (d.setIfInBounds i true):=by
 intro b p k j e g f;refine getD_set_true ?_;by_cases h:i=b
 .subst h;obtain⟨_,q,l,n⟩:=mem_ready.1 o;rw[k]at l;cases l
  exact n e g f
 .rw[getD_set_ne false h]at j;exact m b p k j e g f
def Eb{a:Array Bool}(c:b<a.size):a.getD b false=a.getD b true:=by
 simp[c]
def Dp(k:pA c a=true){d:Array Bool}(r:d.size=a.size):∀b,b<a.size->d.getD b true=false->Region.ready c a d≠[]:=by
 intro b;induction b using Nat.strongRecOn with
 |ind b q=>
  intro h m i;by_cases f:∀g,a[b]? = some g->∀e∈g.after,Region.binds c e=true->d.getD e.on false=true
  .have:b∈Region.ready c a d:=mem_ready.2 ⟨m,a[b],by simp[h],f _ (by simp[h])⟩;rw[i]at this;cases this
  .simp only[Classical.not_forall]at f;obtain⟨g,p,e,l,j,o⟩:=f;have n:=zY k p l j;refine q e.on n (by omega) ?_ i;rw[<-Eb (by omega)];simpa using o
def FF(n:pA c a=true)(w:a.size=L+1)(p:rk c a L=true){f:Array Bool}(z:f.size=a.size)(o:qF c a f)(t:L∈Region.ready c a f) :
  ∀g b,L-b=g->b<L->f.getD b false=true:=by
 intro g;induction g using Nat.strongRecOn with
 |ind g u=>
  intro b y q;obtain⟨e,v,d,k,i,h,j⟩:=GQ p q;have r:=zY n d i h;have x:=(Array.getElem?_eq_some_iff.1 d).1;rw[j]at r;by_cases s:e=L
  .subst s;obtain⟨_,A,l,m⟩:=mem_ready.1 t;rw[d]at l;cases l
   rw[<-j];exact m k i h
  .have:=u (L-e) (by omega) e rfl (by omega);rw[<-j];exact o e v d this k i h
def Ce(j:pA c a=true)(i:a.size=L+1)(l:rk c a L=true){d:Array Bool}(g:d.size=a.size)(k:qF c a d)(p:L∈Region.ready c a d) :
  Region.ready c a (d.setIfInBounds L true)=[]:=by
 cases h:Region.ready c a (d.setIfInBounds L true)with
 |nil=>rfl
 |cons b rest=>
  exfalso;have m:b∈Region.ready c a (d.setIfInBounds L true):=by rw[h];exact Yb
  obtain⟨e,q,o,_⟩:=mem_ready.1 m;have n:=(Array.getElem?_eq_some_iff.1 o).1;by_cases f:L=b
  .subst f;simp[g,n]at e
  .rw[getD_set_ne true f]at e;have:=FF j i l g k p (L-b) b rfl (by omega);rw[Eb (by omega)]at this;rw[this]at e;cases e
def SC(n:pA c a=true)(t:a.size=L+1)(u:rk c a L=true):∀(l:Nat) (f:Array Bool) (m:Act) (q:World),
  f.size=a.size->qF c a f->f.getD L true=false->wpAnyH d c a (py d a Q L) S l (f.setIfInBounds L true) m q->wpAny d c a Q (l+1) f m q:=by
 intro l;induction l with
 |zero=>
  intro f m q j o p k;refine⟨λe=>absurd e (Dp n j L (by omega) p),λi h=>?_⟩;by_cases g:i=L
  .subst g;exact wpOp_mono (λr s e=>⟨Ce n t u j o h,e⟩) k.2
  .have:=ready_mono h g;rw[k.1]at this;cases this
 |succ l x=>
  intro f m q j o p k;refine⟨λe=>absurd e (Dp n j L (by omega) p),λi h=>?_⟩;by_cases g:i=L
  .subst g;have v:=Ce n t u j o h;refine wpOp_mono (λr s e=>⟨λ_=>e,?_⟩) (k.1 v);rw[v];intro b w;cases w
  .refine wpOp_mono (λr s e=>?_) (SF (k.2 i (ready_mono h g)));refine x (f.setIfInBounds i true) r s (by simp[j]) (o.dL h) (by rw[getD_set_ne true g];exact p) ?_;rw[Array.setIfInBounds_comm _ _ g];exact e.2
def cS(S:World->Prop){id:Nat}{e:Act}{c:World}(n:d.follows .mixedOrders=true)(f:a.size=L+1)(l:pA .any a=true)(m:rk .any a L=true)(k:S c.drew)
  (i:S c.drew->wpAnyH d .any a (py d a Q L) S L ((Array.replicate (L+1) false).setIfInBounds L true) e c.drew):(Code.region id a true).wp d Q e c:=by
 refine wp_region_any n ?_;have j:=i k;rw[f];refine SC l f m L _ e _ (by simp[f]) ?_ (by simp) j;intro b o _ h;exfalso;rcases Yj b (L+1)with g|g
 .simp[g]at h
 .simp[g]at h
def JI{f:Oper}{b:Act}{c:World}(i:a[L]? = some f)
  (g:∀e:Act->World->Prop,Shut (∀b c,Q .normal b c->e b c)->if Region.wanted f (yielded a b.tmps)=true then Oper.wp d f b c e Q else e (b.put f.dst undef) c) :
  py d a Q L .normal b c:=wpOp_step i (λe h=>g e (λb c j=>h b c j))
def tk{f:Oper}{v:Value}{l:Nat}{h:Array Bool}{b:Act}{e:World}(p:a[i]? = some f)(g:(Region.noSelect a&&Region.free c a h i&&(Region.ready c a h).contains i)=true)
  (n:∀k b e,Q (.panic k) (b.put f.dst v) e->Q (.panic k) b e) (q:Region.wanted f (yielded a b.tmps)=true) (o:S e) (r:∀j,S j->(execOp b.eval f).run d j=.ok (.value v) j)
  (m:wpAnyH d c a Q S l (h.setIfInBounds i true) (b.put f.dst v) e):wpAnyH d c a Q S (l+1) h b e:=by
 simp only[Bool.and_eq_true]at g;exact wpAnyH_take p g.1.1 g.1.2 g.2 n (Y8 ⟨q,r⟩) o m
def aL(c:List Value)(a:List Deferred)(b:Nat)(v:Value):Act.put ⟨c.toArray,a⟩ (some b) v=⟨(c.set b v).toArray,a⟩:=by simp[Act.put]
def aM(a:Act)(v:Value):Act.put a none v=a:=rfl
end
end
section
variable {h : Program} {c : Array Oper} {Q : Exit -> Act -> World -> Prop} {f : Region.Mode} {S : World -> Prop} {d : Nat} {j : List Nat} {g : Oper} {v : Value} {i : Nat} {e : Array Bool} {a : Act} {b : World}
def qH(_:List Nat)(a:Prop):Prop:=a
def bI(j:List Nat){a:Prop}(b:qH j a):a:=b
def bJ{a:Prop}(b:a):qH [] a:=b
def bP(q:c[d]? = some g)(p:(Region.noSelect c&&Region.free f c e d&&(Region.ready f c e).contains d)=true)(n:∀l a b,Q (.panic l) (a.put g.dst v) b->Q (.panic l) a b)(r:Region.wanted g (yielded c a.tmps)=true)(o:S b)(s:∀k,S k->(execOp a.eval g).run h k=.ok (.value v) k)(m:qH j (wpAnyH h f c Q S i (e.setIfInBounds d true) (a.put g.dst v) b)):qH (d::j) (wpAnyH h f c Q S (i+1) e a b):=tk q p n r o s m
def Pz(p:c[d]? = some g)(k:(Region.noSelect c&&Region.free f c e d&&(Region.ready f c e).contains d)=true)(n:∀l a b,Q (.panic l) (a.put g.dst undef) b->Q (.panic l) a b)(q:Region.wanted g (yielded c a.tmps)=false)(o:S b)(m:qH j (wpAnyH h f c Q S i (e.setIfInBounds d true) (a.put g.dst undef) b)):qH (d::j) (wpAnyH h f c Q S (i+1) e a b):=by
 simp only[Bool.and_eq_true]at k;exact wpAnyH_take p k.1.1 k.1.2 k.2 n (Ya ⟨q,rfl⟩) o m
def ck(d:Nat)(m:Region.ready f c e=[d])(l:c[d]? = some g)
  (k:∀j:Act->World->Prop,Shut (∀a b,S b->(S b->wpAnyH h f c Q S i (e.setIfInBounds d true) a b)->j a b)->if Region.wanted g (yielded c a.tmps)=true then Oper.wp h g a b j Q else j (a.put g.dst undef) b) :
  wpAnyH h f c Q S (i+1) e a b:=wpAnyH_ready m (by simp) (AllReadyH.cons l k AllReadyH.nil)
def cQ{j:Nat}{d:Oper}(m:Region.ready f c e=[])(l:c[j]? = some d)
  (k:∀g:Act->World->Prop,Shut (∀a b,Q .normal a b->g a b)->if Region.wanted d (yielded c a.tmps)=true then Oper.wp h d a b g Q else g (a.put d.dst undef) b) :
  wpAnyH h f c (py h c Q j) S i e a b:=wpAnyH_done m (JI l k) _
end
end Go.Proofs.YtjdhaegijjednaaGreatDoor
namespace Go.Proofs.YtjdhaegijjednaaGreatDoor
open Go.RowKit
open Go.Proofs.Tryz
section
variable {a g:Nat}{j:TypeId}{c:Int}{h:Array Value}{e:List UInt8}{d f:World}{b:ef}
structure lT where
 rv:Value
 nv:Value
 pv:Value
 j:List UInt8
 a1:Int
 ae:Int
 gv:Value
abbrev lC(e:List UInt8)(b:ef)(d c:Int)(a:lT):Obj:=.cells #[.string ⟨e.toArray⟩,.int .i64 b.H,.string ⟨b.text.toArray⟩,.int .i64 b.w,.int .i64 b.fin,.int .i64 b.n,.int .i64 b.e,a.rv,a.nv,a.pv,.string ⟨a.j.toArray⟩,.int .i64 d,.int .i64 c,.int .i64 a.a1,.int .i64 a.ae,a.gv] 114
def aS{a:Nat}{v:Value}(b:f.heap[g]? = some (.cells h j))(c:h[a]? = some v):f.cell? ⟨g,a,none⟩=some v:=by
 simp[World.cell?,b,c]
def cG(b:f.heap[g]? = some (.cells h j)):∀a,f.frozen? ⟨g,a,none⟩=false:=by
 intro a;simp[World.frozen?,b]
def OS{d:ef}{h:Int}{g:lT}(j:f.heap[a]? = some (lC e b h c g)):((((((f.setCell ⟨a,1,none⟩ (.int .i64 d.H)).setCell ⟨a,2,none⟩ (.string ⟨d.text.toArray⟩)).setCell ⟨a,3,none⟩ (.int .i64 d.w)).setCell ⟨a,4,none⟩ (.int .i64 d.fin)).setCell ⟨a,5,none⟩ (.int .i64 d.n)).setCell ⟨a,6,none⟩ (.int .i64 d.e)).heap[a]? = some (lC e d h c g):=by
 have k:(f.setCell ⟨a,1,none⟩ (.int .i64 d.H)).heap[a]? = some (.cells #[.string ⟨e.toArray⟩,.int .i64 d.H,.string ⟨b.text.toArray⟩,.int .i64 b.w,.int .i64 b.fin,.int .i64 b.n,.int .i64 b.e,g.rv,g.nv,g.pv,.string ⟨g.j.toArray⟩,.int .i64 h,.int .i64 c,.int .i64 g.a1,.int .i64 g.ae,g.gv] 114):=bv (i:=1) j _;have l:((f.setCell ⟨a,1,none⟩ (.int .i64 d.H)).setCell ⟨a,2,none⟩ (.string ⟨d.text.toArray⟩)).heap[a]? = some (.cells #[.string ⟨e.toArray⟩,.int .i64 d.H,.string ⟨d.text.toArray⟩,.int .i64 b.w,.int .i64 b.fin,.int .i64 b.n,.int .i64 b.e,g.rv,g.nv,g.pv,.string ⟨g.j.toArray⟩,.int .i64 h,.int .i64 c,.int .i64 g.a1,.int .i64 g.ae,g.gv] 114):=bv (i:=2) k _;have m:(((f.setCell ⟨a,1,none⟩ (.int .i64 d.H)).setCell ⟨a,2,none⟩ (.string ⟨d.text.toArray⟩)).setCell ⟨a,3,none⟩ (.int .i64 d.w)).heap[a]? = some (.cells #[.string ⟨e.toArray⟩,.int .i64 d.H,.string ⟨d.text.toArray⟩,.int .i64 d.w,.int .i64 b.fin,.int .i64 b.n,.int .i64 b.e,g.rv,g.nv,g.pv,.string ⟨g.j.toArray⟩,.int .i64 h,.int .i64 c,.int .i64 g.a1,.int .i64 g.ae,g.gv] 114):=bv (i:=3) l _;have o:((((f.setCell ⟨a,1,none⟩ (.int .i64 d.H)).setCell ⟨a,2,none⟩ (.string ⟨d.text.toArray⟩)).setCell ⟨a,3,none⟩ (.int .i64 d.w)).setCell ⟨a,4,none⟩ (.int .i64 d.fin)).heap[a]? = some (.cells #[.string ⟨e.toArray⟩,.int .i64 d.H,.string ⟨d.text.toArray⟩,.int .i64 d.w,.int .i64 d.fin,.int .i64 b.n,.int .i64 b.e,g.rv,g.nv,g.pv,.string ⟨g.j.toArray⟩,.int .i64 h,.int .i64 c,.int .i64 g.a1,.int .i64 g.ae,g.gv] 114):=bv (i:=4) m _;have p:(((((f.setCell ⟨a,1,none⟩ (.int .i64 d.H)).setCell ⟨a,2,none⟩ (.string ⟨d.text.toArray⟩)).setCell ⟨a,3,none⟩ (.int .i64 d.w)).setCell ⟨a,4,none⟩ (.int .i64 d.fin)).setCell ⟨a,5,none⟩ (.int .i64 d.n)).heap[a]? = some (.cells #[.string ⟨e.toArray⟩,.int .i64 d.H,.string ⟨d.text.toArray⟩,.int .i64 d.w,.int .i64 d.fin,.int .i64 d.n,.int .i64 b.e,g.rv,g.nv,g.pv,.string ⟨g.j.toArray⟩,.int .i64 h,.int .i64 c,.int .i64 g.a1,.int .i64 g.ae,g.gv] 114):=bv (i:=5) o _;have q:((((((f.setCell ⟨a,1,none⟩ (.int .i64 d.H)).setCell ⟨a,2,none⟩ (.string ⟨d.text.toArray⟩)).setCell ⟨a,3,none⟩ (.int .i64 d.w)).setCell ⟨a,4,none⟩ (.int .i64 d.fin)).setCell ⟨a,5,none⟩ (.int .i64 d.n)).setCell ⟨a,6,none⟩ (.int .i64 d.e)).heap[a]? = some (.cells #[.string ⟨e.toArray⟩,.int .i64 d.H,.string ⟨d.text.toArray⟩,.int .i64 d.w,.int .i64 d.fin,.int .i64 d.n,.int .i64 d.e,g.rv,g.nv,g.pv,.string ⟨g.j.toArray⟩,.int .i64 h,.int .i64 c,.int .i64 g.a1,.int .i64 g.ae,g.gv] 114):=bv (i:=6) p _;exact q
def hp(a c d b:Int):Int×Int:=if a=0 then (d,b)else (a,c)
def uM{f:Int}{n:lT}(j:d.heap[a]? = some (lC e b f c n))(h g:Int) :
  Calls prog 51 #[.pointer (some ⟨a,0,none⟩),.int .i64 h,.int .i64 g] d λq o=>q=.returned (.tuple #[])/\o.heap[a]? = some (lC e b (hp f c h g).1 (hp f c h g).2 n)/\ai [a] d o:=by
 have s:d.cell? ⟨a,11,none⟩=some (.int .i64 f):=aS j rfl;have t:d.cell? ⟨a,12,none⟩=some (.int .i64 c):=aS j rfl;have v:=cG j;have w:=aj j;have m:=Z j;by_cases k:f=0
 .have l:U (hp f c h g=(h,g)):=Y9 k;subst k;go_in;go_wp2;go_end0;rw[l.j];have r:=bv (i:=11) m.j (.int .i64 h);refine⟨rfl,bv (i:=12) r (.int .i64 g),((ah [a] d).a6 (p:=⟨a,11,none⟩) (by simp) _).a6 (p:=⟨a,12,none⟩) (by simp) _⟩
 .have l:U (hp f c h g=(f,c)):=Y2 k;have u:(f==0)=false:=by rw[Yi];exact k
  go_in;go_wp2;go_end0;rw[l.j];exact⟨rfl,m.j,ah _ _⟩
def lZ(b:ef)(a c:Int):Int×Int:=if b.H=5 then hp a c b.e b.w else hp a c 3 b.w
def uy{h:Int}{o:lT}(g:d.heap[a]? = some (lC e b h c o)) :
  Calls prog 84 #[.pointer (some ⟨a,0,none⟩)] d λm p=>m=.returned (.tuple #[])/\p.heap[a]? = some (lC e b (lZ b h c).1 (lZ b h c).2 o)/\ai [a] d p:=by
 have A:d.cell? ⟨a,1,none⟩=some (.int .i64 b.H):=aS g rfl;have B:d.cell? ⟨a,3,none⟩=some (.int .i64 b.w):=aS g rfl;have C:d.cell? ⟨a,6,none⟩=some (.int .i64 b.e):=aS g rfl;have E:=cG g;have F:=aj g;have x:d.drew.heap[a]? = some (lC e b h c o):=g;have r:=Z (uM x b.e b.w);have s:=Z (uM g 3 b.w);by_cases n:b.H=5
 .have l:U (lZ b h c=hp h c b.e b.w):=Y9 n;have w:((b.H:Int)==5)=true:=by rw[n];rfl
  go_in;go_wp2_with fail;refine cS (λq=>q.cell? ⟨a,3,none⟩=some (.int .i64 b.w)/\q.cell? ⟨a,6,none⟩=some (.int .i64 b.e)) (L:=11) (by kernel_rfl) rfl (by kernel_rfl) (by kernel_rfl) ?_ (λD=>?_)
  .go_keep
  refine bI [0,1,2,3,4,5,6,7,8,9,10] ?_;iterate 11 (refine bP (v:=?_) rfl (by kernel_rfl) (λ_ _ _ g=>g) (by kernel_rfl) (by assumption) ?_ ?_;rotate_left;focus (intro f u;(try dsimp only at u);go_simp;(try with_reducible rfl));(try simp only[aL,aM,List.set]))
  refine bJ ?_;refine cQ (by kernel_rfl) rfl λz t=>?_;(go_simp;refine r.j.mono ?_;rintro m y ⟨rfl,j,k⟩;have i:=Z (Yp j (((ah [a] d).a9).u k));clear j k);refine t.out _ _ ?_;(try simp only[aL,aM,List.set]);go_wp2;refine bodyPost_ret (v:=.tuple #[]) (by simp[results,results84]) rfl ?_;rw[l.j];exact⟨rfl,i.j.1,i.j.2⟩
 .have l:U (lZ b h c=hp h c 3 b.w):=Y2 n;have w:((b.H:Int)==5)=false:=by rw[Yi];omega
  go_in;go_wp2_with fail;refine s.j.mono ?_;rintro m y ⟨rfl,j,k⟩;have i:=Z (Yp j k);go_wp2;go_end0;rw[l.j];exact⟨rfl,i.j.1,i.j.2⟩
def vy{q:Int}{s:lT}(h:d.heap[a]? = some (lC e b q c s))(C:b.fin<=e.length)(B:e.length<=2000) :
  Calls prog 47 #[.pointer (some ⟨a,0,none⟩)] d λr t=>r=.returned (.tuple #[])/\t.heap[a]? = some (lC e (cR e b.fin) q c s)/\ai [a] d t:=by
 have y:d.cell? ⟨a,0,none⟩=some (.string ⟨e.toArray⟩):=aS h rfl;have z:d.cell? ⟨a,4,none⟩=some (.int .i64 b.fin):=aS h rfl;have I:=cG h;have M:=aj h;have x:=Z (Fd e b.fin C B d.drew);have m:=Z h;generalize cR e b.fin=N at *
 go_in;go_wp2_with fail;refine cS (λu=>u.cell? ⟨a,0,none⟩=some (.string ⟨e.toArray⟩)/\u.cell? ⟨a,4,none⟩=some (.int .i64 b.fin)) (L:=13) (by kernel_rfl) rfl (by kernel_rfl) (by kernel_rfl) ?_ (λA=>?_)
 .go_keep
 refine bI [0,1,2,3,4,5,6,7,8,9] ?_;iterate 10 (refine bP (v:=?_) rfl (by kernel_rfl) (λ_ _ _ h=>h) (by kernel_rfl) (by assumption) ?_ ?_;rotate_left;focus (intro f k;(try dsimp only at k);go_simp;(try with_reducible rfl));(try simp only[aL,aM,List.set]))
 refine bJ ?_;refine ck 10 (by kernel_rfl) rfl λw j=>?_;(go_simp;go_at_call 80;refine x.j.mono ?_;rintro r i ⟨rfl,l⟩;have g:i.heap[a]? = _:=(l.K _ (aj m.j) (by simp)).trans m.j;have y:i.cell? ⟨a,0,none⟩=some (.string ⟨e.toArray⟩):=aS g rfl;have D:i.cell? ⟨a,1,none⟩=some (.int .i64 b.H):=aS g rfl;have E:i.cell? ⟨a,2,none⟩=some (.string ⟨b.text.toArray⟩):=aS g rfl;have F:i.cell? ⟨a,3,none⟩=some (.int .i64 b.w):=aS g rfl;have z:i.cell? ⟨a,4,none⟩=some (.int .i64 b.fin):=aS g rfl;have G:i.cell? ⟨a,5,none⟩=some (.int .i64 b.n):=aS g rfl;have H:i.cell? ⟨a,6,none⟩=some (.int .i64 b.e):=aS g rfl;have J:=cG g;have K:=aj g;have o:=Z (Yp g ((((ah [] d).a9).u l)));clear g l);refine j.out _ _ ?_ (λA=>?_)
 .go_keep
 (try simp only[aL,aM,List.set]);refine bI [11,12] ?_;iterate 2 (refine bP (v:=?_) rfl (by kernel_rfl) (λ_ _ _ h=>h) (by kernel_rfl) (by assumption) ?_ ?_;rotate_left;focus (intro f k;(try dsimp only at k);go_simp;(try with_reducible rfl));(try simp only[aL,aM,List.set]))
 refine bJ ?_;refine cQ (by kernel_rfl) rfl λw j=>?_;go_simp;refine j.out _ _ ?_;(try simp only[aL,aM,List.set]);go_end0;exact⟨rfl,OS o.j.1,(((((((o.j.2.af (by simp)).a6 (p:=⟨a,1,none⟩) (by simp) _).a6 (p:=⟨a,2,none⟩) (by simp) _).a6 (p:=⟨a,3,none⟩) (by simp) _).a6 (p:=⟨a,4,none⟩) (by simp) _).a6 (p:=⟨a,5,none⟩) (by simp) _).a6 (p:=⟨a,6,none⟩) (by simp) _)⟩
def hD(b:ef)(a:Int)(c:Nat)(d:List UInt8):Bool:=(a==0)&&((b.H==c)&&(b.text==d))
def xI{g:Int}{o:lT}(j:d.heap[a]? = some (lC e b g c o))(f:Nat)(h:List UInt8) :
  Calls prog 81 #[.pointer (some ⟨a,0,none⟩),.int .i64 f,.string ⟨h.toArray⟩] d λn p=>n=.returned (.bool (hD b g f h))/\p=d:=by
 have r:d.cell? ⟨a,11,none⟩=some (.int .i64 g):=aS j rfl;have q:d.cell? ⟨a,1,none⟩=some (.int .i64 b.H):=aS j rfl;have s:d.cell? ⟨a,2,none⟩=some (.string ⟨b.text.toArray⟩):=aS j rfl;have t:=cG j;have u:=aj j;by_cases k:g=0
 .subst k;by_cases l:b.H=f
  .have i:U (hD b 0 f h=(b.text==h)):=by show _=_;simp[hD,l]
   have m:((b.H:Int)==(f:Int))=true:=by rw[l];simp
   go_in;go_wp2;all_goals
    go_ret
    refine⟨lE ?_,rfl⟩
    rw[i.j]
    try (first|rfl|simp_all)
  .have i:U (hD b 0 f h=false):=by show _=_;simp[hD,l]
   have m:((b.H:Int)==(f:Int))=false:=by rw[Yi];omega
   go_in;go_wp2;go_ret;exact⟨by rw[i.j];rfl,rfl⟩
 .have i:U (hD b g f h=false):=by show _=_;simp[hD,k]
  have m:(g==0)=false:=by rw[Yi];exact k
  go_in;go_wp2;go_ret;exact⟨by rw[i.j];rfl,rfl⟩
end
section
variable {f b:Nat}{h:TypeId}{r q o m l j d0 d1 d2 d3 d4 d5:Value}{k:lT}{d:List UInt8}{c g:World}
def vw{a:Nat}(c:a<=d.length):(cR d a).fin<=d.length:=by
 have f:=AU c;unfold cR;cases b:Mar.ds (d.drop (dV d a)) (dV d a)with
 |error e=>simp
 |ok g=>
  have:=xB b;rw[YI]at this;simp only;omega
structure iu where
 x:ef
 e:Int
 a:Int
def cd:ef:=⟨0,[],0,0,0,0⟩
def qe(d:List UInt8)(a:iu):iu:={ a with x:=cR d a.x.fin }
def jQ(b:iu):iu:=⟨b.x,(lZ b.x b.e b.a).1,(lZ b.x b.e b.a).2⟩
def mG(d:List UInt8)(a:iu)(b:Nat)(c:List UInt8):iu:=if hD a.x a.e b c then qe d a else jQ a
def im(d:List UInt8)(a:iu):ef×iu:=if a.e≠0 then (cd,a)else if a.x.H=1 then (a.x,qe d a)else (cd,jQ a)
abbrev lB(d:List UInt8)(b:iu)(k:lT):Obj:=lC d b.x b.e b.a k
def zE(f:Nat)(d:List UInt8)(a:iu)(k:lT)(v:Value)(c:World)(e:Ending)(b:World):Prop:=e=.returned v/\b.heap[f]? = some (lB d a k)/\ai [f] c b/\a.x.fin<=d.length
def Em{a:iu}(n:c.heap[f]? = some (lB d a k))(s:a.x.fin<=d.length)(t:d.length<=2000)(h:Nat)(i:List UInt8) :
  Calls prog 141 #[.pointer (some ⟨f,0,none⟩),.int .i64 h,.string ⟨i.toArray⟩] c (zE f d (mG d a h i) k (.tuple #[]) c):=by
 have b:=Z (xI n h i);have p:=Z (uy n);have q:=Z (vy n s t);clear n;cases g:hD a.x a.e h i with
 |true=>
  have o:U (mG d a h i=qe d a):=Y9 g;rw[g]at b;clear g p;go_in;go_wp2_with fail;refine b.j.mono ?_;rintro r u ⟨rfl,rfl⟩;go_wp2_with fail;refine q.j.mono ?_;rintro r w ⟨rfl,l,m⟩;have j:=Z (Yp l m);clear l m q b;go_wp2;go_end0;rw[o.j];exact⟨rfl,j.j.1,j.j.2,vw s⟩
 |false=>
  have o:U (mG d a h i=jQ a):=Y2 (by rw[g];simp);rw[g]at b;clear g q;go_in;go_wp2_with fail;refine b.j.mono ?_;rintro r u ⟨rfl,rfl⟩;go_wp2_with fail;refine p.j.mono ?_;rintro r w ⟨rfl,l,m⟩;have j:=Z (Yp l m);clear l m p b;go_wp2;refine bodyPost_ret (v:=.tuple #[]) (by simp[results,results141]) rfl ?_;rw[o.j];exact⟨rfl,j.j.1,j.j.2,s⟩
def dY(a:g.heap[b]? = some (.cells #[r,q,o,m,l,j] h)) :
  g.cell? ⟨b,0,none⟩=some r/\g.cell? ⟨b,1,none⟩=some q/\g.cell? ⟨b,2,none⟩=some o/\g.cell? ⟨b,3,none⟩=some m/\g.cell? ⟨b,4,none⟩=some l/\g.cell? ⟨b,5,none⟩=some j/\(∀c,g.frozen? ⟨b,c,none⟩=false)/\b<g.heap.size:=by
 refine⟨?_,?_,?_,?_,?_,?_,?_,aj a⟩<;>simp[World.cell?,World.frozen?,a]
def tR(a:g.heap[b]? = some (.cells #[r,q,o,m,l,j] h)):((((((g.setCell ⟨b,0,none⟩ d0).setCell ⟨b,1,none⟩ d1).setCell ⟨b,2,none⟩ d2).setCell ⟨b,3,none⟩ d3).setCell ⟨b,4,none⟩ d4).setCell ⟨b,5,none⟩ d5).heap[b]? = some (.cells #[d0,d1,d2,d3,d4,d5] h):=by
 have c:(g.setCell ⟨b,0,none⟩ d0).heap[b]? = some (.cells #[d0,q,o,m,l,j] h):=bv (i:=0) a d0;have d:((g.setCell ⟨b,0,none⟩ d0).setCell ⟨b,1,none⟩ d1).heap[b]? = some (.cells #[d0,d1,o,m,l,j] h):=bv (i:=1) c d1;have e:(((g.setCell ⟨b,0,none⟩ d0).setCell ⟨b,1,none⟩ d1).setCell ⟨b,2,none⟩ d2).heap[b]? = some (.cells #[d0,d1,d2,m,l,j] h):=bv (i:=2) d d2;have f:((((g.setCell ⟨b,0,none⟩ d0).setCell ⟨b,1,none⟩ d1).setCell ⟨b,2,none⟩ d2).setCell ⟨b,3,none⟩ d3).heap[b]? = some (.cells #[d0,d1,d2,d3,l,j] h):=bv (i:=3) e d3;have k:(((((g.setCell ⟨b,0,none⟩ d0).setCell ⟨b,1,none⟩ d1).setCell ⟨b,2,none⟩ d2).setCell ⟨b,3,none⟩ d3).setCell ⟨b,4,none⟩ d4).heap[b]? = some (.cells #[d0,d1,d2,d3,d4,j] h):=bv (i:=4) f d4;have n:((((((g.setCell ⟨b,0,none⟩ d0).setCell ⟨b,1,none⟩ d1).setCell ⟨b,2,none⟩ d2).setCell ⟨b,3,none⟩ d3).setCell ⟨b,4,none⟩ d4).setCell ⟨b,5,none⟩ d5).heap[b]? = some (.cells #[d0,d1,d2,d3,d4,d5] h):=bv (i:=5) k d5;exact n
def Cd{d:List Nat}(e:ai d c g)(a:c.heap.size<=b):ai d c ((((((g.setCell ⟨b,0,none⟩ d0).setCell ⟨b,1,none⟩ d1).setCell ⟨b,2,none⟩ d2).setCell ⟨b,3,none⟩ d3).setCell ⟨b,4,none⟩ d4).setCell ⟨b,5,none⟩ d5):=
 (((((e.cy (p:=⟨b,0,none⟩) a d0).cy (p:=⟨b,1,none⟩) a d1).cy (p:=⟨b,2,none⟩) a d2).cy (p:=⟨b,3,none⟩) a d3).cy (p:=⟨b,4,none⟩) a d4).cy (p:=⟨b,5,none⟩) a d5
def Cx{d:Obj}(c:g.heap[f]? = some d)(h:f≠b):((((((g.setCell ⟨b,0,none⟩ d0).setCell ⟨b,1,none⟩ d1).setCell ⟨b,2,none⟩ d2).setCell ⟨b,3,none⟩ d3).setCell ⟨b,4,none⟩ d4).setCell ⟨b,5,none⟩ d5).heap[f]? = some d:=by
 have a:=λ(g:World) i e (c:g.heap[f]? = some d)=>(Below.heap_setCell g ⟨b,i,none⟩ e f h).trans c;exact a _ _ _ (a _ _ _ (a _ _ _ (a _ _ _ (a _ _ _ (a _ _ _ c)))))
def SA{a:iu}(y:c.heap[f]? = some (lB d a k))(F:a.x.fin<=d.length)(a4:d.length<=2000) :
  Calls prog 152 #[.pointer (some ⟨f,0,none⟩)] c (zE f d (im d a).2 k (.agg (du (im d a).1)) c):=by
 have a5:=aj y;have H:∀g,ai [] c (c.alloc g):=λg=>(ah [] c).G g;have h:∀g,(c.alloc g).heap[f]? = some (lB d a k):=λg=>(Below.heap_alloc _ _ _ a5).trans y;have q:∀g,(c.alloc g).cell? ⟨f,1,none⟩=some (.int .i64 a.x.H):=λg=>aS (h g) rfl;have o:∀g,(c.alloc g).cell? ⟨f,2,none⟩=some (.string ⟨a.x.text.toArray⟩):=λg=>aS (h g) rfl;have m:∀g,(c.alloc g).cell? ⟨f,3,none⟩=some (.int .i64 a.x.w):=λg=>aS (h g) rfl;have l:∀g,(c.alloc g).cell? ⟨f,4,none⟩=some (.int .i64 a.x.fin):=λg=>aS (h g) rfl;have j:∀g,(c.alloc g).cell? ⟨f,5,none⟩=some (.int .i64 a.x.n):=λg=>aS (h g) rfl;have c5:∀g,(c.alloc g).cell? ⟨f,6,none⟩=some (.int .i64 a.x.e):=λg=>aS (h g) rfl;have c4:∀g,(c.alloc g).cell? ⟨f,11,none⟩=some (.int .i64 a.e):=λg=>aS (h g) rfl;have S:=Z h;by_cases p:a.e=0
 .have a2:(a.e != 0)=false:=by rw[p];rfl
  by_cases A:a.x.H=1
  .have t:U (im d a=(a.x,qe d a)):=by show _=_;unfold im;rw[Y2 (by simpa using p),Y9 A]
   have a3:((a.x.H:Int) != 1)=false:=by rw[A];rfl
   have R:=Z (λ(B I:Obj)=>vy ((Below.heap_alloc (c.alloc B) I _ (by simp;omega)).trans (h B)) F a4);clear y h p A;go_in;go_wp2_with fail;refine(R.j _ _).mono ?_;rintro a1 s ⟨rfl,z,i⟩;have r:s.heap[c.heap.size]? = some (.cells #[.int .i64 0,.string ⟨#[]⟩,.int .i64 0,.int .i64 0,.int .i64 0,.int .i64 0] 112):=(i.K _ (by simp;omega) (by simp;omega)).trans ((Below.heap_alloc _ _ _ (by simp)).trans (aK rfl));have w:s.heap[c.heap.size+1]? = some (.cells (du a.x) 112):=(i.K _ (by simp) (by simp;omega)).trans (aK (by simp));obtain⟨a6,a7,a8,a9,b0,b1,b2,b3⟩:=dY r;obtain⟨b4,b5,b6,b7,b8,b9,c0,c1⟩:=dY w;have G:=Z r;have u:=Z (Yp z (((((H _).af (by simp)).u ((ah [f] _).G _)).u i)));clear z i r w R;go_wp2;have E:=tR (d0:=.int .i64 a.x.H) (d1:=.string ⟨a.x.text.toArray⟩) (d2:=.int .i64 a.x.w) (d3:=.int .i64 a.x.fin) (d4:=.int .i64 a.x.n) (d5:=.int .i64 a.x.e) G.j;have D:=Cx (d0:=.int .i64 a.x.H) (d1:=.string ⟨a.x.text.toArray⟩) (d2:=.int .i64 a.x.w) (d3:=.int .i64 a.x.fin) (d4:=.int .i64 a.x.n) (d5:=.int .i64 a.x.e) u.j.1 (show f≠c.heap.size by omega);have C:=Cd (b:=c.heap.size) (d0:=.int .i64 a.x.H) (d1:=.string ⟨a.x.text.toArray⟩) (d2:=.int .i64 a.x.w) (d3:=.int .i64 a.x.fin) (d4:=.int .i64 a.x.n) (d5:=.int .i64 a.x.e) u.j.2 (Y4 _);generalize ((((((s.setCell ⟨c.heap.size,0,none⟩ (.int .i64 a.x.H)).setCell ⟨c.heap.size,1,none⟩ (.string ⟨a.x.text.toArray⟩)).setCell ⟨c.heap.size,2,none⟩ (.int .i64 a.x.w)).setCell ⟨c.heap.size,3,none⟩ (.int .i64 a.x.fin)).setCell ⟨c.heap.size,4,none⟩ (.int .i64 a.x.n)).setCell ⟨c.heap.size,5,none⟩ (.int .i64 a.x.e))=a0 at E D C ⊢;obtain⟨J,K,L,M,N,O,c2,c3⟩:=dY E;refine bodyPost_ret (v:=.agg (du a.x)) (by simp[results,results152,go_sem,J,K,L,M,N,O,cd]) rfl ?_;rw[t.j];exact⟨rfl,D,C,vw F⟩
  .have t:U (im d a=(cd,jQ a)):=by show _=_;unfold im;rw[Y2 (by simpa using p),Y2 A]
   have a3:((a.x.H:Int) != 1)=true:=by simp;omega
   have P:=Z (λ(B I:Obj)=>uy ((Below.heap_alloc (c.alloc B) I _ (by simp;omega)).trans (h B)));clear y h p A;go_in;go_wp2_with fail;refine(P.j _ _).mono ?_;rintro a1 s ⟨rfl,z,i⟩;have r:s.heap[c.heap.size]? = some (.cells #[.int .i64 0,.string ⟨#[]⟩,.int .i64 0,.int .i64 0,.int .i64 0,.int .i64 0] 112):=(i.K _ (by simp;omega) (by simp;omega)).trans ((Below.heap_alloc _ _ _ (by simp)).trans (aK rfl));have w:s.heap[c.heap.size+1]? = some (.cells (du a.x) 112):=(i.K _ (by simp) (by simp;omega)).trans (aK (by simp));obtain⟨a6,a7,a8,a9,b0,b1,b2,b3⟩:=dY r;obtain⟨b4,b5,b6,b7,b8,b9,c0,c1⟩:=dY w;have G:=Z r;have u:=Z (Yp z (((((H _).af (by simp)).u ((ah [f] _).G _)).u i)));clear z i r w P;go_wp2;have E:=tR (d0:=.int .i64 0) (d1:=.string ⟨#[]⟩) (d2:=.int .i64 0) (d3:=.int .i64 0) (d4:=.int .i64 0) (d5:=.int .i64 0) G.j;have D:=Cx (d0:=.int .i64 0) (d1:=.string ⟨#[]⟩) (d2:=.int .i64 0) (d3:=.int .i64 0) (d4:=.int .i64 0) (d5:=.int .i64 0) u.j.1 (show f≠c.heap.size by omega);have C:=Cd (b:=c.heap.size) (d0:=.int .i64 0) (d1:=.string ⟨#[]⟩) (d2:=.int .i64 0) (d3:=.int .i64 0) (d4:=.int .i64 0) (d5:=.int .i64 0) u.j.2 (Y4 _);generalize ((((((s.setCell ⟨c.heap.size,0,none⟩ (.int .i64 0)).setCell ⟨c.heap.size,1,none⟩ (.string ⟨#[]⟩)).setCell ⟨c.heap.size,2,none⟩ (.int .i64 0)).setCell ⟨c.heap.size,3,none⟩ (.int .i64 0)).setCell ⟨c.heap.size,4,none⟩ (.int .i64 0)).setCell ⟨c.heap.size,5,none⟩ (.int .i64 0))=a0 at E D C ⊢;obtain⟨J,K,L,M,N,O,c2,c3⟩:=dY E;refine bodyPost_ret (v:=.agg (du cd)) (by simp[results,results152,go_sem,J,K,L,M,N,O,cd]) rfl ?_;rw[t.j];exact⟨rfl,D,C,F⟩
 .have t:U (im d a=(cd,a)):=by show _=_;unfold im;rw[Y9 p]
  have a2:(a.e != 0)=true:=by simpa using p
  clear y h p;go_in;go_wp2;refine bodyPost_ret (v:=.agg (du cd)) (by simp[results,results152,go_sem,cd]) rfl ?_;rw[t.j];exact⟨rfl,S.j _,(H _).af (by simp),F⟩
end
section
variable {l:List (List UInt8)}{a:World}
def pn(a:World)(v:Value)(d g:Nat)(f:Nat->Value):Prop:=∃ad e,v=.slice ad d e/\∀b,b<d->∃c,ad=some ⟨c,0,none⟩/\a.cell? ⟨c,b*g,none⟩=some (f b)
def tf{v:Value}{l:List Int}(k:pn a v l.length 1 λh=>.int .i64 (l.getD h 0))(D:l.length<=1000000000)(c:Int) :
  Calls prog 149 #[v,.int .i64 c] a λq x=>q=.returned (.bool (l.contains c))/\x=a:=by
 obtain⟨ad,y,rfl,k⟩:=k;have p:=Z k;go_in;go_wp2;go_loopw [5] (λh w=>∃b:Nat,h=.int .i64 b/\b<=l.length/\U (∀e∈l.take b,e≠c)/\w=a) (λh _=>l.length-(intOf h).toNat)
 case atStart=>exact⟨0,rfl,by omega,(by intro e d;simp at d),rfl⟩
 case round=>
  obtain⟨b,rfl,B,m,rfl⟩:=hrel;rcases Yj b l.length with g|A
  .obtain⟨z,rfl,u⟩:=p.j b g;rw[Nat.mul_one,show l.getD b 0=l[b] by simp[g]]at u;have C:(0:Int)<=↑b:=by omega
   have s:(↑b:Int) < ↑l.length:=by omega
   by_cases i:l[b]=c
   .have r:(l[b]==c)=true:=by simp[i]
    have j:U (l.contains c=true):=by show _=_;simp;rw[<-i];exact Yy g
    go_wp2;go_ret;exact⟨by rw[j.j];rfl,rfl⟩
   .have r:(l[b]==c)=false:=by simpa using i
    have o:U (∀e∈l.take (b+1),e≠c):=by
     intro e d;rw[Yt g,Yn]at d;rcases d with d|d
     .exact m.j e d
     .simp at d;rw[d];exact i
    go_wp2;exact⟨⟨b+1,by go_num,g,o,trivial⟩,by simp[intOf];omega⟩
  .have t:b=l.length:=by omega
   subst t;have j:U (l.contains c=false):=by
    have:=m.j;rw[YG]at this;show _=_;simp;intro f;exact this c f rfl
   have s:¬((l.length:Int)<(l.length:Int)):=by omega
   have f:c ∉ l:=by have:=j.j;simpa using this
   have n:=Z f;go_wp2;go_ret;refine⟨lE ?_,rfl⟩;have f:=n.j;simp[f]
def IK{v:Value}(k:pn a v l.length 1 λh=>.string ⟨(l.getD h []).toArray⟩)(D:l.length<=1000000000)(c:List UInt8) :
  Calls prog 257 #[v,.string ⟨c.toArray⟩] a λr w=>r=.returned (.bool (l.contains c))/\w=a:=by
 obtain⟨ad,x,rfl,k⟩:=k;have q:=Z k;go_in;go_wp2;go_loopw [5] (λh u=>∃b:Nat,h=.int .i64 b/\b<=l.length/\U (∀e∈l.take b,e≠c)/\u=a) (λh _=>l.length-(intOf h).toNat)
 case atStart=>exact⟨0,rfl,by omega,(by intro e d;simp at d),rfl⟩
 case round=>
  obtain⟨b,rfl,B,m,rfl⟩:=hrel;rcases Yj b l.length with g|A
  .obtain⟨y,rfl,n⟩:=q.j b g;rw[Nat.mul_one,show l.getD b []=l[b] by simp[g]]at n;have C:(0:Int)<=↑b:=by omega
   have s:(↑b:Int) < ↑l.length:=by omega
   by_cases i:l[b]=c
   .have j:U (l.contains c=true):=by show _=_;simp;rw[<-i];exact Yy g
    rw[i]at n;go_wp2;go_ret;exact⟨by rw[j.j];rfl,rfl⟩
   .have p:U (∀e∈l.take (b+1),e≠c):=by
     intro e d;rw[Yt g,Yn]at d;rcases d with d|d
     .exact m.j e d
     .simp at d;rw[d];exact i
    have z:(l[b]==c)=false:=by simpa using i
    generalize l[b]=E at *
    go_wp2;exact⟨⟨b+1,by go_num,g,p,trivial⟩,by simp[intOf];omega⟩
  .have t:b=l.length:=by omega
   subst t;have j:U (l.contains c=false):=by
    have:=m.j;rw[YG]at this;show _=_;simp;intro f;exact this c f rfl
   have s:¬((l.length:Int)<(l.length:Int)):=by omega
   have f:c ∉ l:=by have:=j.j;simpa using this
   have o:=Z f;go_wp2;go_ret;refine⟨lE ?_,rfl⟩;have f:=o.j;simp[f]
def lj(l:List (List UInt8))(a:List UInt8):Int:=if l.contains a then (l.idxOf a:Int)else -1
def Ii{v:Value}(n:pn a v l.length 4 λh=>.string ⟨(l.getD h []).toArray⟩)(E:l.length<=1000000000)(c:List UInt8) :
  Calls prog 90 #[v,.string ⟨c.toArray⟩] a λj x=>j=.returned (.int .i64 (lj l c))/\x=a:=by
 obtain⟨ad,y,rfl,n⟩:=n;have q:=Z n;go_in;go_wp2;go_loopw [5] (λh w=>∃b:Nat,h=.int .i64 b/\b<=l.length/\U (∀f∈l.take b,f≠c)/\w=a) (λh _=>l.length-(intOf h).toNat)
 case atStart=>exact⟨0,rfl,by omega,(by intro f d;simp at d),rfl⟩
 case round=>
  obtain⟨b,rfl,C,i,rfl⟩:=hrel;rcases Yj b l.length with e|B
  .obtain⟨z,rfl,o⟩:=q.j b e;rw[show l.getD b []=l[b] by simp[e]]at o;have D:(0:Int)<=↑b:=by omega
   have s:(↑b:Int) < ↑l.length:=by omega
   by_cases g:l[b]=c
   .have m:U (lj l c=b):=by
     show _=_;have r:l.contains c=true:=by simp;rw[<-g];exact Yy e
     unfold lj;rw[Y9 r];congr 1;have j:l=l.take b++c::l.drop (b+1):=by
      rw[<-g,<-Yk e,List.take_append_drop]
     rw[j,List.idxOf_append];have u:c ∉ l.take b:=λk=>i.j c k rfl;rw[Y2 u];simp;omega
    rw[g]at o;go_wp2;go_ret;exact⟨by rw[m.j];rfl,rfl⟩
   .have p:U (∀f∈l.take (b+1),f≠c):=by
     intro f d;rw[Yt e,Yn]at d;rcases d with d|d
     .exact i.j f d
     .simp at d;rw[d];exact g
    have A:(l[b]==c)=false:=by simpa using g
    generalize l[b]=F at *
    go_wp2;exact⟨⟨b+1,by go_num,e,p,trivial⟩,by simp[intOf];omega⟩
  .have t:b=l.length:=by omega
   subst t;have m:U (lj l c = -1):=by
    have:=i.j;rw[YG]at this;show _=_;unfold lj;rw[Y2];simp;intro k;exact this c k rfl
   have s:¬((l.length:Int)<(l.length:Int)):=by omega
   go_wp2;go_ret;exact⟨by rw[m.j];rfl,rfl⟩
end
end Go.Proofs.YtjdhaegijjednaaGreatDoor
namespace Go.Proofs.YtjdhaegijjednaaGreatDoor
open Go.RowKit
open Go.Lib (decDigits)
open Go.Proofs.Tryz
def sR{a:Nat}(b:a<10):decDigits a=[UInt8.ofNat (48+a)]:=by rw[Lib.decDigits,dif_pos b]
def Aq{a:Nat}(b:¬a<10):decDigits a=decDigits (a / 10)++decDigits (a % 10):=by
 rw[Lib.decDigits,dif_neg b,sR (Nat.mod_lt a (by omega))]
def sS:∀(b a:Nat),a<10 ^ (b+1)->(decDigits a).length<=b+1:=by
 intro b;induction b with
 |zero=>intro a c;rw[sR (by omega)];simp
 |succ b e=>
  intro a c;by_cases d:a<10
  .rw[sR d];simp
  .rw[Aq d,Yq,sR (Nat.mod_lt a (by omega))];have:=e (a / 10) (by rw[Nat.pow_succ]at c;omega);simp;omega
def hW(a b:List UInt8):(⟨a.toArray⟩:ByteArray)++(⟨b.toArray⟩:ByteArray)=⟨(a++b).toArray⟩:=by
 apply ByteArray.ext;simp[ByteArray.data_append]
def Ay:∀(a:Nat),a<=10000000000->∀(b:World),Calls prog 144 #[.int .i64 a] b λd s=>d=.returned (.string ⟨(decDigits a).toArray⟩)/\ai [] b s:=by
 intro a;induction a using Nat.strongRecOn with
 |_ a g=>
  intro A b;have D:¬((a:Int)<0):=by omega
  by_cases e:a<10
  .have c:U (decDigits a=[UInt8.ofNat (48+a)]):=sR e;have r:¬((9:Int)<(a:Int)):=by omega
   have x:IntKind.u8.wrap (48+(a:Int))=48+(a:Int):=by rw[IntKind.wrap_u8];omega
   have m:U (∀b:World,(convert 97 9 (.slice (some ⟨b.heap.size,0,none⟩) 1 1)).run prog (b.alloc (.cells #[.int .u8 (48+(a:Int))] 5))=.ok (.string ⟨#[UInt8.ofNat (48+a)]⟩) (b.alloc (.cells #[.int .u8 (48+(a:Int))] 5))):=by
    intro b;refine run_convert_bytes_back (b.alloc _) 97 9 5 ⟨b.heap.size,0,none⟩ 1 [UInt8.ofNat (48+a)] underlying97 underlying5 underlying9 λo f=>?_;have n:o=0:=by simp at f;omega
    subst n;have l:(⟨b.heap.size,0,none⟩:Addr).add 0=⟨b.heap.size,0,none⟩:=by unfold Addr.add;split<;>simp_all
    rw[l,aS (aK rfl) rfl];simp;omega
   have y:=m.j b;go_in;go_wp2;go_ret;refine⟨?_,(ah _ _).G _⟩;rw[c.j];simp
  .have c:U (decDigits a=decDigits (a / 10)++decDigits (a % 10)):=Aq e;have j:=Z (g (a / 10) (by omega) (by omega));have k:=Z (g (a % 10) (by omega) (by omega));have r:(9:Int)<(a:Int):=by omega
   have v:(a:Int).tdiv 10=((a / 10:Nat):Int):=by
    rw[Int.tdiv_eq_ediv_of_nonneg (by omega)];rfl
   have w:(a:Int).tmod 10=((a % 10:Nat):Int):=by
    rw[Int.tmod_eq_emod_of_nonneg (by omega)];rfl
   have B:=sS 10 (a / 10) (by omega);have C:=sS 10 (a % 10) (by omega);have z:¬(9223372036854775807<(decDigits (a / 10)).length+(decDigits (a % 10)).length):=by omega
   have f:=hW (decDigits (a / 10)) (decDigits (a % 10));generalize decDigits (a / 10)=t at *
   generalize decDigits (a % 10)=u at *
   go_in;go_wp2_with fail;refine(j.j _).mono ?_;rintro d E ⟨rfl,p⟩;have h:=Z p;go_wp2_with fail;refine(k.j _).mono ?_;rintro d F ⟨rfl,q⟩;have i:=Z (h.j.u q);go_wp2;go_ret;exact⟨by rw[c.j];rfl,i.j⟩
def ju(b:Int)(m:-10000000000<=b)(n:b<=10000000000)(d:World):Calls prog 144 #[.int .i64 b] d λe k=>e=.returned (.string ⟨(Lib.itoa b).toArray⟩)/\ai [] d k:=by
 by_cases f:b<0
 .obtain⟨a,rfl⟩:∃a:Nat,b = -(a:Int):=⟨b.natAbs,by omega⟩;have c:U (Lib.itoa (-(a:Int))=45::decDigits a):=by
   show _=_;unfold Lib.itoa;rw[Y9 f,Int.natAbs_neg,Int.natAbs_natCast]
  have i:=Z (Ay a (by omega));have l:IntKind.i64.wrap (a:Int)=a:=by rw[IntKind.wrap_i64];omega
  have q:=sS 10 a (by omega);have o:=hW [45] (decDigits a);generalize decDigits a=g at *
  go_in;go_wp2_with fail;refine(i.j _).mono ?_;rintro e r ⟨rfl,j⟩;have h:=Z j;have p:¬(9223372036854775807<1+g.length):=by omega
  go_wp2;go_ret;exact⟨by rw[c.j];rfl,h.j⟩
 .obtain⟨a,rfl⟩:∃a:Nat,b=(a:Int):=⟨b.toNat,by omega⟩;have c:Lib.itoa (a:Int)=decDigits a:=by
   unfold Lib.itoa;rw[Y2 f,Int.toNat_natCast]
  rw[c];exact Ay a (by omega) d
end Go.Proofs.YtjdhaegijjednaaGreatDoor
namespace Go.Proofs.YtjdhaegijjednaaGreatDoor
open Go.RowKit
open Go.MapKept
open Go.Proofs.Tryz
section
variable {A:Ad}{f:List Nat}{a:dF}{b:List aG}{e:List UInt8×Nat}{g:Value}{t:List (List UInt8)}{u c:World}{d h:St}
def IZ:(prog.info? 242).map (λa=>(a.zero,a.size,a.bytes))=some (some (.agg #[.string ⟨#[]⟩,.int .i64 0,.nilIface]),3,40):=by kernel_rfl
def je(c:ByteArray)(a:dF):PX (List aG×List (List UInt8)) Unit:=λb d=>match dZ c (aT a.q a.bx) b.2 d with
 |.ok (e,g,h)=>aw (lift (bV c [59])) (λ_=>cH ()) (b.1++[e],g) h
 |.error f=>.error f
def wh{c:ByteArray}{f:List (List UInt8)}{g:St}{e:aG}(h:dZ c (aT a.q a.bx) t d=.ok (e,f,g)) :
  je c a (b,t) d=aw (lift (bV c [59])) (λ_=>cH ()) (b++[e],f) g:=by simp only[je,h]
def yR{e:ByteArray}{c:Mar.a5}(f:dZ e (aT a.q a.bx) t d=.error c):je e a (b,t) d=.error c:=by simp only[je,f]
def wg(A:Ad)(i:ByteArray)(c:World)(a:dF)(e:List UInt8×Nat)(h:Nat)(f:List Nat)(b:List aG×List (List UInt8))(d:St)(u:World):Prop:=b.1.length=h/\∃g,jN A i c a e b.1 f b.2 g d u
def jN.dG{k:ByteArray}(j:jN A k c a e b f t g d u):∃ad h,g=.slice ad b.length h:=by
 rcases j.row.2 with⟨rfl,i⟩|⟨m,h,l,rfl,_⟩
 .exact⟨none,0,by rw[i]⟩
 .exact⟨_,_,rfl⟩
def jN.b1{k:ByteArray}(l:Rd A k h c)(j:jN A k c a e b f t g d u):cU (A.aC f) a.q:=by
 obtain⟨n,o,p,r⟩:=l.lt;have i:=j.aI a.q (by simp[dF.ct]);have m:=j.aQ _ i;refine⟨Yf _ i,?_,?_,?_,?_⟩<;>simp only[Ad.aC]<;>omega
def bM{a:Nat}{b:Value}{d:TypeId}(e:c.heap[a]? = some (.cells #[b] d)):c.cell? ⟨a,0,none⟩=some b:=by simp[World.cell?,e]
def Cw(a:aG):∀u∈ho a,u.oneCell'=true:=by
 intro u b;simp only[Yg,List.not_mem_nil,or_false]at b;rcases b with rfl|rfl|rfl
 .rfl
 .rfl
 .cases a.L<;>rfl
def Qx{J:ByteArray}{b2:Nat}(F:Rd A J h c)(h1:b2<1000)(k:wg A J c a e b2 f (b,t) d u) :
  Calls prog 196 #[.pointer (some ⟨a.db,0,none⟩),.pointer (some ⟨a.rb,0,none⟩),.pointer (some ⟨a.cb,0,none⟩)] u (jK A c (wg A J c a e (b2+1)) (je J a (b,t) d)):=by
 obtain⟨b0,g,i⟩:=k;dsimp only at b0 i;have d2:=Z b0;have g9:b.length<1000:=by omega
 clear b0;obtain⟨ad,s,rfl⟩:=i.dG;obtain⟨f3,e3,e9,f0,f1⟩:=info_parts IZ;have x:=Z i;obtain⟨h5,h6,h7,h0⟩:=dT i.aD;have j1:=bM i.vr;have j0:=bM i.vd;have f7:=bM i.vc;have a4:Below u.heap.size u u.drew:=(Below.refl _ _).drew;have d1:=Z (Au (cD A f) (xg (i.b1 F)) (i.rd.aA a4) (show (aT a.q a.bx).I t u.drew from i.bQ.O (bt [] a4) (by simp)) (i.cl.O (bt [] a4) (by simp)));have e8:=i.nd;simp only[dF.ct,List.nodup_cons,Yg,List.not_mem_nil,or_false,not_or]at e8;have i8:a.rb≠a.D:=by omega
 have i7:a.db≠a.D:=by omega
 have i6:a.cb≠a.D:=by omega
 have a1:∀j,ai [A.S,a.q] u.drew j->(∀r,(j.alloc r).ownsRow c.heap.size 242 3 (.slice ad b.length s) b.length (b.flatMap ho))/\
   j.heap[a.D]? = some (.cells #[.string ⟨e.1.toArray⟩,.int .i64 e.2,.slice ad b.length s] 353)/\c.heap.size<=j.heap.size/\
   j.heap[a.rb]? = some (.cells #[.pointer (some ⟨A.R,0,none⟩)] 145)/\j.heap[a.db]? = some (.cells #[.pointer (some ⟨a.D,0,none⟩)] 229)/\j.heap[a.cb]? = some (.cells #[(aT a.q a.bx).v] 341):=by
  intro j n;have w:=((ah _ u).a9).u n;obtain⟨h8,h9,i0,i1⟩:=F.lt;have E:∀m∈a.ct,m≠a.q->m ∉ [A.S,a.q]:=λm a2 h3=>by have:=i.aQ _ (i.aI m a2);simp;omega
  refine⟨λr=>aY (aY i.row w ?_) ((ah [] j).G r) (by simp),(w.K _ (aj i.aD) (E _ (by simp[dF.ct]) (by omega))).trans i.aD,Yz i.kp.a2 w.a2,
   (w.K _ (aj i.vr) (E _ (by simp[dF.ct]) (by omega))).trans i.vr,(w.K _ (aj i.vd) (E _ (by simp[dF.ct]) (by omega))).trans i.vd,(w.K _ (aj i.vc) (E _ (by simp[dF.ct]) (by omega))).trans i.vc⟩
  intro B a7;have b9:=i.ax B a7;have g7:=i.aQ _ b9.1;have g8:B≠a.q:=λz=>b9.2 (by rw[z];simp[dF.ct]);simp;omega
 have c9:=Z a1;have c1:∀j r o,ai [A.S,a.q] u.drew j->(j.alloc r).grownBy o (Value.slice ad b.length s).ownBlock->o.heap[a.D]? = some (.cells #[.string ⟨e.1.toArray⟩,.int .i64 e.2,.slice ad b.length s] 353)/\
   o.heap[a.rb]? = some (.cells #[.pointer (some ⟨A.R,0,none⟩)] 145)/\o.heap[a.db]? = some (.cells #[.pointer (some ⟨a.D,0,none⟩)] 229)/\o.heap[a.cb]? = some (.cells #[(aT a.q a.bx).v] 341):=by
  intro j r o n a7;obtain⟨_,d7,_,d8,d9,e0⟩:=a1 j n;have H:∀m∈a.ct,∀b3,j.heap[m]? = some b3->o.heap[m]? = some b3:=λm a2 b3 k=>by
   have e4:=aj k;exact(a7.block _ (by simp;omega) (λz=>(i.ax _ z.symm).2 a2)).trans ((((ah [] j).G r).K _ e4 (by simp)).trans k)
  exact⟨H _ (by simp[dF.ct]) _ d7,H _ (by simp[dF.ct]) _ d8,H _ (by simp[dF.ct]) _ d9,H _ (by simp[dF.ct]) _ e0⟩
 have d0:=Z c1;have e5:b.length+1<=maxLen:=by unfold maxLen;omega
 have e6:(b.length+1)*40<=140737488355328:=by omega
 have f2:(Value.agg #[.string ⟨#[]⟩,.int .i64 0,.nilIface]).cells.size=3:=by decide
 clear i a1 c1;dsimp only[cN.v,aT]at f7;go_in;go_wp2_with fail;refine cS (λK=>K.cell? ⟨a.db,0,none⟩=some (.pointer (some ⟨a.D,0,none⟩))/\K.cell? ⟨a.rb,0,none⟩=some (.pointer (some ⟨A.R,0,none⟩))/\K.cell? ⟨a.cb,0,none⟩=some (.func (.func 251) #[] #[.pointer (some ⟨a.bx,0,none⟩)])/\K.cell? ⟨a.D,2,none⟩=some (.slice ad b.length s)) (L:=12) (by kernel_rfl) rfl (by kernel_rfl) (by kernel_rfl) ?_ (λP=>?_)
 .go_keep
 refine bI [0,1,2,3,4,5,6] ?_;iterate 7 (refine bP (v:=?_) rfl (by kernel_rfl) (λ_ _ _ k=>k) (by rfl) (by assumption) ?_ ?_;rotate_left;focus (intro c a0;(try dsimp only at a0);go_simp;(try with_reducible rfl));(try simp only[aL,aM,List.set]))
 refine bJ ?_;refine ck 7 (by kernel_rfl) rfl λp l=>?_;(go_simp;go_at_call 191;refine d1.j.mono ?_;rintro z j ⟨n,⟨C,f6,j4,G,rfl,c7,c4⟩|⟨d6,G,m,a3,rfl,a6⟩⟩;rotate_left;exact aq (lN ((x.j.kp.ce (((ah _ u).a9).u n) (by intro i5 i;simp[aT]at i ⊢;rcases i with k|k;exact Y8 (Ya (Y8 k));exact Ya (by have:=x.j.aQ _ (x.j.aI a.q (by simp[dF.ct]));omega)))) x.j.kp (yR G) a3 a6);obtain⟨c5,a5,h4,O,N,M⟩:=c9.j j n;obtain⟨f8,f9,g0,e1⟩:=dT a5;have e7:=aj a5;have h2:=Nat.ne_of_lt e7;have f4:=bM O;have d4:=bM N;have b7:=bM M;dsimp only[cN.v,aT]at b7;have i4:=aj O;have i3:=aj N;have i2:=aj M;dsimp only[iT]);refine l.out _ _ ?_ (λP=>?_)
 .go_keep
 clear l p;(try simp only[aL,aM,List.set]);refine ck 8 (by kernel_rfl) rfl λp l=>?_;go_simp;refine l.out _ _ ?_ (λP=>?_)
 .go_keep
 clear l p;(try simp only[aL,aM,List.set]);refine ck 9 (by kernel_rfl) rfl λp l=>?_;(refine step_append_lies _ (by rfl) _ _ _ (by rfl) c.heap.size 242 f3 _ 3 40 underlying351 e3 e9 f0 f1 f2 (by omega) (.slice ad b.length s) b.length (b.flatMap ho) (by rfl) (c5 _) ⟨j.heap.size,0,none⟩ 1 1 (ho C) (by rfl) (by rfl) (World.news_of_block (cs:=(ho C).toArray) (t:=242) (fr:=(0,0)) (heap_alloc_new j _)) (Cw C) (by omega) e5 e6 (by simp;omega) (j.heap.size+1) (by simp) ?_;intro B g6 o c6 a8 c0 c3;obtain⟨c2,b6,b5,b4⟩:=d0.j j _ o n a8;obtain⟨g1,g2,g3,e2⟩:=dT c2;have f5:=bM b6;have d5:=bM b5;have b8:=bM b4;dsimp only[cN.v,aT]at b8);refine l.out _ _ ?_ (λP=>?_)
 .go_keep
 clear l p;(try simp only[aL,aM,List.set]);refine bI [10,11] ?_;iterate 2 (refine bP (v:=?_) rfl (by kernel_rfl) (λ_ _ _ k=>k) (by rfl) (by assumption) ?_ ?_;rotate_left;focus (intro c a0;(try dsimp only at a0);go_simp;(try with_reducible rfl));(try simp only[aL,aM,List.set]))
 refine bJ ?_;refine cQ (by kernel_rfl) rfl λp l=>?_;go_simp;refine l.out _ _ ?_;clear l p;(try simp only[aL,aM,List.set]);have y:=Z (Fv F x.j (((ah _ u).a9).u n) c7 c4 ((Below.refl j.heap.size j).alloc (Y4 _) _) c6 a8 (by simpa using c0) c3);have i9:=bM y.j.vr;clear n c7 c4 c6 a8 c0 c3 c2 b6 b5 b4 g1 g2 g3 e2 f5 d5 b8 a5 O N M f8 f9 g0 e1 c5 f4 d4 b7;go_wp2_with fail;refine(fh (cD A (B::f)) _ y.j.rd).mono ?_;rintro z j2 ⟨a9,⟨j3,g4,b1,rfl,c8⟩|⟨d6,b1,g5,a3,rfl,a6⟩⟩;rotate_left
 .exact aq (lN (y.j.kp.u (a9.af (by simp))) y.j.kp ((wh G).trans (bm (cj b1))) a3 a6)
 have d3:=Z (y.j.cm F a9 c8);clear a9 c8;go_wp2;go_end0;exact Y8 ⟨B::f,(b++[C],f6),g4,(wh G).trans (aF (aX b1)),rfl,by simp[d2.j],_,d3.j⟩
end
section
variable {a d:Ad}{w:World}{b e:St}{c:Type}
def JM:∀a:List aG,(a.flatMap ho).length=a.length*3:=by
 intro a;induction a with
 |nil=>rfl
 |cons c a b=>simp only[YD,Yq,YC,b];simp;omega
def jN.fin{l:ByteArray}{m:World}{d:dF}{c:List UInt8×Nat}{h:List aG}{u:List Nat}{E:List (List UInt8)}{t:Value}(k:Rd a l e w)(g:jN a l w d c h u E t b m)(I:h.length<=12)
  {s:Except Mar.a5 (ao×St)} (r:s=.ok (.struct c.1 c.2 h,b)):fY [a.R,a.S,a.N] a l w s (.returned (.pointer (some ⟨d.D,0,none⟩))) m:=by
 have p:∀i,w.heap.size<=i->i ∉ a.X:=λi F B=>by have:=k.bh _ B;omega
 have q:m.heap[d.D]? = some (.cells #[.string ⟨c.1.toArray⟩,.int .i64 c.2,t] 353)/\d.D ∉ a.X:=⟨g.aD,p _ (g.aQ _ (g.aI _ (by simp[dF.ct])))⟩;refine⟨g.kp,Y8 ⟨.struct c.1 c.2 h,b,d.D,?_⟩⟩;rcases g.row.2 with⟨rfl,v⟩|⟨j,n,o,rfl,x,y,z,G,H,A⟩
 .have:h=[]:=Yv.1 v;subst this;refine⟨[(d.D,.cells #[.string ⟨c.1.toArray⟩,.int .i64 c.2,.slice none 0 0] 353)],r,rfl,jq k.aI g.rd,⟨.slice none 0 0,Yb,Y8 ⟨rfl,rfl,rfl⟩⟩,?_⟩;intro C f;simp only[Yc]at f;subst f;exact q
 .refine⟨[(d.D,.cells #[.string ⟨c.1.toArray⟩,.int .i64 c.2,.slice (some ⟨j,0,none⟩) h.length n] 353),(j,.cells o 242)],r,rfl,jq k.aI g.rd,⟨_,Yb,Ya ⟨j,n,o,rfl,⟨z,by omega⟩,by simp,?_⟩⟩,?_⟩
  .rw[JM];exact A
  .intro C f;rcases Yg.1 f with rfl|f
   .exact q
   .simp only[Yc]at f;subst f;exact⟨y,p _ x⟩
def Qy(args:Array Value)(a:World):(callFunc 196 args).run prog a=.ok (.enter 196 args) a:=by
 kernel_rfl
def PI{g:ByteArray}(i:Rd a g e w)(c:dF)(l:List UInt8×Nat):uo (List aG×List (List UInt8)) a g w 12 where
 f:=196
 kw:=#[.pointer (some ⟨c.db,0,none⟩),.pointer (some ⟨c.rb,0,none⟩),.pointer (some ⟨c.cb,0,none⟩)]
 ba:=je g c
 J:=wg a g w c l
 gD:=Qy
 rd:=by rintro _ _ _ _ _ ⟨_,_,d⟩;exact d.rd
 kp:=by rintro _ _ _ _ _ ⟨_,_,d⟩;exact d.kp
 cm:=by rintro _ _ _ _ _ _ _ ⟨h,m,d⟩ j k;exact⟨h,m,d.cm i j k⟩
 call:=by
  intro o n p b q j h
  exact Qx i (by omega) h
def ih(d:PX c Unit)(e:c):PM c:=λb=>match d e b with
 |.ok (_,f,g)=>.ok (f,g)
 |.error a=>.error a
def oI{a:PX c Unit}{d e:c}{f:St}(g:a d b=.ok ((),e,f)):ih a d b=.ok (e,f):=by simp only[ih,g]
def tP{d:PX c Unit}{e:c}{a:Mar.a5}(f:d e b=.error a):ih d e b=.error a:=by simp only[ih,f]
def jf(a:ByteArray)(c:Nat):PM ao:=av (iE c) λ_=>av (gs a) λb=>av (ih (ew a 12 (je a ⟨0,0,0,0,0,0⟩)) ([],[])) λd=>av (bV a [59]) λ_=>bT (.struct b.1 b.2 d.1)
def LQ(g:eH d a){e:ByteArray}(c:Nat)(f:Rd d e b w) :
  Calls prog 190 #[.pointer (some ⟨a.R,0,none⟩),.int .i64 c] w (dD [a.R] d e w (iE c b) oS):=by
 have:=vt c f;rw[g.1]at this;exact this
def BX(c:eH d a){e:ByteArray}(f:Rd d e b w) :
  Calls prog 185 #[.pointer (some ⟨a.R,0,none⟩),.func (.func 186) #[.pointer (some ⟨a.R,0,none⟩)] #[]] w (dD [a.S,a.N] d e w (gs e b) fT):=by
 have:=tz f;rw[c.1,c.2.1,c.2.2.1]at this;exact this
def Rd.k5{h:ByteArray}{e:World}{q:Nat}(f:Rd a h b w)(g:Below w.heap.size w e)(j:w.heap.size<=q)(i:q<e.heap.size):Rd (a.a8 q) h b e:=by
 have c:=f.aA g;obtain⟨k,l,m,n⟩:=c.aI;refine⟨c.me,c.sc,(f.nm.a8 j).aA g,⟨Y5 _ k,Y5 _ l,Y5 _ m,Y5 _ n⟩,?_,c.pr,c.np,c.gl,c.e6,c.b0⟩;intro o d;rcases Yg.1 d with rfl|d
 .exact i
 .exact c.bh o d
def Qz{s:ByteArray}(z:Nat)(k:Rd a s b w) :
  Calls prog 122 #[.pointer (some ⟨a.R,0,none⟩),.int .i64 z] w (fY [a.R,a.S,a.N] a s w (jf s z b)):=by
 have e7:=jw;have d4:=k.ax (.cells #[.pointer (some ⟨a.R,0,none⟩)] 145);have G:=aK (w:=w) (o:=.cells #[.pointer (some ⟨a.R,0,none⟩)] 145) rfl;obtain⟨f2,f3,f4,f5⟩:=k.lt;have e3:=bM G;go_in;go_wp2_with fail;refine(LQ (eI a _) z d4).mono ?_;rintro u e2 ⟨C,⟨f9,g4,m,rfl,d5⟩|⟨x,m,n,h,rfl,i⟩⟩;rotate_left
 .exact aq (dy (((ah _ w).G _).u (C.af (by simp))) ((ah [] w).G _) (bl m) h i)
 have A:ai [a.R,a.S,a.N] w e2:=((ah _ w).G _).u (C.af (by simp));have H:=(C.K _ (aj G) (by simp;omega)).trans G;have e4:=bM H;go_wp2_with fail;refine(BX (eI a _) d5).mono ?_;rintro u c ⟨D,⟨d,b2,r,rfl,d6⟩|⟨x,r,n,h,rfl,i⟩⟩;rotate_left
 .exact aq (dy (A.u (D.af (by simp))) A ((au m).trans (bl r)) h i)
 have M:=A.u (D.af (M':=[a.R,a.S,a.N]) (by simp));have a8:=(D.K _ (aj H) (by simp;omega)).trans H;have d1:=aj a8;dsimp only[fT];go_wp2_with fail;obtain⟨g,l⟩:∃g,g=(c.alloc (.cells #[.string ⟨d.1.toArray⟩,.int .i64 d.2,.slice none 0 0] 353)).alloc (.cells #[.pointer (some ⟨c.heap.size,0,none⟩)] 229):=⟨_,rfl⟩;rw[<-l];have F:(c.alloc (.cells #[.string ⟨d.1.toArray⟩,.int .i64 d.2,.slice none 0 0] 353)).heap.size=c.heap.size+1:=by simp
 have a7:=(d6.ax (.cells #[.string ⟨d.1.toArray⟩,.int .i64 d.2,.slice none 0 0] 353)).ax (.cells #[.pointer (some ⟨c.heap.size,0,none⟩)] 229);rw[F,<-l]at a7;have e9:g.heap.size=c.heap.size+2:=by rw[l];simp
 have a3:ai [] c g:=by rw[l];exact((ah [] c).G _).G _
 have J:g.heap[c.heap.size]? = some (.cells #[.string ⟨d.1.toArray⟩,.int .i64 d.2,.slice none 0 0] 353):=by
  rw[l];exact(((ah [] _).G _).K _ (by rw[F];omega) (by simp)).trans (aK rfl)
 have a1:g.heap[c.heap.size+1]? = some (.cells #[.pointer (some ⟨c.heap.size,0,none⟩)] 229):=by
  rw[l];exact aK F.symm
 have a9:=(a3.K _ d1 (by simp)).trans a8;have c4:=M.u (a3.af (M':=[a.R,a.S,a.N]) (by simp));refine(ux _).mono ?_;rintro u e ⟨f,j,rfl,d3,e6,e8,L,a0,b1⟩;have d0:f<e.heap.size:=by
  obtain⟨_,_,_,E⟩:=id L;exact aj E
 have d2:=aj b1;have d7:=a7.k5 a0 d3 d0;have q:ai [] g e:=bt [] a0;have f1:=q.a2;have b0:=(q.K _ (aj a9) (by simp)).trans a9;have K:=(q.K _ (aj J) (by simp)).trans J;have a2:=(q.K _ (aj a1) (by simp)).trans a1;have c5:=c4.u (q.af (M':=[a.R,a.S,a.N]) (by simp));have p:=(ah [] e).G (.cells #[(aT f j).v] 341);have f0:=M.a2;have B:jN a s w ⟨c.heap.size,w.heap.size,c.heap.size+1,e.heap.size,f,j⟩ d [] [e.heap.size,f,c.heap.size+1,c.heap.size,w.heap.size] [] (.slice none 0 0) b2 (e.alloc (.cells #[(aT f j).v] 341)):=by
  have d9:=(p.K _ (aj b0) (by simp)).trans b0;have c2:=(p.K _ (aj K) (by simp)).trans K;have c7:=(p.K _ (aj a2) (by simp)).trans a2;refine⟨c5.G _,d7.ax _,?_,?_,?_,?_,?_,?_,c2,d9,c7,aK rfl,⟨rfl,Y8 ⟨rfl,rfl⟩⟩⟩
  .intro n c6;simp[dF.ct]at c6 ⊢;omega
  .simp[dF.ct];omega
  .intro g3 e0;simp at e0;omega
  .intro e5 c8;cases c8
  .have c3:dq f [] e:=L;exact c3.O p (by simp)
  .intro f6 a6;simp only[aT,Yc]at a6;subst a6;refine⟨(p.K _ d2 (by simp)).trans b1,?_⟩;simp[Ad.aC];refine⟨by omega,by omega,by omega,by omega,by omega,?_⟩;intro E;have:=k.bh _ E;omega
 have b7:=bM B.vr;have b9:=bM B.vd;have b4:=Z B;dsimp only[cN.v,aT]at b7 b9 ⊢;go_wp2_with fail;have b3:wg a s w ⟨c.heap.size,w.heap.size,c.heap.size+1,e.heap.size,f,j⟩ d 0 [e.heap.size,f,c.heap.size+1,c.heap.size,w.heap.size] ([],[]) b2 (e.alloc (.cells #[(aT f j).v] 341)):=⟨rfl,_,b4.j⟩;refine(wW 12 (PI k ⟨c.heap.size,w.heap.size,c.heap.size+1,e.heap.size,f,j⟩ d) (by omega) b3).mono ?_;rintro u g0 (⟨b6,⟨c1,f8⟩,g5,y,rfl,e1,a4,c9,f7,O⟩|⟨x,y,a4,n,h,rfl,i⟩);rotate_left
 .exact aq ⟨a4,Ya ⟨x,(au m).trans ((au r).trans (bl (tP y))),n,h,rfl,i⟩⟩
 have b8:=bM O.vr;have t:=Z O;dsimp only at b8;go_wp2_with fail;refine(fh (cD a b6) _ t.j.rd).mono ?_;rintro u g1 ⟨a5,⟨g2,g6,I,rfl,d8⟩|⟨x,I,n,h,rfl,i⟩⟩;rotate_left
 .exact aq (dy (t.j.kp.u (a5.af (by simp))) t.j.kp ((au m).trans ((au r).trans ((au (oI y)).trans (bl I)))) h i)
 have P:=t.j.cm k a5 d8;have c0:=bM P.vd;have b5:=Z P;dsimp only at c0;go_wp2;go_ret;exact b5.j.fin k (by have:c1.length=e1:=c9;omega) ((au m).trans ((au r).trans ((au (oI y)).trans (au I))))
end
def iC(a:Mar.bi):PM (List (List UInt8×Nat×Int)):=λb=>
 match az b.F a.text with
 |some (some (.enum _ _ c))=>.ok (c,b)
 |_=>.error ⟨7,a.w⟩
def DM(a:World):(Instr.typeAssert .nilIface 157 227 true).run prog a=.ok (.tuple #[.pointer none,.bool false]) a:=by kernel_rfl
def QL(a:Value)(b:World):(Instr.typeAssert (.iface 227 a) 157 227 true).run prog b=.ok (.tuple #[a,.bool true]) b:=by kernel_rfl
def QK(c:ao)(g:Value)(d:World)(e:∀b a v,c≠.enum b a v):(Instr.typeAssert (.iface (cE c) g) 157 227 true).run prog d=.ok (.tuple #[.pointer none,.bool false]) d:=by
 cases c with
 |enum b a v=>exact absurd rfl (e b a v)
 |typedef c=>kernel_rfl
 |const b a f=>kernel_rfl
 |struct b a f=>kernel_rfl
 |union b a j h=>kernel_rfl
 |prog b a k i=>kernel_rfl
def EM(d:Ad)(m:ByteArray)(c:World)(j:St)(i:Except Mar.a5 (List (List UInt8×Nat×Int)×St))(g:Ending)(a:World):Prop:=
 Below c.heap.size c a/\((∃l k h e f,i=.ok (h,j)/\g=.returned (.pointer (some ⟨e,0,none⟩))/\Rd d m j a/\dx f e (.enum l k h)/\bn d.X f a)\/(∃b,i=.error b/\fg c b.no b.w g a))
def HI{g:Ad}{A:ByteArray}{k:St}(a:Mar.bi){w:World}(r:Rd g A k w) :
  Calls prog 253 #[.pointer (some ⟨g.R,0,none⟩),cr a] w (EM g A w k (iC a k)):=by
 have m:=((Below.refl w.heap.size w).alloc (Y4 _) (.cells #[.int .i64 a.H,.string ⟨a.text.toArray⟩,.int .i64 a.n,.int .i64 a.w] 154)).drew;obtain⟨L,M,O,P,S,a0⟩:=r.am;have a1:=r.lt.1;have p:=r.aA m;have key:(∃v,(Instr.lookup 148 (.map (some g.N)) (.string ⟨a.text.toArray⟩) false).run prog ((w.alloc (.cells #[.int .i64 a.H,.string ⟨a.text.toArray⟩,.int .i64 a.n,.int .i64 a.w] 154)).drew)=.ok v ((w.alloc (.cells #[.int .i64 a.H,.string ⟨a.text.toArray⟩,.int .i64 a.n,.int .i64 a.w] 154)).drew)/\
    (∀n,(Instr.typeAssert v 157 227 true).run prog n=.ok (.tuple #[.pointer none,.bool false]) n)/\iC a k=.error ⟨7,a.w⟩)\/
   (∃(h:Nat) (c:List UInt8) (b:Nat) (j:List (List UInt8×Nat×Int)) (i:List (Nat×Obj)),(Instr.lookup 148 (.map (some g.N)) (.string ⟨a.text.toArray⟩) false).run prog ((w.alloc (.cells #[.int .i64 a.H,.string ⟨a.text.toArray⟩,.int .i64 a.n,.int .i64 a.w] 154)).drew)=.ok (.iface 227 (.pointer (some ⟨h,0,none⟩))) ((w.alloc (.cells #[.int .i64 a.H,.string ⟨a.text.toArray⟩,.int .i64 a.n,.int .i64 a.w] 154)).drew)/\
    bn g.X i ((w.alloc (.cells #[.int .i64 a.H,.string ⟨a.text.toArray⟩,.int .i64 a.n,.int .i64 a.w] 154)).drew)/\dx i h (.enum c b j)/\iC a k=.ok (j,k)):=by
  rcases vo p.nm a.text false with⟨d,e⟩|⟨I,v,i,d,F,y,e⟩
  .simp only[Ye,if_false]at e
   exact Y8 ⟨_,e,DM,by simp only[iC,d]⟩
  .simp only[Ye,if_false]at e
   cases I with
   |none=>
    have H:v=.nilIface:=y;subst H;exact Y8 ⟨_,e,DM,by simp only[iC,d]⟩
   |some o=>
    obtain⟨h,rfl,E⟩:=y;by_cases s:∃c b f,o=.enum c b f
    .obtain⟨c,b,f,rfl⟩:=s;exact Ya ⟨h,c,b,f,i,e,F,E,by simp only[iC,d]⟩
    .refine Y8 ⟨_,e,λn=>QK o _ n (λc b f u=>s ⟨c,b,f,u⟩),?_⟩;cases o with
     |enum c b f=>exact absurd ⟨c,b,f,rfl⟩ s
     |typedef o=>simp only[iC,d]
     |const c b j=>simp only[iC,d]
     |struct c b j=>simp only[iC,d]
     |union c b a2 K=>simp only[iC,d]
     |prog c b a3 f=>simp only[iC,d]
 rcases key with⟨v,e,G,l⟩|⟨h,c,b,j,i,e,z,x,l⟩
 .have q:=Z l;have t:=Z m;clear l p m;dsimp only[cr];go_in;go_wp2;go_region;go_wp2_with (go_at_call 70;refine(gO _ _ _).mono ?_;rintro u a4 ⟨rfl,rfl⟩);refine aq ⟨?_,Ya ⟨⟨7,a.w⟩,q.j,w.heap.size+1,by omega,rfl,aK (w:=w.alloc _) (by simp)⟩⟩;exact(((Below.refl w.heap.size w).alloc (Y4 _) _).alloc (by simp) _).drew
 .have q:=Z l;have G:=λJ=>QL J;have t:=Z p;have B:=Z m;have D:=Z z;have C:=Z x;clear l p m z x;dsimp only[cr];go_in;go_wp2;go_region;go_wp2;go_ret;exact⟨B.j,Y8 ⟨c,b,j,h,i,q.j,rfl,t.j,C.j,D.j⟩⟩
section
variable {i:Nat}{a:List (List UInt8×Nat×Int)}{b:Int}{c:World}
def jZ(a:List (List UInt8×Nat×Int))(b:Int):Bool:=a.any λc=>c.2.2==b
def II(c:i<a.length)(d:a[i].2.2=b):jZ a b=true:=by
 unfold jZ;rw[List.any_eq_true];exact⟨a[i],Yy c,by simp[d]⟩
def IJ(d:∀i (c:i<a.length),a[i].2.2≠b):jZ a b=false:=by
 unfold jZ;rw[List.any_eq_false];intro f e;obtain⟨i,c,rfl⟩:=List.getElem_of_mem e;simp;exact d i c
def CP{e:Nat}{b:Array Value}{g:TypeId}{a:List Value}(j:c.heap[e]? = some (.cells b g))(k:b.toList.take a.length=a)(f:i<a.length):c.cell? ⟨e,i,none⟩=some a[i]:=by
 have h:b.toList[i]? = some a[i]:=by
  have d:(b.toList.take a.length)[i]? = some a[i]:=by rw[k];simp[f]
  rw[List.getElem?_take_of_lt f]at d;exact d
 have d:b[i]? = some a[i]:=by simpa using h
 simp[World.cell?,j,d]
def EV{y:List Nat}{o:List (Nat×Obj)}{n z:Nat}{P:List UInt8}(b:Int)(G:dx o n (.enum P z a))(j:bn y o c) :
  Calls prog 254 #[.pointer (some ⟨n,0,none⟩),.int .i64 b] c λA R=>A=.returned (.bool (jZ a b))/\R=c:=by
 obtain⟨b6,t,E,a8,N,F⟩:=G;obtain⟨b2,b3,b4,_⟩:=dT (j _ E).1;rcases N with⟨rfl,C,_⟩|⟨B,a0,a1,rfl,⟨a2,a9⟩,I,O⟩
 .have L:a=[]:=Yv.1 C;subst L;go_in;go_wp2;go_loopw [12] (λi m=>i=.int .i64 0/\m=c) (λ_ _=>0)
  case atStart=>exact⟨rfl,rfl⟩
  case round=>
   obtain⟨rfl,rfl⟩:=hrel;go_wp2;go_ret;exact⟨rfl,rfl⟩
 .have J:=(j _ I).1;have M:∀i (f:i<a.length),∃l:Nat,c.cell? ⟨B,i,none⟩=some (.pointer (some ⟨l,0,none⟩))/\c.cell? ⟨l,2,none⟩=some (.int .i64 a[i].2.2):=by
   intro i f;have q:i<t.length:=by omega
   have p:=CP J O (i:=i) (by simpa using q);rw[List.getElem_map]at p;have D:=(j _ (F i f q)).1;obtain⟨_,_,S,_⟩:=dT D;exact⟨t[i],p,S⟩
  have w:=Z M;go_in;go_wp2;go_loopw [12,6] (λi b5 m=>∃d:Nat,i=.int .i64 d/\m=c/\d<=a.length/\∀e (k:e<a.length),e<d->a[e].2.2≠b) (λi _ _=>a.length-(intOf i).toNat)
  case atStart=>exact⟨0,rfl,rfl,by omega,by intro e k h;omega⟩
  case round=>
   obtain⟨d,rfl,rfl,a7,s⟩:=hrel;rcases Yj d a.length with r|a3
   .obtain⟨l,b0,b1⟩:=w.j d r;have a4:(0:Int)<=↑d:=by omega
    have a5:(↑d:Int) < ↑a.length:=by omega
    have v:=Z s;by_cases g:a[d].2.2=b
    .have H:(a[d].2.2==b)=true:=by simp[g]
     have x:=Z (II r g);go_wp2;go_ret;exact⟨by rw[x.j];rfl,rfl⟩
    .have H:(a[d].2.2==b)=false:=by simpa using g
     go_wp2;refine⟨⟨d+1,by go_num,trivial,by omega,?_⟩,by simp[intOf];omega⟩;intro e k a6;rcases Yj e d with h|h
     .exact v.j e k h
     .have:e=d:=by omega
      subst this;exact g
   .have K:d=a.length:=by omega
    subst K;have u:=Z (IJ λi f=>s i f f);go_wp2;go_ret;exact⟨by rw[u.j];rfl,rfl⟩
end
section
variable {c:Ad}{d:Nat}{e:Except Mar.a5 ((Ty×(Int->Bool))×St)}{w b:World}{a:Mar.bi}
def jc(c:ByteArray)(a:Mar.bi):PM (Ty×(Int->Bool)):=
 if((a.H:Int)==1)then av (iC a) λb=>bT (.named a.text a.w,jZ b)
 else if a.text==[105,110,116]then bT (.plain 0,dj (-2147483648) 2147483647)
 else if a.text==[117,110,115,105,103,110,101,100]then av (da c [105,110,116]) λ_=>bT (.plain 1,dj 0 4294967295)
 else if a.text==[98,111,111,108]then bT (.plain 4,dj 0 1)
 else fl 3 a.w
def nG(a:ByteArray):PM (Ty×(Int->Bool)):=av (next a) (jc a)
def Dm{d:ByteArray}(b:((a.H:Int)==1)=true):jc d a=av (iC a) λc=>bT (.named a.text a.w,jZ c):=by unfold jc;rw[Y9 b]
def Pw{d:ByteArray}(b:((a.H:Int)==1)=false)(c:(a.text==[105,110,116])=true):jc d a=bT (.plain 0,dj (-2147483648) 2147483647):=by unfold jc;simp only[b,c,Ye,if_false,if_true]
def Dn{b:ByteArray}(c:((a.H:Int)==1)=false)(d:(a.text==[105,110,116])=false)(e:(a.text==[117,110,115,105,103,110,101,100])=true) :
  jc b a=av (da b [105,110,116]) λ_=>bT (.plain 1,dj 0 4294967295):=by unfold jc;simp only[c,d,e,Ye,if_false,if_true]
def Px{f:ByteArray}(b:((a.H:Int)==1)=false)(c:(a.text==[105,110,116])=false)(d:(a.text==[117,110,115,105,103,110,101,100])=false)(e:(a.text==[98,111,111,108])=true) :
  jc f a=bT (.plain 4,dj 0 1):=by unfold jc;simp only[b,c,d,e,Ye,if_false,if_true]
def Py{f:ByteArray}(b:((a.H:Int)==1)=false)(c:(a.text==[105,110,116])=false)(d:(a.text==[117,110,115,105,103,110,101,100])=false)(e:(a.text==[98,111,111,108])=false) :
  jc f a=fl 3 a.w:=by unfold jc;simp only[b,c,d,e,Ye,if_false]
def ui(c:Ad)(h:ByteArray)(w:World)(e:Except Mar.a5 ((Ty×(Int->Bool))×St))(f:Ending)(b:World):Prop:=
 ai [c.S] w b/\((∃d g v,e=.ok (d,g)/\f=.returned (.tuple #[bX d.1,v])/\Rd c h g b/\gA c.X v d.2 b)\/(∃a,e=.error a/\fg w a.no a.w f b))
def uj{d:ByteArray}{ty:Ty}{p:Int->Bool}{a:St}{v:Value}
  (h:ai [c.S] w b) (i:e=.ok ((ty,p),a)) (f:Rd c d a b) (g:gA c.X v p b):ui c d w e (.returned (.tuple #[bX ty,v])) b:=⟨h,Y8 ⟨(ty,p),a,v,i,rfl,f,g⟩⟩
def uk{M':List Nat}{k:ByteArray}{w1:World}{f:Mar.a5}
  (h:ai [c.S] w b) (i:ai M' w w1) (j:e=.error f) (a:w1.heap.size<=d) (g:b.heap[d]? = some (.cells #[.int .i64 f.no,.int .i64 f.w] 179)) :
  ui c k w e (.panicked [{ v:=.iface 143 (.pointer (some ⟨d,0,none⟩)),recovered:=false }]) b:=⟨h,Ya ⟨f,j,d,Yz i.a2 a,rfl,g⟩⟩
def EW(args:Array Value)(a:World):(callFunc 254 args).run prog a=.ok (.enter 254 args) a:=by kernel_rfl
def In{c:List Nat}{a:List (Nat×Obj)}{f:Nat}{k:List UInt8}{e:List (List UInt8×Nat×Int)}(h:dx a d (.enum k f e))(i:bn c a w) :
  gA c (.func (.func 254) #[.pointer (some ⟨d,0,none⟩)] #[]) (jZ e) w:=by
 refine⟨a,_,_,_,rfl,i,EW,λl g j=>?_⟩;refine(EV j h g).mono ?_;rintro m b ⟨rfl,rfl⟩;exact⟨rfl,Below.refl _ _⟩
def jT{c e a b:Value}{f:TypeId}(g:w.heap[d]? = some (.cells #[c,e,a,b] f)) :
  w.cell? ⟨d,0,none⟩=some c/\w.cell? ⟨d,1,none⟩=some e/\w.cell? ⟨d,2,none⟩=some a/\w.cell? ⟨d,3,none⟩=some b:=by
 refine⟨?_,?_,?_,?_⟩<;>simp[World.cell?,g]
def OO{y:ByteArray}{G:St}(z:Rd c y G w) :
  Calls prog 197 #[.pointer (some ⟨c.R,0,none⟩)] w (ui c y w (nG y G)):=by
 have b4:=jw;obtain⟨a8,a9,b0,b1,b2,b3⟩:=z.am;have H:=Z (qf z);go_in;go_wp2_with fail;refine H.j.mono ?_;rintro j h ⟨B,⟨a,c9,u,rfl,D⟩|⟨r,u,d,k,rfl,l⟩⟩;rotate_left
 .exact aq (uk B (ah [] _) (bl u) k l)
 have f:=Z B;have g:=Z u;have i:=Z (D.aA ((Below.refl _ _).alloc (Y4 _) (.cells #[.int .i64 a.H,.string ⟨a.text.toArray⟩,.int .i64 a.n,.int .i64 a.w] 154)));have P:=aK (w:=h) (o:=.cells #[.int .i64 a.H,.string ⟨a.text.toArray⟩,.int .i64 a.n,.int .i64 a.w] 154) rfl;have q:=Z P;have a4:=Z D.bh;dsimp only[cr];go_wp2_with (first
  |(go_at_call 70;refine(gO _ _ _).mono ?_;rintro j b ⟨rfl,rfl⟩)
  |(go_at_call 189;refine(qB _ _ _).mono ?_;rintro j a2 ⟨c1,rfl,e,s⟩)
  |(go_at_call 192;refine(sG _ i.j).mono ?_;rintro j a1 ⟨C,⟨a3,d0,v,rfl,E⟩|⟨r,v,d,k,rfl,l⟩⟩))
 .have A:((a.H:Int)==1)=true:=‹_›;obtain⟨c5,c6,c7,c8⟩:=jT q.j;have O:=aj q.j;go_region_held2 (λb=>b.cell? ⟨h.heap.size,0,none⟩=some (.int .i64 a.H)/\b.cell? ⟨h.heap.size,1,none⟩=some (.string ⟨a.text.toArray⟩)/\b.cell? ⟨h.heap.size,2,none⟩=some (.int .i64 a.n)/\b.cell? ⟨h.heap.size,3,none⟩=some (.int .i64 a.w)) (go_keep)
   (first
    |(go_at_call 243;refine(zf a _).mono ?_;rintro j a1 ⟨rfl,m⟩;have t:=(m.block _ O).trans q.j;obtain⟨c2,c3,a3,c4⟩:=jT t;have N:=aj t;have J:=Z ((i.j.aA (Below.refl _ _).drew).aA m);have p:=Z ((f.j.G _).a9.u (bt _ m));clear m)
    |(go_at_call 253;refine(HI a J.j).mono ?_;rintro j a2 ⟨e,⟨c0,a5,b5,a6,a7,x,rfl,F,L,M⟩|⟨r,x,d,k,rfl,l⟩⟩;rotate_left;exact aq (uk (p.j.u (bt _ e)) p.j ((au g.j).trans (by rw[Dm A];exact bl x)) k l);have a0:=(e.block _ N).trans t;obtain⟨b6,b7,b8,b9⟩:=jT a0;have I:=Z (p.j.u (bt _ e));have K:=Z F;clear e F))
  all_goals
   go_wp2
   go_ret2
   exact uj (ty:=.named a.text a.w) I.j ((au g.j).trans (by rw[Dm A];exact au x)) K.j (In L M)
 .go_ret2;exact uj (ty:=.plain 0) ((f.j.G _).u (bt _ e)) ((au g.j).trans (by rw[Pw ‹_› ‹_›];rfl)) (i.j.aA e) (s _ i.j.bh)
 .go_ret2;exact uj (ty:=.plain 1) (((f.j.G _).u C).u (bt _ e)) ((au g.j).trans (by rw[Dn ‹_› ‹_› ‹_›];exact au v)) (E.aA e) (s _ E.bh)
 .exact aq (uk ((f.j.G _).u C) (f.j.G _) ((au g.j).trans (by rw[Dn ‹_› ‹_› ‹_›];exact bl v)) k l)
 .go_ret2;exact uj (ty:=.plain 4) ((f.j.G _).u (bt _ e)) ((au g.j).trans (by rw[Px ‹_› ‹_› ‹_› ‹_›];rfl)) (i.j.aA e) (s _ i.j.bh)
 .exact aq (uk (M':=[c.S]) (w1:=h) (f:=⟨3,a.w⟩) ((f.j.G _).G _) f.j ((au g.j).trans (by rw[Py ‹_› ‹_› ‹_› ‹_›];rfl)) (by omega) (aK (by simp)))
end
section
variable {A:Ad}{c:List Nat}{cs:List Int}{g a:Nat}{l:List (Int×Int)}{p:Int->Bool}{d:Value}{u h b:World}{e i j:St}
def Be:(prog.info? 2).map (λa=>(a.zero,a.size,a.bytes))=some (some (.int .i64 0),1,8):=by kernel_rfl
def hn(a:ByteArray)(p:Int->Bool):Nat->List Int->PX (List (Int×Int)) (List Int)
 |0,_=>lift (fl 0 0)
 |k+1,cs=>aw (lift (bV a [99,97,115,101])) λc l=>aw (lift (ej l.length 12 c.w)) (λ_=>aw (fU a p) λb=>aw (lift (bV a [58])) λ_=>
   aw (lift (gf a [99,97,115,101])) λd=>if d then hn a p k (cs++[b])else cH (cs++[b])) l
def cases(a:ByteArray)(p:Int->Bool):PX (List (Int×Int)) (List Int):=hn a p 13 []
def gA.bZ{a:List Nat}{v:Value}{b:Option Nat}(i:gA a v p u)(q:u.grownBy h b)(r:∀c,b=some c->c∈a)(o:b=some g\/g=u.heap.size):gA (g::a) v p h:=by
 obtain⟨e,f,w,t,j,k,l,m⟩:=i;exact⟨e,f,w,t,j,k.bZ q r o,l,λd n=>m d (n.cc λ_ s=>Y5 _ s)⟩
structure ip(A:Ad)(text:ByteArray)(b:World)(a:Nat)(v:Value)(p:Int->Bool)(cs:List Int)(c:List Nat)(l:List (Int×Int))(d:Value)(e:St)(u:World):Prop where
 kp:ai [A.S,a] b u
 rd:Rd (A.aC c) text e u
 aQ:∀y∈c,b.heap.size<=y
 ax:∀g,d.ownBlock=some g->g∈c
 b2:cO a l u
 g4:gA (A.aC c).X v p u
 row:u.ownsRow b.heap.size 2 1 d cs.length (cs.map λn=>Value.int .i64 n)
def ip.dG{j:ByteArray}{v:Value}(i:ip A j b a v p cs c l d e u):∃ad f,d=.slice ad cs.length f:=by
 rcases i.row.2 with⟨rfl,h⟩|⟨g,f,k,rfl,_⟩
 .exact⟨none,0,by rw[h]⟩
 .exact⟨_,_,rfl⟩
def ip.b1{g:ByteArray}{v:Value}(f:cU A a)(_m:ip A g b a v p cs c l d e u):cU (A.aC c) a:=
 ⟨Ym _ f.1,f.2.1,f.2.2.1,f.2.2.2.1,f.2.2.2.2⟩
def ip.cm{m:ByteArray}{v:Value}(q:Rd A m j b)(s:cU A a)(f:ip A m b a v p cs c l d e u)(k:ai [A.S] u h)(n:Rd (A.aC c) m i h) :
  ip A m b a v p cs c l d i h:=by
 obtain⟨t,w,x,y⟩:=q.lt;refine⟨f.kp.u (k.af (by simp)),n,f.aQ,f.ax,f.b2.O k (by simp;exact s.2.2.1),f.g4.O k (by intro z o;simp only[Yc]at o;subst o;exact n.aI.2.1),aY f.row k ?_⟩;intro g r;have:=f.aQ _ (f.ax g r);simp;omega
def ip.aA{i:ByteArray}{v:Value}(m:ip A i b a v p cs c l d e u)(g:Below u.heap.size u h):ip A i b a v p cs c l d e h:=by
 have f:=bt [] g;exact⟨m.kp.u (f.af (by simp)),m.rd.aA g,m.aQ,m.ax,m.b2.O f (by simp),m.g4.O f (by simp),aY m.row f (by simp)⟩
def EC{q:ByteArray}{m r s:World}{B:Nat}{v:Value}{L:List (Int×Int)}{n:Int}(D:Rd A q j b)(I:cU A a)
  (k:ip A q b a v p cs c l d e u) (F:ai [A.S,a] u m) (J:Rd (A.aC c) q i m) (O:cO a L m) (h:Below m.heap.size m r)
  (H:s.ownsRow b.heap.size 2 1 (.slice (some ⟨g,0,none⟩) (cs.length+1) B) (cs.length+1) ((cs.map λn=>Value.int .i64 n)++[.int .i64 n]))
  (t:r.grownBy s d.ownBlock) (E:d.ownBlock=some g\/g=r.heap.size) (N:g<s.heap.size) :
  ip A q b a v p (cs++[n]) (g::c) L (.slice (some ⟨g,0,none⟩) (cs.length+1) B) i s:=by
 obtain⟨P,_⟩:=gK H (g:=g) rfl;have o:∀f,d.ownBlock=some f->b.heap.size<=f/\f∈(A.aC c).X:=λf h=>⟨k.aQ _ (k.ax f h),Yf _ (k.ax f h)⟩;have G:=eL t;have w:ai [] m r:=bt _ h;have a1:=D.bh _ I.1;have M:∀z∈[A.S,a],z∈(A.aC c).X:=by
  intro a2 K;simp at K;rcases K with rfl|rfl
  .exact J.aI.2.1
  .exact Ym _ I.1
 refine⟨?_,qS D (cD A c) (J.aA h) t o E N,?_,?_,?_,?_,?_⟩
 .refine((k.kp.u F).ce w (by simp)).ce G ?_;intro z x;exact Ya (o z (by simpa using x)).1
 .intro R y;rcases Yg.1 y with rfl|y
  .exact P
  .exact k.aQ R y
 .intro a0 C;simp only[Value.ownBlock,Yu]at C;subst C;exact Yb
 .refine(O.O w (by simp)).O G ?_;intro x;have:=(o a (by simpa using x)).1;omega
 .exact((k.g4.O F M).O w (by simp)).bZ t (λf h=>(o f h).2) E
 .simpa using H
def mJ(A:Ad)(l:ByteArray)(b:World)(a:Nat)(j:Except Mar.a5 (List Int×List (Int×Int)×St))(g:Ending)(c:World):Prop:=
 ai [A.S,a] b c/\((∃cs h i d f,j=.ok (cs,h,i)/\g=.returned d/\Rd A l i c/\cO a h c/\fy f 2 d cs.length (cs.map λk=>Value.int .i64 k)/\bn A.X f c)\/(∃e,j=.error e/\fg b e.no e.w g c))
def ss{M':List Nat}{l:ByteArray}{w1 d:World}{e:Except Mar.a5 (List Int×List (Int×Int)×St)}{f:Mar.a5}{c:Nat}
  (i:ai [A.S,a] b d) (j:ai M' b w1) (k:e=.error f) (g:w1.heap.size<=c) (h:d.heap[c]? = some (.cells #[.int .i64 f.no,.int .i64 f.w] 179)) :
  mJ A l b a e (.panicked [{ v:=.iface 143 (.pointer (some ⟨c,0,none⟩)),recovered:=false }]) d:=⟨i,Ya ⟨f,k,c,Yz j.a2 g,rfl,h⟩⟩
def ip.fin{m:ByteArray}{v:Value}(k:Rd A m j b)(f:ip A m b a v p cs c l d e u)(F:cs.length<=12)
  {r:Except Mar.a5 (List Int×List (Int×Int)×St)} (q:r=.ok (cs,l,e)):mJ A m b a r (.returned d) u:=by
 have t:∀i,b.heap.size<=i->i ∉ A.X:=λi C B=>by have:=k.bh _ B;omega
 refine⟨f.kp,Y8 ⟨cs,l,e,d,?_⟩⟩;rcases f.row.2 with⟨rfl,w⟩|⟨g,s,n,rfl,x,y,z,D,E,o⟩
 .have:cs=[]:=Yv.1 w;subst this;exact⟨[],q,rfl,jq k.aI f.rd,f.b2,Y8 ⟨rfl,rfl,rfl⟩,by intro p h;cases h⟩
 .refine⟨[(g,.cells n 2)],q,rfl,jq k.aI f.rd,f.b2,Ya ⟨g,s,n,rfl,⟨z,by omega⟩,by simp,?_⟩,?_⟩
  .rw[Nat.mul_one]at o;rw[YU];exact o
  .intro p h;simp only[Yc]at h;subst h;exact⟨y,t _ x⟩
end
section
variable {cs:List Int}{b:List (Int×Int)}{a:Int->Bool}{c:Nat}{d:World}{g:Mar.bi}{e f:St}
def uW:Value->Nat
 |.slice _ a _=>a
 |_=>0
def xe(b:ByteArray)(a:Int->Bool)(d:Nat)(cs:List Int):PX (List (Int×Int)) (List Int):=aw (fU b a) λc=>aw (lift (bV b [58])) λ_=>
   aw (lift (gf b [99,97,115,101])) λe=>if e then hn b a d (cs++[c])else cH (cs++[c])
def xa{d:ByteArray}{g:Nat}{c:Mar.a5}(f:bV d [99,97,115,101] e=.error c):hn d a (g+1) cs b e=.error c:=by
 simp only[hn];exact bm (cj f)
def xb{c:ByteArray}{i:Nat}(d:bV c [99,97,115,101] e=.ok (g,f))(h:12<=b.length):hn c a (i+1) cs b e=.error ⟨5,g.w⟩:=by
 simp only[hn];exact(aF (aX d)).trans (bm (cj (show ej b.length 12 g.w f=_ from Y9 h)))
def xc{c:ByteArray}{d:Nat}(h:bV c [99,97,115,101] e=.ok (g,f))(i:¬12<=b.length):hn c a (d+1) cs b e=xe c a d cs b f:=by
 simp only[hn];exact(aF (aX h)).trans (aF (aX (show ej b.length 12 g.w f=_ from Y2 i)))
def yr{j:ByteArray}{i:List (Int×Int)}{m:St}{l:Int}(d:fU j a b e=.ok (l,i,m)):i.length=b.length+1:=by
 unfold fU at d;cases h:hM j a e with
 |error k=>rw[bm (cj h)]at d;cases d
 |ok c=>
  obtain⟨c,f⟩:=c;rw[aF (aX h)]at d;cases g:kE c.1 c.2 b ⟨6,c.2⟩with
  |error k=>rw[bm (rS g)]at d;cases d
  |ok n=>
   rw[aF (rT g)]at d;simp only[cH]at d;cases d
   unfold kE at g;split at g<;>cases g;simp
def Cr(f:cO c b d)(e:TypeId):(Builtin.len_ #[149] e #[.map (some c)]).run prog d=.ok (.int .i64 b.length) d:=by
 have g:d.heap[c]? = some (.map (b.mapIdx λh a=>(⟨.int .i64 a.1,.int .i64 a.2,h⟩:MapEntry)).toArray b.length):=f;have:=run_len_map (P:=prog) d 149 e c _ _ (by kernel_rfl) g;rw[this];simp[goInt]
def Gg{g:Ad}{f:ByteArray}{v:Value}{i:List (Int×Int)}(n:Rd g f e d)(b3:gA g.X v a d)(s:cU g c)(c0:cO c i d) :
  Calls prog 199 #[.pointer (some ⟨g.R,0,none⟩),.map (some c),v] d (mJ g f d c (cases f a i e)):=by
 obtain⟨d2,b5,c8,c9,d0⟩:=info_parts Be;have a8:U (ip g f d c v a [] [] i (.slice none 0 0) e d):=⟨ah _ _,n,by simp,(by intro r J;cases J),c0,b3,⟨rfl,Y8 ⟨rfl,rfl⟩⟩⟩;go_in;go_wp2;go_loopw [7,8] (λM q d3=>∃(F:Bool) (cs:List Int) (o:List Nat) (b:List (Int×Int)) (G:St),q=.bool F/\cs.length<=12/\cs.length<=b.length/\U (ip g f d c v a cs o b M G d3)/\
   U (cases f a i e=(if F then hn f a (13-cs.length) cs else cH cs) b G)) (λM _ _=>13-uW M)
 case atStart=>exact⟨true,[],[],i,e,rfl,by simp,by simp,a8,rfl⟩
 case round=>
  obtain⟨F,cs,o,b,G,rfl,b8,a2,p,N⟩:=hrel;obtain⟨ad,O,rfl⟩:=p.j.dG;cases F with
  |false=>
   go_wp2;go_ret;exact p.j.fin n b8 N.j
  |true=>
   have H:U (cases f a i e=hn f a ((12-cs.length)+1) cs b G):=by
    have I:=N.j;rw[show 13-cs.length=(12-cs.length)+1 by omega]at I;exact I
   go_wp2_with fail;refine(fh (cD g o) _ p.j.rd).mono ?_;rintro w d5 ⟨a0,⟨x,d7,D,rfl,c5⟩|⟨B,D,q,k,rfl,l⟩⟩;rotate_left
   .exact(show bodyPost prog Tryz.f199 (mJ g f d c (cases f a i e)) (Exit.panic _) _ d5 from aq (ss (p.j.kp.u (a0.af (by simp))) p.j.kp (H.j.trans (xa D)) k l))
   have h:=Z ((p.j.cm n s a0 c5).aA ((Below.refl _ _).alloc (Y4 _) (.cells #[.int .i64 x.H,.string ⟨x.text.toArray⟩,.int .i64 x.n,.int .i64 x.w] 154)));have e2:=Cr h.j.b2;dsimp only[cr];go_wp2_with fail;by_cases P:12<=b.length
   .refine(qm _ _ _ _ (by omega)).mono ?_;rintro w a4 ⟨⟨q,k,rfl,l⟩,b2⟩;exact(show bodyPost prog Tryz.f199 (mJ g f d c (cases f a i e)) (Exit.panic _) _ a4 from aq (ss (f:=⟨5,x.w⟩) (h.j.kp.u (bt _ b2)) h.j.kp (H.j.trans (xb D P)) k l))
   refine(qn _ _ _ _ (by omega)).mono ?_;rintro w a4 ⟨rfl,rfl⟩;have y:U (cases f a i e=xe f a (12-cs.length) cs b d7):=H.j.trans (xc D P);go_wp2_with fail;refine(Ck (cD g o) h.j.rd h.j.g4 (h.j.b1 s) h.j.b2).mono ?_;rintro w m ⟨C,⟨j,a3,e6,u,rfl,c6,c1⟩|⟨B,u,q,k,rfl,l⟩⟩;rotate_left
   .exact(show bodyPost prog Tryz.f199 (mJ g f d c (cases f a i e)) (Exit.panic _) _ m from aq (ss (h.j.kp.u C) h.j.kp (y.j.trans (bm u)) k l))
   dsimp only[ia];have c2:∀L,(m.alloc L).ownsRow d.heap.size 2 1 (.slice ad cs.length O) cs.length (cs.map λj=>Value.int .i64 j):=by
    intro L;refine aY (aY h.j.row C ?_) ((ah [] m).G L) (by simp);intro r J;have I:=h.j.aQ _ (h.j.ax r J);have d9:=n.bh _ s.1;have e0:=n.lt.2.1;simp;omega
   have e3:d.heap.size<=m.heap.size:=Yz h.j.kp.a2 C.a2;have b6:cs.length+1<=maxLen:=by unfold maxLen;omega
   have b7:(cs.length+1)*8<=140737488355328:=by omega
   have d1:(Value.int .i64 0).cells.size=1:=rfl;have e1:=yr u;have b0:=Z a2;go_wp2_with (first
    |(at_builtin;refine wpList_append_lies _ (by rfl) _ _ _ (by rfl) d.heap.size 2 d2 _ 1 8 underlying245 b5 c8 c9 d0 d1 (by omega) (.slice ad cs.length O) cs.length (cs.map λj=>Value.int .i64 j) (by rfl) (c2 _) ⟨m.heap.size,0,none⟩ 1 1 [.int .i64 j] (by rfl) (by rfl) (World.news_of_block (cs:=#[.int .i64 j]) (t:=2) (fr:=(0,0)) (heap_alloc_new m _)) (by simp[Value.oneCell']) (by omega) b6 b7 (by simp;omega) (m.heap.size+1) (by simp) ?_;intro r d8 e4 c3 b4 b1 b9))
   have z:=Z (EC n s h.j C c6 c1 ((Below.refl m.heap.size m).alloc (Y4 _) _) c3 b4 (by simpa using b1) b9);refine(fh (cD g (r::o)) _ z.j.rd).mono ?_;rintro w d6 ⟨a1,⟨e5,e7,E,rfl,c7⟩|⟨B,E,q,k,rfl,l⟩⟩;rotate_left
   .exact(show bodyPost prog Tryz.f199 (mJ g f d c (cases f a i e)) (Exit.panic _) _ d6 from aq (ss (z.j.kp.u (a1.af (by simp))) z.j.kp (y.j.trans ((aF u).trans (bm (cj E)))) k l))
   have A:=Z (z.j.cm n s a1 c7);dsimp only[cr];go_wp2_with fail;refine(vX (cD g (r::o)) _ A.j.rd).mono ?_;rintro w d4 ⟨S,⟨a5,a6,K,rfl,c4⟩|⟨B,K,q,k,rfl,l⟩⟩;rotate_left
   .exact(show bodyPost prog Tryz.f199 (mJ g f d c (cases f a i e)) (Exit.panic _) _ d4 from aq (ss (A.j.kp.u (S.af (by simp))) A.j.kp (y.j.trans ((aF u).trans ((aF (aX E)).trans (bm (cj K))))) k l))
   have a9:=Z (A.j.cm n s S c4);have a2:=b0.j;have a7:U (cases f a i e=(if a5=true then hn f a (13-(cs++[j]).length) (cs++[j])else cH (cs++[j])) a3 a6):=by
    refine y.j.trans ((aF u).trans ((aF (aX E)).trans ((aF (aX K)).trans ?_)));have:13-(cs++[j]).length=12-cs.length:=by simp
    rw[this]
   go_wp2;exact⟨⟨a5,cs++[j],r::o,a3,a6,rfl,by simp;omega,by simp;omega,a9,a7⟩,by simp[uW];omega⟩
end
section
variable {B:Mar.a5}{C ρ τ:Type}
def IW:(prog.info? 363).map (λa=>(a.zero,a.size,a.bytes))=some (some (.agg #[.slice none 0 0,.string ⟨#[]⟩,.int .i64 0,.nilIface]),4,64):=by kernel_rfl
def hr(d:PX τ C):PX (τ×ρ) C:=λa c=>match d a.1 c with
 |.ok (b,D,w)=>.ok (b,(D,a.2),w)
 |.error B=>.error B
def kL(d:PX ρ C):PX (τ×ρ) C:=λa c=>match d a.2 c with
 |.ok (b,D,w)=>.ok (b,(a.1,D),w)
 |.error B=>.error B
def rM{b:PX τ C}{t D:τ}{l:ρ}{c w:St}{a:C}(d:b t c=.ok (a,D,w)):hr b (t,l) c=.ok (a,(D,l),w):=by simp only[hr,d]
def rL{a:PX τ C}{t:τ}{l:ρ}{c:St}(b:a t c=.error B):hr a (t,l) c=.error B:=by simp only[hr,b]
def vF{b:PX ρ C}{t:τ}{l F:ρ}{c w:St}{a:C}(d:b l c=.ok (a,F,w)):kL b (t,l) c=.ok (a,(t,F),w):=by simp only[kL,d]
def vE{a:PX ρ C}{t:τ}{l:ρ}{c:St}(b:a l c=.error B):kL a (t,l) c=.error B:=by simp only[kL,b]
abbrev eW:=List (List UInt8)×List (Int×Int)
abbrev gy:=List (List Int×aG)
def lf(a:ByteArray)(b:gy):PX eW gy:=aw (lift (da a [100,101,102,97,117,108,116])) λd=>if d then
  aw (lift (bV a [58])) λ_=>aw (hr (iA a (aT 0 0))) λc=>cH (b++[([],c)])else cH b
def hz(a:ByteArray)(p:Int->Bool):Nat->gy->PX eW gy
 |0,_=>lift (fl 0 0)
 |k+1,d=>aw (kL (cases a p)) λb=>aw (hr (iA a (aT 0 0))) λc=>aw (lift (gf a [99,97,115,101])) λe=>if e then hz a p k (d++[(b,c)])else lf a (d++[(b,c)])
def fH(b:PX τ C)(t:τ):PM (C×τ):=λc=>match b t c with
 |.ok (a,D,w)=>.ok ((a,D),w)
 |.error B=>.error B
def qo{b:PX τ C}{t D:τ}{c w:St}{a:C}(d:b t c=.ok (a,D,w)):fH b t c=.ok ((a,D),w):=by simp only[fH,d]
def nF{a:PX τ C}{t:τ}{c:St}(b:a t c=.error B):fH a t c=.error B:=by simp only[fH,b]
def oP(a:ByteArray)(n:List UInt8×Nat)(x:aG)(b:gy):PM ao:=av (bV a [125]) λ_=>av (bV a [59]) λ_=>bT (.union n.1 n.2 x b)
def kS(a:ByteArray)(n:List UInt8×Nat)(x:aG)(b:gy×eW):PM ao:=oP a n x b.1
def sf(a:ByteArray)(n:List UInt8×Nat)(j:Ty×(Int->Bool))(b:(List UInt8×Nat)×List (List UInt8)):PM ao:=
 av (bV a [41]) λ_=>av (bV a [123]) λ_=>av (fH (hz a j.2 13 []) (b.2,[])) (kS a n ⟨b.1.1,b.1.2,j.1⟩)
def qw(a:ByteArray)(n:List UInt8×Nat)(j:Ty×(Int->Bool)):PM ao:=av (fH (name a (aT 0 0)) []) (sf a n j)
def oR(a:ByteArray)(n:List UInt8×Nat):PM ao:=av (bV a [115,119,105,116,99,104]) λ_=>av (bV a [40]) λ_=>av (nG a) (qw a n)
def dQ(a:ByteArray)(b:Nat):PM ao:=av (iE b) λ_=>av (gs a) (oR a)
def Gd{a:ByteArray}{p:Int->Bool}:∀(e:Nat) (g:List Int) (l:List (Int×Int)) (c:St) (f:List Int) (F:List (Int×Int)) (w:St),hn a p e g l c=.ok (f,F,w)->l.length<F.length/\F.length<=12:=by
 intro e;induction e with
 |zero=>intro g l c f F w b;simp only[hn]at b;cases b
 |succ e r=>
  intro g l c f F w b;cases h:bV a [99,97,115,101] c with
  |error B=>rw[xa h]at b;cases b
  |ok o=>
   obtain⟨o,s⟩:=o;by_cases m:12<=l.length
   .rw[xb h m]at b;cases b
   .rw[xc h m]at b;unfold xe at b;cases i:fU a p l s with
    |error B=>rw[bm i]at b;cases b
    |ok d=>
     obtain⟨n,x,t⟩:=d;rw[aF i]at b;have v:=yr i;cases j:bV a [58] t with
     |error B=>rw[bm (cj j)]at b;cases b
     |ok q=>
      obtain⟨q,u⟩:=q;rw[aF (aX j)]at b;cases k:gf a [99,97,115,101] u with
      |error B=>rw[bm (cj k)]at b;cases b
      |ok d=>
       obtain⟨d,y⟩:=d;rw[aF (aX k)]at b;cases d with
       |true=>
        have:=r _ _ _ _ _ _ b;omega
       |false=>
        simp only[Ye,if_false,cH]at b
        cases b
        omega
def fy.af{s b:List (Nat×Obj)}{c:TypeId}{v:Value}{n:Nat}{d:List Value}(l:∀p∈s,p∈b)(a:fy s c v n d):fy b c v n d:=by
 rcases a with a|⟨g,e,f,h,i,j,k⟩
 .exact Y8 a
 .exact Ya ⟨g,e,f,h,i,l _ j,k⟩
def bn.cF{b:List Nat}{s c:List (Nat×Obj)}{o:World}(d:bn b s o)(e:bn b c o):bn b (s++c) o:=by
 intro p a;rcases Yn.1 a with a|a
 .exact d p a
 .exact e p a
abbrev iS(p:(List Int×aG)×Value):List Value:=p.2::ho p.1.2
structure ga(A:Ad)(a:ByteArray)(o:World)(e j E nq:Nat)(v:Value)(p:Int->Bool)(n:List UInt8×Nat)(x:aG)(f:gy)(r:List Value)(s:List (Nat×Obj))(q:List Nat)(t:List (List UInt8))(l:List (Int×Int))(z:Value)(c:St)(u:World):Prop where
 kp:ai [A.R,A.S,A.N] o u
 rd:Rd (A.aC q) a c u
 aI:∀b∈[e,j,nq],b∈q
 nd:e≠j/\e≠nq/\j≠nq
 aQ:∀y∈q,o.heap.size<=y
 ax:∀g,z.ownBlock=some g->g∈q/\g ∉ [e,j,nq]
 bQ:dq j t u
 cl:bn (A.aC q).X (aT j E).bs u
 b2:cO nq l u
 g4:gA (A.aC q).X v p u
 aD:u.heap[e]? = some (.cells #[.string ⟨n.1.toArray⟩,.int .i64 n.2,.string ⟨x.t.toArray⟩,.int .i64 x.w,bX x.L,z] 358)
 row:u.ownsRow o.heap.size 363 4 z f.length ((f.zip r).flatMap iS)
 bc:r.length=f.length
 ev:bn (A.aC q).X s u
 dX:∀i (h:i<f.length) (h':i<r.length),fy s 2 r[i] f[i].1.length (f[i].1.map λn=>Value.int .i64 n)
section
variable {A : Ad} {a : ByteArray} {o u G : World} {e j E nq : Nat} {v : Value} {p : Int -> Bool} {n : List UInt8 × Nat} {x : aG} {f : gy} {r : List Value} {s : List (Nat × Obj)} {q : List Nat} {t D : List (List UInt8)} {l F : List (Int × Int)} {z : Value} {c w H : St}
def ga.dG(g:ga A a o e j E nq v p n x f r s q t l z c u):∃ad b,z=.slice ad f.length b:=by
 rcases g.row.2 with⟨rfl,d⟩|⟨i,b,h,rfl,_⟩
 .exact⟨none,0,by rw[d]⟩
 .exact⟨_,_,rfl⟩
def ga.b1(h:Rd A a H o)(d:ga A a o e j E nq v p n x f r s q t l z c u){b:Nat}(g:b∈[e,j,nq]):cU (A.aC q) b:=by
 obtain⟨k,m,w,y⟩:=h.lt;have i:=d.aQ _ (d.aI b g);refine⟨Yf _ (d.aI b g),?_,?_,?_,?_⟩<;>simp only[Ad.aC]<;>omega
def ga.b6{m:List Nat}(J:Rd A a H o)(b:ga A a o e j E nq v p n x f r s q t l z c u)(i:ai m u G)(k:∀d∈m,d=A.S\/d=j\/d=nq)(C:Rd (A.aC q) a w G)(M:dq j D G)(L:cO nq F G) :
  ga A a o e j E nq v p n x f r s q D F z w G:=by
 obtain⟨a0,a1,a2,a3⟩:=J.lt;obtain⟨N,O,P⟩:=b.nd;have a4:=b.aQ _ (b.aI e (by simp));have B:∀d∈m,d∈(A.aC q).X:=by
  intro d h;rcases k d h with rfl|rfl|rfl
  .exact C.aI.2.1
  .exact Yf _ (b.aI _ (by simp))
  .exact Yf _ (b.aI _ (by simp))
 refine⟨b.kp.ce i ?_,C,b.aI,b.nd,b.aQ,b.ax,M,b.cl.O i B,L,b.g4.O i B,(i.K _ (aj b.aD) ?_).trans b.aD,aY b.row i ?_,b.bc,b.ev.O i B,b.dX⟩
 .intro d h;rcases k d h with rfl|rfl|rfl
  .exact Y8 (by simp)
  .exact Ya (b.aQ _ (b.aI _ (by simp)))
  .exact Ya (b.aQ _ (b.aI _ (by simp)))
 .intro h;rcases k _ h with g|g|g<;>omega
 .intro I K h;have y:=b.ax I K;have R:=b.aQ _ y.1;rcases k _ h with g|g|g
  .omega
  .exact y.2 (by rw[g];simp)
  .exact y.2 (by rw[g];simp)
def ga.cm(g:Rd A a H o)(b:ga A a o e j E nq v p n x f r s q t l z c u)(d:ai [A.S] u G)(h:Rd (A.aC q) a w G):ga A a o e j E nq v p n x f r s q t l z w G:=by
 have i:=g.lt.2.1;have m:=b.aQ _ (b.aI j (by simp));have k:=b.aQ _ (b.aI nq (by simp));exact b.b6 g d (by simp) h (b.bQ.O d (by simp;omega)) (b.b2.O d (by simp;omega))
def ga.aA(d:Rd A a H o)(m:ga A a o e j E nq v p n x f r s q t l z c u)(b:Below u.heap.size u G):ga A a o e j E nq v p n x f r s q t l z c G:=
 m.b6 d (bt [] b) (by simp) (m.rd.aA b) (m.bQ.O (bt [] b) (by simp)) (m.b2.O (bt [] b) (by simp))
def zS{N B:World}{g J:Nat}{cv:Value}{cs:List Int}{d:aG}{bs':List (Nat×Obj)}(P:Rd A a H o)(h:ga A a o e j E nq v p n x f r s q t l z c u)(b5:bn (A.aC q).X bs' u)(b4:fy bs' 2 cv cs.length (cs.map λn=>Value.int .i64 n))(i:Below u.heap.size u N)
  (a7:B.ownsRow o.heap.size 363 4 (.slice (some ⟨g,0,none⟩) (f.length+1) J) (f.length+1) ((f.zip r).flatMap iS++iS ((cs,d),cv)))
  (C:N.grownBy B z.ownBlock) (I:z.ownBlock=some g\/g=N.heap.size) (b7:g<B.heap.size) :
  ga A a o e j E nq v p n x (f++[(cs,d)]) (r++[cv]) (s++bs') (g::q) t l (.slice (some ⟨g,0,none⟩) (f.length+1) J) c (B.setCell ⟨e,5,none⟩ (.slice (some ⟨g,0,none⟩) (f.length+1) J)):=by
 obtain⟨b8,_⟩:=gK a7 (g:=g) rfl;have m:=h.aA P i;have b6:=b5.O (bt [] i) (by simp);have F:e∈[e,j,nq]:=by simp
 have c0:j∈[e,j,nq]:=by simp
 have b9:nq∈[e,j,nq]:=by simp
 obtain⟨c2,c3,c4⟩:=h.nd;have a9:∀b∈[e,j,nq],o.heap.size<=b:=λb i=>h.aQ _ (h.aI b i);have a6:∀b∈[e,j,nq],b<N.heap.size:=λb i=>m.rd.bh b (Yf _ (h.aI b i));have c7:=C.size;have a4:g ∉ [e,j,nq]:=by
  rcases I with a5|a5
  .exact(h.ax g a5).2
  .intro k;have:=a6 g k;omega
 have a1:∀b,z.ownBlock=some b->o.heap.size<=b/\b∈(A.aC q).X:=λb i=>⟨h.aQ _ (h.ax b i).1,Yf _ (h.ax b i).1⟩;have M:=eL C;have w:ai [e] B (B.setCell ⟨e,5,none⟩ (.slice (some ⟨g,0,none⟩) (f.length+1) J)):=(ah [e] B).a6 (by simp) _;have a3:∀b∈[e,j,nq],b ∉ z.ownBlock.toList:=by
  intro b i k;exact(h.ax b (by simpa using k)).2 i
 have R:∀b,z.ownBlock=some b->b∈(A.aC q).X:=λb i=>(a1 b i).2;have K:∀O∈[e],O∈(A.aC (g::q)).X:=by
  intro O D;simp only[Yc]at D;subst D;exact Yf _ (Y5 _ (h.aI _ F))
 refine⟨?_,?_,λb i=>Y5 _ (h.aI b i),h.nd,?_,?_,?_,?_,?_,?_,?_,?_,by simp[h.bc],?_,?_⟩
 .refine(m.kp.ce M ?_).ce w ?_
  .intro a8 k;exact Ya (a1 a8 (by simpa using k)).1
  .intro a8 k;simp only[Yc]at k;subst k;exact Ya (a9 _ F)
 .exact P.ce (cD A (g::q)) (qS P (cD A q) m.rd C a1 I b7) w (by
   intro O D;exact⟨by simp only[Yc]at D;subst D;exact a9 _ F,K O D⟩)
 .intro c1 a2;rcases Yg.1 a2 with rfl|a2
  .exact b8
  .exact h.aQ c1 a2
 .intro b2 G;simp only[Value.ownBlock,Yu]at G;subst G;exact⟨Yb,a4⟩
 .exact(m.bQ.O M (a3 _ c0)).O w (by simp;omega)
 .exact(m.cl.bZ C R I).O w K
 .exact(m.b2.O M (a3 _ b9)).O w (by simp;omega)
 .exact(m.g4.bZ C R I).O w K
 .exact bv (i:=5) ((M.K _ (a6 _ F) (a3 _ F)).trans m.aD) _
 .have:=aY a7 w (by
   intro b2 G;simp only[Value.ownBlock,Yu]at G;subst G;intro k;simp only[Yc]at k;exact a4 (k▸F))
  rw[List.zip_append (by exact h.bc.symm),YK];simpa using this
 .exact((m.ev.cF b6).bZ C R I).O w K
 .intro y b3 c5;by_cases L:y<f.length
  .have S:y<r.length:=by rw[h.bc];exact L
   rw[List.getElem_append_left L,List.getElem_append_left S];exact(h.dX y L S).af (λp a0=>Yf _ a0)
  .have S:y=f.length:=by simp at b3;omega
   have c6:¬y<r.length:=by rw[h.bc];exact L
   rw[List.getElem_append_right (by omega),List.getElem_append_right (by omega)];have b0:y-f.length=0:=by omega
   have b1:y-r.length=0:=by rw[h.bc];omega
   simp only[b0,b1,List.getElem_cons_zero];exact b4.af (λp a0=>Ym _ a0)
def JL:∀(a:List ((List Int×aG)×Value)),(a.flatMap iS).length=a.length*4:=by
 intro a;induction a with
 |nil=>rfl
 |cons c d b=>simp only[YD,Yq,YC,b];simp;omega
def ga.fin(k:Rd A a H o)(d:ga A a o e j E nq v p n x f r s q t l z c u)(P:f.length<=1000){G:Except Mar.a5 (ao×St)}(D:G=.ok (.union n.1 n.2 x f,c)):fY [A.R,A.S,A.N] A a o G (.returned (.pointer (some ⟨e,0,none⟩))) u:=by
 have y:∀h,o.heap.size<=h->h ∉ A.X:=λh a2 a0=>by have:=k.bh _ a0;omega
 have F:bn A.X s u:=d.ev.cc (λa5 a1=>Ym _ a1);have C:=Yp d.aD (y _ (d.aQ _ (d.aI e (by simp))));refine⟨d.kp,Y8 ⟨.union n.1 n.2 x f,c,e,?_⟩⟩;rcases d.row.2 with⟨rfl,g⟩|⟨B,I,w,rfl,K,L,M,a3,a4,O⟩
 .have:f=[]:=Yv.1 g;subst this;refine⟨_::s,D,rfl,jq k.aI d.rd,⟨.slice none 0 0,r,Yb,d.bc,Y8 ⟨rfl,rfl,rfl⟩,λm g i=>(d.dX m g i).af (λp b=>Y5 _ b)⟩,?_⟩;intro p b;rcases Yg.1 b with rfl|b
  .exact C
  .exact F p b
 .refine⟨_::(B,.cells w 363)::s,D,rfl,jq k.aI d.rd,⟨_,r,Yb,d.bc,Ya ⟨B,I,w,rfl,⟨M,P⟩,by simp,?_⟩,λm g i=>(d.dX m g i).af (λp b=>Y5 _ (Y5 _ b))⟩,?_⟩
  .have J:((f.zip r).flatMap λp=>p.2::ho p.1.2).length=f.length*4:=by
    have:=JL (f.zip r);rw[List.length_zip,d.bc,Nat.min_self]at this;exact this
   rw[J];exact O
  .intro p b;rcases Yg.1 b with rfl|b
   .exact C
   .rcases Yg.1 b with rfl|b
    .exact⟨L,y _ K⟩
    .exact F p b
end
end
section
variable {b j:Ad}{e k bx nq d:Nat}{D:TypeId}{g:List Nat}{r t l w:Value}{z u:gy}{q:List (Nat×Obj)}{A:List Value}{m:List (Int×Int)}{n:List UInt8×Nat}{p:Int->Bool}{h:List (List UInt8)}{c s a:World}{B C:Type}{f o x:St}
def OP(e:eH j b){c:ByteArray}(d:Rd j c f a) :
  Calls prog 197 #[.pointer (some ⟨b.R,0,none⟩)] a (ui j c a (nG c f)):=by
 have:=OO d;rw[e.1]at this;exact this
def Gh(h:eH j b){c:ByteArray}{v:Value}{e:List (Int×Int)}(g:Rd j c f a)(i:gA j.X v p a)(l:cU j d)(k:cO d e a) :
  Calls prog 199 #[.pointer (some ⟨b.R,0,none⟩),.map (some d),v] a (mJ j c a d (cases c p e f)):=by
 have:=Gg g i l k;rw[h.1]at this;exact this
def xf(e:eH j b){c:ByteArray}(l:cU j d)(g:Rd j c f a)(k:dq d h a)(i:bn j.X (aT d bx).bs a) :
  Calls prog 185 #[.pointer (some ⟨b.R,0,none⟩),(aT d bx).v] a (jl [b.S,d] j c a (name c (aT 0 0) h f) fT (dq d)):=by
 have:=yj (xg (bx:=bx) l) g k i;rw[e.1,e.2.1]at this;exact this
def zW(e:eH j b){c:ByteArray}(l:cU j d)(g:Rd j c f a)(k:dq d h a)(i:bn j.X (aT d bx).bs a) :
  Calls prog 200 #[.pointer (some ⟨b.R,0,none⟩),(aT d bx).v] a (jl [b.S,d] j c a (iA c (aT 0 0) h f) iT (dq d)):=by
 have:=FK (xg (bx:=bx) l) g k i;rw[e.1,e.2.1]at this;exact this
def yt(c:World)(nq:Nat):Nat:=match c.heap[nq]? with
 |some (.map a _)=>a.size
 |_=>0
def Co(a:cO nq m c):yt c nq=m.length:=by
 have b:c.heap[nq]? = some (.map (m.mapIdx λd p=>(⟨.int .i64 p.1,.int .i64 p.2,d⟩:MapEntry)).toArray m.length):=a;unfold yt;rw[b];simp
structure jO(b:Ad)(text:ByteArray)(a:World)(e d bx:Nat)(v:Value)(p:Int->Bool)(cells:Array Value)(g:List Nat)(h:List (List UInt8))(f:St)(c:World):Prop where
 kp:ai [b.R,b.S,b.N] a c
 rd:Rd (b.aC g) text f c
 aI:e∈g/\d∈g/\e≠d
 aQ:∀y∈g,a.heap.size<=y
 bQ:dq d h c
 cl:bn (b.aC g).X (aT d bx).bs c
 g4:gA (b.aC g).X v p c
 aD:c.heap[e]? = some (.cells cells 358)
def jO.b6{m:ByteArray}{v:Value}{r:Array Value}{w:List (List UInt8)}{n:List Nat}(z:Rd b m x a)(i:jO b m a e d bx v p r g h f c)(l:ai n c s)(q:∀j∈n,j=b.S\/j=d)(u:Rd (b.aC g) m o s)(A:dq d w s) :
  jO b m a e d bx v p r g w o s:=by
 have B:=z.lt.2.1;have C:=i.aQ _ i.aI.1;have t:∀j∈n,j∈(b.aC g).X:=by
  intro j k;rcases q j k with rfl|rfl
  .exact u.aI.2.1
  .exact Yf _ i.aI.2.1
 refine⟨i.kp.ce l ?_,u,i.aI,i.aQ,A,i.cl.O l t,i.g4.O l t,(l.K _ (aj i.aD) ?_).trans i.aD⟩
 .intro j k;rcases q j k with rfl|rfl
  .exact Y8 (by simp)
  .exact Ya (i.aQ _ i.aI.2.1)
 .intro k;have:=i.aI.2.2;rcases q _ k with y|y<;>omega
def jO.cm{j:ByteArray}{v:Value}{k:Array Value}(l:Rd b j x a)(i:jO b j a e d bx v p k g h f c)(m:ai [b.S] c s)(n:Rd (b.aC g) j o s) :
  jO b j a e d bx v p k g h o s:=by
 have q:=l.lt.2.1;have r:=i.aQ _ i.aI.2.1;exact i.b6 l m (by simp) n (i.bQ.O m (by simp;omega))
def jO.b1{j:ByteArray}{v:Value}{k:Array Value}(l:Rd b j x a)(i:jO b j a e d bx v p k g h f c):cU (b.aC g) d:=by
 obtain⟨n,o,q,r⟩:=l.lt;have m:=i.aQ _ i.aI.2.1;refine⟨Yf _ i.aI.2.1,?_,?_,?_,?_⟩<;>simp only[Ad.aC]<;>omega
def Ga{e h b:Value}(c:a.heap[k]? = some (.cells #[e,h,r,t,l,b] D)) :
  a.cell? ⟨k,2,none⟩=some r/\a.cell? ⟨k,3,none⟩=some t/\a.cell? ⟨k,4,none⟩=some l/\∀d,a.frozen? ⟨k,d,none⟩=false:=by
 refine⟨?_,?_,?_,?_⟩<;>simp[World.cell?,World.frozen?,c]
def jO.cv{u:ByteArray}{v k z w:Value}(A:Rd b u x a)(j:jO b u a e d bx v p #[r,k,t,l,z,w] g h f c)(m y q:Value) :
  jO b u a e d bx v p #[r,k,m,y,q,w] g h f (((c.setCell ⟨e,2,none⟩ m).setCell ⟨e,3,none⟩ y).setCell ⟨e,4,none⟩ q):=by
 have n:ai [e] c (((c.setCell ⟨e,2,none⟩ m).setCell ⟨e,3,none⟩ y).setCell ⟨e,4,none⟩ q):=(((ah [e] c).a6 (p:=⟨e,2,none⟩) (by simp) _).a6 (p:=⟨e,3,none⟩) (by simp) _).a6 (p:=⟨e,4,none⟩) (by simp) _;have D:=j.aQ _ j.aI.1;have s:∀m∈[e],m∈(b.aC g).X:=by
  intro m o;simp only[Yc]at o;subst o;exact Yf _ j.aI.1
 refine⟨j.kp.ce n (by simp;omega),A.ce (cD b g) j.rd n (λm o=>⟨by simp only[Yc]at o;omega,s m o⟩),j.aI,j.aQ,j.bQ.O n (by have:=j.aI.2.2;simp;omega),j.cl.O n s,j.g4.O n s,?_⟩;have B:=bv (i:=2) j.aD m;have C:=bv (i:=3) B y;exact bv (i:=4) C q
def ga.i9{l:ByteArray}{v:Value}{k:aG}(j:ga b l a e d bx nq v p n k z A q g h m w f c)(i:Obj) :
  (c.alloc i).ownsRow a.heap.size 363 4 w z.length ((z.zip A).flatMap iS):=aY j.row ((ah [] c).G i) (by simp)
def ga.hm{t:ByteArray}{l:World}{v:Value}{i:aG}{k:Obj}(j:ga b t a e d bx nq v p n i z A q g h m w f c)(r:(c.alloc k).grownBy l w.ownBlock) :
  l.heap[e]? = some (.cells #[.string ⟨n.1.toArray⟩,.int .i64 n.2,.string ⟨i.t.toArray⟩,.int .i64 i.w,bX i.L,w] 358):=by
 have s:=aj j.aD;exact(r.block _ (by simp;omega) (λo=>(j.ax _ o.symm).2 (by simp))).trans ((((ah [] c).G k).K _ s (by simp)).trans j.aD)
def FC{o:ByteArray}{v:Value}{sel:aG}(L:Rd b o x a)(i:jO b o a e d bx v p #[.string ⟨n.1.toArray⟩,.int .i64 n.2,.string ⟨sel.t.toArray⟩,.int .i64 sel.w,bX sel.L,.slice none 0 0] g h f c) :
  ga b o a e d bx c.heap.size v p n sel [] [] [] (c.heap.size::g) h [] (.slice none 0 0) f (c.alloc (.map #[] 0)):=by
 have l:ai [] c (c.alloc (.map #[] 0)):=(ah [] c).G _;have F:=aj i.aD;have N:d<c.heap.size:=i.rd.bh _ (Yf _ i.aI.2.1);have I:=i.kp.a2;have r:∀q,bn (b.aC g).X q c->bn (b.aC (c.heap.size::g)).X q (c.alloc (.map #[] 0)):=λq j=>(j.a8 (Y4 _)).O l (by simp);refine⟨i.kp.G _,i.rd.ax _,?_,⟨i.aI.2.2,by omega,by omega⟩,?_,(by intro K C;cases C),i.bQ.O l (by simp),r _ i.cl,aK rfl,?_,(l.K _ F (by simp)).trans i.aD,⟨rfl,Y8 ⟨rfl,rfl⟩⟩,rfl,(by intro p D;cases D),(by intro M u;cases u)⟩
 .intro k j;simp at j;rcases j with rfl|rfl|rfl
  .exact Y5 _ i.aI.1
  .exact Y5 _ i.aI.2.1
  .exact Yb
 .intro J m;rcases Yg.1 m with rfl|m
  .exact I
  .exact i.aQ J m
 .obtain⟨q,t,H,G,w,y,z,A⟩:=i.g4;exact⟨q,t,H,G,w,r q y,z,λs B=>A s (B.cc λ_ E=>Y5 _ E)⟩
def oh{e h b:Value}(c:a.heap[k]? = some (.cells #[e,h,r,t,l,b] D)) :
  a.cell? ⟨k,2,none⟩=some r/\a.cell? ⟨k,5,none⟩=some b/\∀d,a.frozen? ⟨k,d,none⟩=false:=by
 refine⟨?_,?_,?_⟩<;>simp[World.cell?,World.frozen?,c]
def zX(a:ByteArray)(p:Int->Bool)(c:Nat)(u:gy)(b:List Int):PX eW gy:=aw (hr (iA a (aT 0 0))) λl=>aw (lift (gf a [99,97,115,101])) λd=>if d then hz a p c (u++[(b,l)])else lf a (u++[(b,l)])
def tQ{e:Type}{a b:PX e B}{c d:e}(g:a c f=b d o):fH a c f=fH b d o:=by simp only[fH,g]
def sK{b c:PM B}{a:B->PM C}(d:b f=c o):av b a f=av c a o:=by simp only[av,d]
def FN{a:ByteArray}{d:Nat}{b:List Int}{e:List (Int×Int)}{c:gy×eW->PM C}(g:cases a p m f=.ok (b,e,o)) :
  av (fH (hz a p (d+1) u) (h,m)) c f=av (fH (zX a p d u b) (h,e)) c o:=by
 refine sK (tQ ?_);simp only[hz];exact aF (vF g)
def FM{b:ByteArray}{e:Nat}{a:Mar.a5}{c:gy×eW->PM C}(d:cases b p m f=.error a) :
  av (fH (hz b p (e+1) u) (h,m)) c f=.error a:=by
 refine bl (nF ?_);simp only[hz];exact bm (vE d)
def Cv(b:List Int)(l:aG)(r:Option Addr)(k t:Nat):∀c∈iS ((b,l),.slice r k t),c.oneCell'=true:=by
 intro c a;rcases Yg.1 a with rfl|a
 .rfl
 .exact Cw l c a
end
def RM{a:Ad}{b:ByteArray}{l:St}(k:Nat){w:World}(c:Rd a b l w) :
  Calls prog 123 #[.pointer (some ⟨a.R,0,none⟩),.int .i64 k] w (fY [a.R,a.S,a.N] a b w (dQ b k l)):=by
 have q3:=jw;have q4:=jx;obtain⟨k2,i7,j9,k0,k1⟩:=info_parts IW;obtain⟨q8,q9,r0,r1⟩:=c.lt;go_in;go_wp2_with fail;refine(vt k c).mono ?_;rintro t r3 ⟨i9,⟨r2,s1,e1,rfl,n4⟩|⟨s,e1,p,f,rfl,g⟩⟩;rotate_left
 .exact aq (dy (i9.af (by simp)) (ah [] _) (bl e1) f g)
 have f1:=i9.af (M':=[a.R,a.S,a.N]) (by simp);go_wp2_with fail;refine(tz n4).mono ?_;rintro t a4 ⟨j1,⟨n,p2,g9,rfl,n6⟩|⟨s,g9,p,f,rfl,g⟩⟩;rotate_left
 .exact aq (dy (f1.u (j1.af (by simp))) f1 ((au e1).trans (bl g9)) f g)
 have i2:=f1.u (j1.af (M':=[a.R,a.S,a.N]) (by simp));have c9:U (dQ b k l=oR b n p2):=(au e1).trans (au g9);dsimp only[fT];have q7:=i2.a2;have n7:=n6.ax (.cells #[.string ⟨n.1.toArray⟩,.int .i64 n.2,.string ⟨#[]⟩,.int .i64 0,.nilIface,.slice none 0 0] 358);have j5:=aK (w:=a4) (o:=.cells #[.string ⟨n.1.toArray⟩,.int .i64 n.2,.string ⟨#[]⟩,.int .i64 0,.nilIface,.slice none 0 0] 358) rfl;have f2:=i2.G (.cells #[.string ⟨n.1.toArray⟩,.int .i64 n.2,.string ⟨#[]⟩,.int .i64 0,.nilIface,.slice none 0 0] 358);have g4:a4.heap.size ∉ [a.S]:=by simp;omega
 go_wp2_with fail;refine(fh (eI a _) _ n7).mono ?_;rintro t r4 ⟨f7,⟨r7,s2,c4,rfl,n8⟩|⟨s,c4,p,f,rfl,g⟩⟩;rotate_left
 .exact aq (dy (f2.u (f7.af (by simp))) f2 (c9.j.trans (bl c4)) f g)
 have j6:=(f7.K _ (aj j5) g4).trans j5;have f3:=f2.u (f7.af (M':=[a.R,a.S,a.N]) (by simp));go_wp2_with fail;refine(fh (eI a _) _ n8).mono ?_;rintro t a7 ⟨I,⟨r8,c6,A,rfl,c2⟩|⟨s,A,p,f,rfl,g⟩⟩;rotate_left
 .exact aq (dy (f3.u (I.af (by simp))) f3 (c9.j.trans ((au c4).trans (bl A))) f g)
 have j7:=(I.K _ (aj j6) g4).trans j6;have f4:=f3.u (I.af (M':=[a.R,a.S,a.N]) (by simp));go_wp2_with fail;refine(OP (eI a _) c2).mono ?_;rintro t q ⟨z,⟨⟨y,J⟩,b6,v,F,rfl,c3,i6⟩|⟨s,F,p,f,rfl,g⟩⟩;rotate_left
 .exact aq (dy (f4.u (z.af (by simp[Ad.a8]))) f4 (c9.j.trans ((au c4).trans ((au A).trans (bl F)))) f g)
 have j8:=(z.K _ (aj j7) g4).trans j7;have i3:=f4.u (z.af (M':=[a.R,a.S,a.N]) (by simp[Ad.a8]));have d0:U (dQ b k l=qw b n (y,J) b6):=c9.j.trans ((au c4).trans ((au A).trans (au F)));have n0:=aj j8;dsimp only at i6 ⊢;obtain⟨e9,h2,i4⟩:∃e9 h2,bX y=.iface e9 h2:=by cases y<;>exact⟨_,_,rfl⟩
 rw[i4];go_wp2_with fail;refine(ux _).mono ?_;rintro t b5 ⟨a2,a5,rfl,j3,p9,q5,i1,i5,o1⟩;have m9:a2<b5.heap.size:=by
  obtain⟨_,_,_,g3⟩:=id i1;exact aj g3
 have G:U (jO a b w a4.heap.size a2 a5 v J #[.string ⟨n.1.toArray⟩,.int .i64 n.2,.string ⟨#[]⟩,.int .i64 0,.nilIface,.slice none 0 0] [a2,a4.heap.size] [] b6 b5):=by
  have f8:ai [] q b5:=bt [] i5;have m3:∀P,bn (a.a8 a4.heap.size).X P q->bn (a.aC [a2,a4.heap.size]).X P b5:=λP d9=>(d9.a8 j3).O f8 (by simp);refine⟨i3.u (f8.af (by simp)),c3.k5 i5 j3 m9,⟨by simp,by simp,by omega⟩,?_,i1,?_,?_,(f8.K _ n0 (by simp)).trans j8⟩
  .intro b3 o2;simp at o2;have:=i3.a2;omega
  .intro p d9;simp only[aT,Yc]at d9;subst d9;refine⟨o1,?_⟩;simp[Ad.aC];refine⟨by omega,by omega,?_⟩;intro g3;have:=c.bh _ g3;omega
  .obtain⟨P,s,o6,o5,l8,l9,m0,m1⟩:=i6;exact⟨P,s,o6,o5,l8,m3 P l9,m0,λl3 m2=>m1 l3 (m2.cc λ_ d=>Y5 _ d)⟩
 go_wp2_with fail;refine(xf (bx:=a5) (cD a _) (G.j.b1 c) G.j.rd G.j.bQ G.j.cl).mono ?_;rintro t b1 ⟨a0,⟨j,k4,c7,C,rfl,b4,i8⟩|⟨s,C,p,f,rfl,g⟩⟩;rotate_left
 .refine aq (dy (G.j.kp.ce a0 ?_) G.j.kp (d0.j.trans (bl (nF C))) f g);intro b2 d;simp at d ⊢;rcases d with d|d
  .exact Y8 (Ya (Y8 d))
  .exact Ya (by have:=G.j.aQ _ G.j.aI.2.1;omega)
 have d2:=Z ((G.j.b6 c a0 (by simp) b4 i8).cv c (.string ⟨j.1.toArray⟩) (.int .i64 j.2) (.iface e9 h2))
 obtain⟨p5,p6,p7,q1⟩:=Ga (G.j.b6 c a0 (by simp) b4 i8).aD;dsimp only[fT];go_wp2_with fail;refine(fh (cD a _) _ d2.j.rd).mono ?_;rintro t r5 ⟨j2,⟨s0,s3,e2,rfl,n9⟩|⟨s,e2,p,f,rfl,g⟩⟩;rotate_left
 .exact aq (dy (d2.j.kp.u (j2.af (by simp))) d2.j.kp (d0.j.trans ((au (qo C)).trans (bl e2))) f g)
 have d3:=Z (d2.j.cm c j2 n9);go_wp2_with fail;refine(fh (cD a _) _ d3.j.rd).mono ?_;rintro t c5 ⟨j0,⟨r6,k6,g8,rfl,n5⟩|⟨s,g8,p,f,rfl,g⟩⟩;rotate_left
 .exact aq (dy (d3.j.kp.u (j0.af (by simp))) d3.j.kp (d0.j.trans ((au (qo C)).trans ((au e2).trans (bl g8)))) f g)
 have h9:=d3.j.cm c j0 n5;rw[<-i4]at h9;have l2:=Z (FC (n:=n) (sel:=⟨j.1,j.2,y⟩) c h9);have k7:U (dQ b k l=av (fH (hz b J 13 []) (k4,[])) (kS b n ⟨j.1,j.2,y⟩) k6):=d0.j.trans ((au (qo C)).trans ((au e2).trans (au g8)));go_wp2;go_loopw [10] (λp h1=>∃(b3:Bool) (e:gy) (d7:List Value) (P:List (Nat×Obj)) (H:List Nat) (a3:List (List UInt8)) (a6:List (Int×Int)) (k3:Value) (e5:St),p=.bool b3/\e.length<=a6.length/\a6.length<=12/\U (ga a b w a4.heap.size a2 a5 c5.heap.size v J n ⟨j.1,j.2,y⟩ e d7 P H a3 a6 k3 e5 h1)/\
   U (dQ b k l=av (fH (if b3 then hz b J (13-e.length) e else lf b e) (a3,a6)) (kS b n ⟨j.1,j.2,y⟩) e5)) (λ_ h1=>13-yt h1 c5.heap.size)
 case atStart=>exact⟨true,[],[],[],_,k4,[],_,k6,rfl,by simp,by simp,l2,k7⟩
 case round=>
  obtain⟨b3,e,d7,P,H,a3,a6,k3,e5,rfl,q6,q2,r,c8⟩:=hrel;obtain⟨ad,b8,rfl⟩:=r.j.dG;cases b3 with
  |false=>
   go_wp2_with fail;refine(mT (cD a H) _ r.j.rd).mono ?_;rintro t a7 ⟨I,⟨h6,c6,A,rfl,c2⟩|⟨s,A,p,f,rfl,g⟩⟩;rotate_left
   .exact(show bodyPost prog Tryz.f123 (fY [a.R,a.S,a.N] a b w (dQ b k l)) (Exit.panic _) _ a7 from aq (dy (r.j.kp.u (I.af (by simp))) r.j.kp (c8.j.trans (bl (nF (bm (cj A))))) f g))
   have D:=Z (r.j.cm c I c2);cases h6 with
   |false=>
    have K:U (dQ b k l=oP b n ⟨j.1,j.2,y⟩ e c6):=c8.j.trans (au (qo ((aF (aX A)).trans rfl)));go_wp2_with fail;refine(fh (cD a _) _ D.j.rd).mono ?_;rintro t h4 ⟨c0,⟨o7,p3,a1,rfl,g6⟩|⟨s,a1,p,f,rfl,g⟩⟩;rotate_left
    .exact(show bodyPost prog Tryz.f123 (fY [a.R,a.S,a.N] a b w (dQ b k l)) (Exit.panic _) _ h4 from aq (dy (D.j.kp.u (c0.af (by simp))) D.j.kp (K.j.trans (bl a1)) f g))
    have O:=Z (D.j.cm c c0 g6);go_wp2_with fail;refine(fh (cD a _) _ O.j.rd).mono ?_;rintro t h5 ⟨c1,⟨o8,p4,b0,rfl,g7⟩|⟨s,b0,p,f,rfl,g⟩⟩;rotate_left
    .exact(show bodyPost prog Tryz.f123 (fY [a.R,a.S,a.N] a b w (dQ b k l)) (Exit.panic _) _ h5 from aq (dy (O.j.kp.u (c1.af (by simp))) O.j.kp (K.j.trans ((au a1).trans (bl b0))) f g))
    have e8:=Z (O.j.cm c c1 g7);go_wp2;go_ret;exact e8.j.fin c (by omega) (K.j.trans ((au a1).trans (au b0)))
   |true=>
    have K:U (dQ b k l=av (fH (aw (lift (bV b [58])) λ_=>aw (hr (iA b (aT 0 0))) λm=>cH (e++[([],m)])) (a3,a6)) (kS b n ⟨j.1,j.2,y⟩) c6):=c8.j.trans (sK (tQ (aF (aX A))));go_wp2_with fail;refine(fh (cD a H) _ D.j.rd).mono ?_;rintro t b1 ⟨a0,⟨r9,c7,C,rfl,b4⟩|⟨s,C,p,f,rfl,g⟩⟩;rotate_left
    .exact(show bodyPost prog Tryz.f123 (fY [a.R,a.S,a.N] a b w (dQ b k l)) (Exit.panic _) _ b1 from aq (dy (D.j.kp.u (a0.af (by simp))) D.j.kp (K.j.trans (bl (nF (bm (cj C))))) f g))
    have b7:=Z (D.j.cm c a0 b4);have d1:U (dQ b k l=av (fH (aw (hr (iA b (aT 0 0))) λm=>cH (e++[([],m)])) (a3,a6)) (kS b n ⟨j.1,j.2,y⟩) c7):=K.j.trans (sK (tQ (aF (aX C))));have e0:Below b1.heap.size b1 b1.drew:=(Below.refl _ _).drew;obtain⟨o3,o4,m4⟩:=oh b7.j.aD;have h:=Z (b7.j.aA c e0);have e7:=Z (zW (bx:=a5) (cD a H) (h.j.b1 c (by simp)) h.j.rd h.j.bQ h.j.cl);have h0:(Value.agg #[.slice none 0 0,.string ⟨#[]⟩,.int .i64 0,.nilIface]).cells.size=4:=by decide
    have f9:e.length+1<=maxLen:=by unfold maxLen;omega
    have g0:(e.length+1)*64<=140737488355328:=by omega
    go_wp2_with fail;refine cS (λh3=>h3.cell? ⟨a4.heap.size,5,none⟩=some (.slice ad e.length b8)) (L:=13) (by kernel_rfl) rfl (by kernel_rfl) (by kernel_rfl) ?_ (λa9=>?_)
    .go_keep
    refine bI [0,1,2,3,4,5,6] ?_;iterate 7 (refine bP (v:=?_) rfl (by kernel_rfl) (λ_ _ _ c=>c) (by rfl) (by assumption) ?_ ?_;rotate_left;focus (intro w E;(try dsimp only at E);go_simp;(try with_reducible rfl));(try simp only[aL,aM,List.set]))
    refine bJ ?_;refine ck 7 (by kernel_rfl) rfl λa8 x=>?_;(go_simp;go_at_call 200;refine e7.j.mono ?_;rintro t q ⟨z,⟨m,e4,b6,F,rfl,c3,f6⟩|⟨s,F,p,f,rfl,g⟩⟩;rotate_left;exact(show bodyPost prog Tryz.f123 (fY [a.R,a.S,a.N] a b w (dQ b k l)) (Exit.panic _) _ q from aq (dy (h.j.kp.ce z (by intro b2 d;simp at d ⊢;rcases d with d|d;exact Y8 (Ya (Y8 d));exact Ya (by have:=h.j.aQ _ (h.j.aI a2 (by simp));omega))) h.j.kp (d1.j.trans (bl (nF (bm (rL F))))) f g));have B:=Z (h.j.b6 c z (by intro b2 d;simp at d;rcases d with rfl|rfl;exact Y8 rfl;exact Ya (Y8 rfl)) c3 f6 (h.j.b2.O z (by have:=h.j.nd.2.2;have:=h.j.aQ _ (h.j.aI c5.heap.size (by simp));simp[Ad.aC];omega)));obtain⟨p0,p1,m6⟩:=oh B.j.aD;have g1:=aj B.j.aD;have n2:=Nat.ne_of_lt g1;have o0:=B.j.kp.a2;dsimp only[iT]);refine x.out _ _ ?_ (λa9=>?_)
    .go_keep
    (try simp only[aL,aM,List.set]);refine tk (i:=8) (v:=?_) rfl (by kernel_rfl) (λ_ _ _ c=>c) (by rfl) (by assumption) ?_ ?_;rotate_left
    .intro w E;(try dsimp only at E);go_simp;(try with_reducible rfl)
    (try simp only[aL,aM,List.set]);refine ck 9 (by kernel_rfl) rfl λa8 x=>?_;go_simp;refine x.out _ _ ?_ (λa9=>?_)
    .go_keep
    (try simp only[aL,aM,List.set]);refine ck 10 (by kernel_rfl) rfl λa8 x=>?_;(refine step_append_lies _ (by rfl) _ _ _ (by rfl) w.heap.size 363 k2 _ 4 64 underlying356 i7 j9 k0 k1 h0 (by omega) (.slice ad e.length b8) e.length ((e.zip d7).flatMap iS) (by rfl) (B.j.i9 _) ⟨q.heap.size,0,none⟩ 1 1 (iS (([],m),.slice none 0 0)) (by rfl) (by rfl) (World.news_of_block (cs:=(iS (([],m),.slice none 0 0)).toArray) (t:=363) (fr:=(0,0)) (heap_alloc_new q _)) (Cv [] m none 0 0) (by omega) f9 g0 (by simp;omega) (q.heap.size+1) (by simp) ?_;intro d8 l7 b5 g5 b9 f5 g2;obtain⟨o9,h6,m5⟩:=oh (B.j.hm b9));refine x.out _ _ ?_ (λa9=>?_)
    .go_keep
    (try simp only[aL,aM,List.set]);refine bI [11,12] ?_;iterate 2 (refine bP (v:=?_) rfl (by kernel_rfl) (λ_ _ _ c=>c) (by rfl) (by assumption) ?_ ?_;rotate_left;focus (intro w E;(try dsimp only at E);go_simp;(try with_reducible rfl));(try simp only[aL,aM,List.set]))
    refine bJ ?_;refine cQ (by kernel_rfl) rfl λa8 x=>?_;go_simp;refine x.out _ _ ?_;(try simp only[aL,aM,List.set]);have M:=Z (zS (bs':=[]) (cs:=[]) (cv:=.slice none 0 0) (d:=m) c B.j (by intro J n3;cases n3) (Y8 ⟨rfl,rfl,rfl⟩) ((Below.refl q.heap.size q).alloc (Y4 _) _) g5 b9 (by simpa using f5) g2);have e6:U (dQ b k l=oP b n ⟨j.1,j.2,y⟩ (e++[([],m)]) b6):=d1.j.trans (au (qo ((aF (rM F)).trans rfl)));go_wp2_with fail;refine(fh (cD a _) _ M.j.rd).mono ?_;rintro t h4 ⟨c0,⟨o7,p3,a1,rfl,g6⟩|⟨s,a1,p,f,rfl,g⟩⟩;rotate_left
    .exact(show bodyPost prog Tryz.f123 (fY [a.R,a.S,a.N] a b w (dQ b k l)) (Exit.panic _) _ h4 from aq (dy (M.j.kp.u (c0.af (by simp))) M.j.kp (e6.j.trans (bl a1)) f g))
    have O:=Z (M.j.cm c c0 g6);go_wp2_with fail;refine(fh (cD a _) _ O.j.rd).mono ?_;rintro t h5 ⟨c1,⟨o8,p4,b0,rfl,g7⟩|⟨s,b0,p,f,rfl,g⟩⟩;rotate_left
    .exact(show bodyPost prog Tryz.f123 (fY [a.R,a.S,a.N] a b w (dQ b k l)) (Exit.panic _) _ h5 from aq (dy (O.j.kp.u (c1.af (by simp))) O.j.kp (e6.j.trans ((au a1).trans (bl b0))) f g))
    have e8:=Z (O.j.cm c c1 g7);go_wp2;go_ret;exact e8.j.fin c (by simp;omega) (e6.j.trans ((au a1).trans (au b0)))
  |true=>
   have h8:U (dQ b k l=av (fH (hz b J ((12-e.length)+1) e) (a3,a6)) (kS b n ⟨j.1,j.2,y⟩) e5):=by
    have i0:=c8.j;rw[show 13-e.length=(12-e.length)+1 by omega]at i0;exact i0
   go_wp2_with fail;refine(Gh (cD a H) r.j.rd r.j.g4 (r.j.b1 c (by simp)) r.j.b2).mono ?_;rintro t a7 ⟨I,⟨u,e3,c6,f0,l5,A,rfl,c2,n1,j4,m7⟩|⟨s,A,p,f,rfl,g⟩⟩;rotate_left
   .exact(show bodyPost prog Tryz.f123 (fY [a.R,a.S,a.N] a b w (dQ b k l)) (Exit.panic _) _ a7 from aq (dy (r.j.kp.ce I (by intro b2 d;simp at d ⊢;rcases d with d|d;exact Y8 (Ya (Y8 d));exact Ya (by have:=r.j.aQ _ (r.j.aI c5.heap.size (by simp));omega))) r.j.kp (h8.j.trans (FM A)) f g))
   have q0:=Gd _ _ _ _ _ _ _ A;have D:=Z (r.j.b6 c I (by intro b2 d;simp at d;rcases d with rfl|rfl;exact Y8 rfl;exact Ya (Ya rfl)) c2 (r.j.bQ.O I (by have:=r.j.nd.2.2;have:=r.j.aQ _ (r.j.aI a2 (by simp));simp[Ad.aC];omega)) n1);have l0:=Co r.j.b2;have K:U (dQ b k l=av (fH (zX b J (12-e.length) e u) (a3,e3)) (kS b n ⟨j.1,j.2,y⟩) c6):=h8.j.trans (FN A);obtain⟨d4,d6,d5,rfl⟩:∃l4 p l6,f0=.slice l4 p l6:=by rcases j4 with⟨rfl,_⟩|⟨d8,b8,p8,rfl,_⟩<;>exact⟨_,_,_,rfl⟩
   have e0:Below a7.heap.size a7 a7.drew:=(Below.refl _ _).drew;obtain⟨o3,o4,m4⟩:=oh D.j.aD;have h:=Z (D.j.aA c e0);have e7:=Z (zW (bx:=a5) (cD a H) (h.j.b1 c (by simp)) h.j.rd h.j.bQ h.j.cl);have h0:(Value.agg #[.slice none 0 0,.string ⟨#[]⟩,.int .i64 0,.nilIface]).cells.size=4:=by decide
   have f9:e.length+1<=maxLen:=by unfold maxLen;omega
   have g0:(e.length+1)*64<=140737488355328:=by omega
   have m8:∀q,ai [a.S,a2] a7.drew q->bn (a.aC H).X l5 q:=λq z=>(m7.O (bt [] e0) (by simp)).O z (by intro b2 d;simp at d;rcases d with rfl|rfl;exact h.j.rd.aI.2.1;exact Yf _ (h.j.aI _ (by simp)));have k8:=Z m8;have k9:=Z j4;go_wp2_with fail;refine cS (λh3=>h3.cell? ⟨a4.heap.size,5,none⟩=some (.slice ad e.length b8)) (L:=14) (by kernel_rfl) rfl (by kernel_rfl) (by kernel_rfl) ?_ (λa9=>?_)
   .go_keep
   refine bI [0,1,2,3,4,5,6,7] ?_;iterate 8 (refine bP (v:=?_) rfl (by kernel_rfl) (λ_ _ _ c=>c) (by rfl) (by assumption) ?_ ?_;rotate_left;focus (intro w E;(try dsimp only at E);go_simp;(try with_reducible rfl));(try simp only[aL,aM,List.set]))
   refine bJ ?_;refine ck 8 (by kernel_rfl) rfl λa8 x=>?_;(go_simp;go_at_call 200;refine e7.j.mono ?_;rintro t q ⟨z,⟨m,e4,b6,F,rfl,c3,f6⟩|⟨s,F,p,f,rfl,g⟩⟩;rotate_left;exact(show bodyPost prog Tryz.f123 (fY [a.R,a.S,a.N] a b w (dQ b k l)) (Exit.panic _) _ q from aq (dy (h.j.kp.ce z (by intro b2 d;simp at d ⊢;rcases d with d|d;exact Y8 (Ya (Y8 d));exact Ya (by have:=h.j.aQ _ (h.j.aI a2 (by simp));omega))) h.j.kp (K.j.trans (bl (nF (bm (rL F))))) f g));have B:=Z (h.j.b6 c z (by intro b2 d;simp at d;rcases d with rfl|rfl;exact Y8 rfl;exact Ya (Y8 rfl)) c3 f6 (h.j.b2.O z (by have:=h.j.nd.2.2;have:=h.j.aQ _ (h.j.aI c5.heap.size (by simp));simp[Ad.aC];omega)));obtain⟨p0,p1,m6⟩:=oh B.j.aD;have g1:=aj B.j.aD;have n2:=Nat.ne_of_lt g1;have o0:=B.j.kp.a2;dsimp only[iT]);refine x.out _ _ ?_ (λa9=>?_)
   .go_keep
   (try simp only[aL,aM,List.set]);refine tk (i:=9) (v:=?_) rfl (by kernel_rfl) (λ_ _ _ c=>c) (by rfl) (by assumption) ?_ ?_;rotate_left
   .intro w E;(try dsimp only at E);go_simp;(try with_reducible rfl)
   (try simp only[aL,aM,List.set]);refine ck 10 (by kernel_rfl) rfl λa8 x=>?_;go_simp;refine x.out _ _ ?_ (λa9=>?_)
   .go_keep
   (try simp only[aL,aM,List.set]);refine ck 11 (by kernel_rfl) rfl λa8 x=>?_;(refine step_append_lies _ (by rfl) _ _ _ (by rfl) w.heap.size 363 k2 _ 4 64 underlying356 i7 j9 k0 k1 h0 (by omega) (.slice ad e.length b8) e.length ((e.zip d7).flatMap iS) (by rfl) (B.j.i9 _) ⟨q.heap.size,0,none⟩ 1 1 (iS ((u,m),.slice d4 d6 d5)) (by rfl) (by rfl) (World.news_of_block (cs:=(iS ((u,m),.slice d4 d6 d5)).toArray) (t:=363) (fr:=(0,0)) (heap_alloc_new q _)) (Cv u m d4 d6 d5) (by omega) f9 g0 (by simp;omega) (q.heap.size+1) (by simp) ?_;intro d8 l7 b5 g5 b9 f5 g2;obtain⟨o9,h6,m5⟩:=oh (B.j.hm b9));refine x.out _ _ ?_ (λa9=>?_)
   .go_keep
   (try simp only[aL,aM,List.set]);refine bI [12,13] ?_;iterate 2 (refine bP (v:=?_) rfl (by kernel_rfl) (λ_ _ _ c=>c) (by rfl) (by assumption) ?_ ?_;rotate_left;focus (intro w E;(try dsimp only at E);go_simp;(try with_reducible rfl));(try simp only[aL,aM,List.set]))
   refine bJ ?_;refine cQ (by kernel_rfl) rfl λa8 x=>?_;go_simp;refine x.out _ _ ?_;(try simp only[aL,aM,List.set]);have M:=Z (zS (cs:=u) (cv:=.slice d4 d6 d5) (d:=m) c B.j (k8.j q z) (k9.j) ((Below.refl q.heap.size q).alloc (Y4 _) _) g5 b9 (by simpa using f5) g2);have h7:U (dQ b k l=av (fH (aw (lift (gf b [99,97,115,101])) λb3=>if b3 then hz b J (12-e.length) (e++[(u,m)])else lf b (e++[(u,m)])) (e4,e3)) (kS b n ⟨j.1,j.2,y⟩) b6):=K.j.trans (sK (tQ (aF (rM F))))
   go_wp2_with fail;refine(vX (cD a (d8::H)) _ M.j.rd).mono ?_;rintro t b1 ⟨a0,⟨k5,c7,C,rfl,b4⟩|⟨s,C,p,f,rfl,g⟩⟩;rotate_left
   .exact(show bodyPost prog Tryz.f123 (fY [a.R,a.S,a.N] a b w (dQ b k l)) (Exit.panic _) _ b1 from aq (dy (M.j.kp.u (a0.af (by simp))) M.j.kp (h7.j.trans (bl (nF (bm (cj C))))) f g))
   have b7:=Z (M.j.cm c a0 b4);have d1:U (dQ b k l=av (fH (if k5=true then hz b J (13-(e++[(u,m)]).length) (e++[(u,m)])else lf b (e++[(u,m)])) (e4,e3)) (kS b n ⟨j.1,j.2,y⟩) c7):=by
    refine h7.j.trans (sK (tQ ((aF (aX C)).trans ?_)));have:13-(e++[(u,m)]).length=12-e.length:=by simp
    rw[this]
   have l1:=Co b7.j.b2;go_wp2;refine⟨⟨k5,e++[(u,m)],_,_,d8::H,e4,e3,_,c7,rfl,by simp;omega,by omega,b7,d1⟩,?_⟩;rw[l0,l1];omega
structure gP(a:Ad)(d:ByteArray)(b:World)(c bx nq:Nat)(k:List (Nat×Obj))(e:List Nat)(t:List (List UInt8))(l:List (Int×Int))(h:St)(g:World):Prop where
 kp:ai [a.R,a.S,a.N,c,nq] b g
 rd:Rd (a.aC e) d h g
 aQ:∀y∈e,b.heap.size<=y
 bQ:dq c t g
 cl:bn (a.aC e).X (aT c bx).bs g
 b2:cO nq l g
 aD:∀p∈k,g.heap[p.1]? = some p.2/\p.1∈e
section
variable {a : Ad} {d : ByteArray} {b g j : World} {c bx nq : Nat} {k B' : List (Nat × Obj)} {e : List Nat} {t r : List (List UInt8)} {l q : List (Int × Int)} {h n o : St}
def cU.aC{c:Nat}(b:cU a c)(e:List Nat):cU (a.aC e) c:=⟨Ym _ b.1,b.2.1,b.2.2.1,b.2.2.2.1,b.2.2.2.2⟩
def gP.b6{s:List Nat}(u:Rd a d o b)(A:cU a c)(z:cU a nq)(i:gP a d b c bx nq k e t l h g)(w:ai s g j)(v:∀m∈s,m∈[a.R,a.S,a.N,c,nq])(p:Rd (a.aC e) d n j)(E:dq c r j)(C:cO nq q j) :
  gP a d b c bx nq k e r q n j:=by
 obtain⟨G,H,I,J⟩:=u.lt;have L:=u.bh _ A.1;have K:=u.bh _ z.1;have B:∀m∈s,m∈(a.aC e).X:=by
  intro m f;have f:=v m f;simp at f;rcases f with rfl|rfl|rfl|rfl|rfl
  .exact p.aI.1
  .exact p.aI.2.1
  .exact p.aI.2.2.1
  .exact Ym _ A.1
  .exact Ym _ z.1
 refine⟨i.kp.u (w.af v),p,i.aQ,E,i.cl.O w B,C,?_⟩;intro F D;obtain⟨x,y⟩:=i.aD F D;refine⟨(w.K _ (aj x) ?_).trans x,y⟩;intro f;have f:=v _ f;have:=i.aQ _ y;simp at f;omega
def gP.cm(q:Rd a d o b)(p:cU a c)(m:cU a nq)(i:gP a d b c bx nq k e t l h g)(f:ai [a.S] g j)(r:Rd (a.aC e) d n j):gP a d b c bx nq k e t l n j:=
 i.b6 q p m f (by simp) r (i.bQ.O f (by simp;exact p.2.2.1)) (i.b2.O f (by simp;exact m.2.2.1))
def gP.h0(q:Rd a d o b)(u:cU a c)(i:cU a nq)(s:c≠nq)(m:gP a d b c bx nq k e t l h g)(f:ai [a.S,c] g j)(v:Rd (a.aC e) d n j)(w:dq c r j):gP a d b c bx nq k e r l n j:=
 m.b6 q u i f (by simp) v w (m.b2.O f (by simp;exact⟨i.2.2.1,λp=>s p.symm⟩))
def gP.o2(p:Rd a d o b)(i:cU a c)(s:cU a nq)(u:c≠nq)(m:gP a d b c bx nq k e t l h g)(f:ai [a.S,nq] g j)(v:Rd (a.aC e) d n j)(r:cO nq q j):gP a d b c bx nq k e t q n j:=
 m.b6 p i s f (by simp) v (m.bQ.O f (by simp;exact⟨i.2.2.1,u⟩)) r
def gP.G(m:gP a d b c bx nq k e t l h g)(n:Obj):gP a d b c bx nq ((g.heap.size,n)::k) (g.heap.size::e) t l h (g.alloc n):=by
 have f:ai [] g (g.alloc n):=(ah [] g).G _;refine⟨m.kp.G _,m.rd.ax _,?_,m.bQ.O f (by simp),(m.cl.a8 (Y4 _)).O f (by simp),m.b2.O f (by simp),?_⟩
 .intro r j;rcases Yg.1 j with rfl|j
  .exact m.kp.a2
  .exact m.aQ r j
 .intro q i;rcases Yg.1 i with rfl|i
  .exact⟨aK rfl,Yb⟩
  .obtain⟨o,p⟩:=m.aD q i;exact⟨(f.K _ (aj o) (by simp)).trans o,Y5 _ p⟩
def gP.cv{q:List Nat}(r:Rd a d o b)(x:cU a c)(w:cU a nq)(i:gP a d b c bx nq k e t l h g)(p:ai q g j)(n:∀m∈q,m∈e)(v:∀s∈B',j.heap[s.1]? = some s.2/\s.1∈e):gP a d b c bx nq B' e t l h j:=by
 have z:=r.bh _ x.1;have y:=r.bh _ w.1;have u:∀m∈q,m∈(a.aC e).X:=λm f=>Yf _ (n m f);refine⟨i.kp.ce p (λm f=>Ya (i.aQ _ (n m f))),r.ce (cD a e) i.rd p (λm f=>⟨i.aQ _ (n m f),u m f⟩),i.aQ,i.bQ.O p ?_,i.cl.O p u,i.b2.O p ?_,v⟩
 .intro f;have:=i.aQ _ (n _ f);omega
 .intro f;have:=i.aQ _ (n _ f);omega
end
def jC(d:ByteArray):PX eW eu:=aw (lift (lH d)) λe=>aw (hr (name d (aT 0 0))) λa=>aw (lift (bV d [40])) λ_=>aw (lift (lH d)) λb=>aw (lift (bV d [41])) λ_=>
 aw (kL (mg d)) λc=>cH ⟨a.1,a.2,e,b,c⟩
abbrev kN(c:eu):List Value:=lw c.t c.w++[bX c.dr,bX c.c4,.int .i64 c.num]
def wC{j:Type}(a:Ad)(d:ByteArray)(b:World)(c nq:Nat)(i:Except Mar.a5 (j×eW×St))(k:j->Value)(h:Ending)(e:World):Prop:=
 ai [a.R,a.S,a.N,c,nq] b e/\((∃g t l n,i=.ok (g,(t,l),n)/\h=.returned (k g)/\Rd a d n e/\dq c t e/\cO nq l e)\/(∃f,i=.error f/\fg b f.no f.w h e))
def qL{i:Type}{a:Ad}{M':List Nat}{d:ByteArray}{b w1 g:World}{c nq:Nat}{h:Except Mar.a5 (i×eW×St)}{j:i->Value}{f:Mar.a5}{e:Nat}
  (m:ai [a.R,a.S,a.N,c,nq] b g) (n:ai M' b w1) (o:h=.error f) (k:w1.heap.size<=e) (l:g.heap[e]? = some (.cells #[.int .i64 f.no,.int .i64 f.w] 179)) :
  wC a d b c nq h j (.panicked [{ v:=.iface 143 (.pointer (some ⟨e,0,none⟩)),recovered:=false }]) g:=⟨m,Ya ⟨f,o,e,Yz n.a2 k,rfl,l⟩⟩
def Da{c a:Ad}(e:eH c a){d:ByteArray}{h:St}{b:World}(f:Rd c d h b) :
  Calls prog 269 #[.pointer (some ⟨a.R,0,none⟩)] b (dD [a.S] c d b (lH d h) bX):=by
 have:=OW f;rw[e.1,e.2.1]at this;exact this
def AG{e a:Ad}(f:eH e a){d:ByteArray}{h:St}{c:Nat}{l:List (Int×Int)}{b:World}(g:Rd e d h b)(j:cU e c)(i:cO c l b) :
  Calls prog 204 #[.pointer (some ⟨a.R,0,none⟩),.map (some c)] b (jl [a.S,c] e d b (mg d l h) ia (cO c)):=by
 have:=HA g j i;rw[f.1,f.2.1]at this;exact this
def fm(a:Ty):∃b v,bX a=.iface b v:=by cases a<;>exact⟨_,_,rfl⟩
def uC{a:Nat}{f t c d e:Value}{g:TypeId}{b:World}(h:b.heap[a]? = some (.cells #[f,t,c,d,e] g)) :
  b.cell? ⟨a,0,none⟩=some f/\b.cell? ⟨a,1,none⟩=some t/\b.cell? ⟨a,2,none⟩=some c/\b.cell? ⟨a,3,none⟩=some d/\b.cell? ⟨a,4,none⟩=some e/\∀i,b.frozen? ⟨a,i,none⟩=false:=by
 refine⟨?_,?_,?_,?_,?_,?_⟩<;>simp[World.cell?,World.frozen?,h]
def MN{a:Ad}{d:ByteArray}{h:St}{c bx nq:Nat}{t:List (List UInt8)}{l:List (Int×Int)}{b:World}(g:Rd a d h b)(n:cU a c)(m:cU a nq)(S:c≠nq)(d6:dq c t b)(c7:bn a.X (aT c bx).bs b)(c9:cO nq l b) :
  Calls prog 256 #[.pointer (some ⟨a.R,0,none⟩),(aT c bx).v,.map (some nq)] b (wC a d b c nq (jC d (t,l) h) λp=>.agg (kN p).toArray):=by
 have c4:gP a d b c bx nq [] [] t l h b:=⟨ah _ _,g,by simp,d6,c7,c9,by simp⟩;have D:=Z (c4.G (.cells #[.string ⟨#[]⟩,.int .i64 0,.nilIface,.nilIface,.int .i64 0] 446));go_in;go_wp2_with fail;refine(Da (cD a _) D.j.rd).mono ?_;rintro z e9 ⟨a6,⟨M,f4,K,rfl,d1⟩|⟨A,K,y,j,rfl,k⟩⟩;rotate_left
 .exact aq (qL (D.j.kp.u (a6.af (by simp))) D.j.kp (bm (cj K)) j k)
 have o:=Z (D.j.cm g n m a6 d1);obtain⟨J,N,a3⟩:=fm M;rw[a3];go_wp2_with fail;refine(xf (bx:=bx) (cD a _) (n.aC _) o.j.rd o.j.bQ o.j.cl).mono ?_;rintro z f ⟨P,⟨e,a2,e4,a0,rfl,b2,b3⟩|⟨A,a0,y,j,rfl,k⟩⟩;rotate_left
 .exact aq (qL (o.j.kp.u (P.af (by simp))) o.j.kp ((aF (aX K)).trans (bm (rL a0))) j k)
 have e8:b.heap.size<f.heap.size:=aj ((o.j.h0 g n m S P b2 b3).aD (b.heap.size,.cells #[.string ⟨#[]⟩,.int .i64 0,.nilIface,.nilIface,.int .i64 0] 446) Yb).1;have E:=Z ((o.j.h0 g n m S P b2 b3).G (.cells #[.string ⟨e.1.toArray⟩,.int .i64 e.2,.iface J N,.nilIface,.int .i64 0] 446))
 have s:U (jC d (t,l) h=aw (lift (bV d [40])) (λ_=>aw (lift (lH d)) λx=>aw (lift (bV d [41])) λ_=>aw (kL (mg d)) λq=>cH ⟨e.1,e.2,M,x,q⟩) (a2,l) e4):=(aF (aX K)).trans (aF (rM a0));dsimp only[fT];go_wp2_with fail;refine(fh (cD a _) _ E.j.rd).mono ?_;rintro z f0 ⟨a7,⟨f2,f5,r,rfl,d2⟩|⟨A,r,y,j,rfl,k⟩⟩;rotate_left
 .exact aq (qL (E.j.kp.u (a7.af (by simp))) E.j.kp (s.j.trans (bm (cj r))) j k)
 have F:=Z (E.j.cm g n m a7 d2);go_wp2_with fail;refine(Da (cD a _) F.j.rd).mono ?_;rintro z c0 ⟨a8,⟨x,f6,B,rfl,d3⟩|⟨A,B,y,j,rfl,k⟩⟩;rotate_left
 .exact aq (qL (F.j.kp.u (a8.af (by simp))) F.j.kp (s.j.trans ((aF (aX r)).trans (bm (cj B)))) j k)
 have G:=F.j.cm g n m a8 d3;obtain⟨w,C,a4⟩:=fm x;rw[a4];obtain⟨b5,b6,b7,b8,b9,c8⟩:=uC (G.aD (f.heap.size,_) Yb).1;have H:=Z (G.cv (B':=[(f.heap.size,.cells #[.string ⟨e.1.toArray⟩,.int .i64 e.2,.iface J N,.iface w C,.int .i64 0] 446),(b.heap.size,.cells #[.string ⟨#[]⟩,.int .i64 0,.nilIface,.nilIface,.int .i64 0] 446)]) g n m ((ah [f.heap.size] c0).a6 (p:=⟨f.heap.size,3,none⟩) (by simp) (.iface w C)) (by simp) (by
  intro p b1;simp only[Yg,List.not_mem_nil,or_false]at b1;rcases b1 with rfl|rfl
  .exact⟨bv (i:=3) (G.aD (f.heap.size,_) Yb).1 _,by simp⟩
  .have a5:=(G.aD (b.heap.size,.cells #[.string ⟨#[]⟩,.int .i64 0,.nilIface,.nilIface,.int .i64 0] 446) (Y5 _ Yb)).1;exact⟨(((ah [f.heap.size] c0).a6 (p:=⟨f.heap.size,3,none⟩) (by simp) (.iface w C)).K _ (aj a5) (by simp;omega)).trans a5,by simp⟩))
 go_wp2_with fail;refine(fh (cD a _) _ H.j.rd).mono ?_;rintro z f1 ⟨a9,⟨f3,f7,L,rfl,d4⟩|⟨A,L,y,j,rfl,k⟩⟩;rotate_left
 .exact aq (qL (H.j.kp.u (a9.af (by simp))) H.j.kp (s.j.trans ((aF (aX r)).trans ((aF (aX B)).trans (bm (cj L))))) j k)
 have u:=Z (H.j.cm g n m a9 d4);go_wp2_with fail;refine(AG (cD a _) u.j.rd (m.aC _) u.j.b2).mono ?_;rintro z e3 ⟨b0,⟨q,b4,c1,a1,rfl,d5,d0⟩|⟨A,a1,y,j,rfl,k⟩⟩;rotate_left
 .exact aq (qL (u.j.kp.u (b0.af (by simp))) u.j.kp (s.j.trans ((aF (aX r)).trans ((aF (aX B)).trans ((aF (aX L)).trans (bm (vE a1)))))) j k)
 have O:=u.j.o2 g n m S b0 d5 d0;have c2:U (jC d (t,l) h=.ok (⟨e.1,e.2,M,x,q⟩,(a2,b4),c1)):=s.j.trans ((aF (aX r)).trans ((aF (aX B)).trans ((aF (aX L)).trans ((aF (vF a1)).trans rfl))));have c6:=(O.aD (f.heap.size,_) Yb).1;have c5:=(O.aD (b.heap.size,.cells #[.string ⟨#[]⟩,.int .i64 0,.nilIface,.nilIface,.int .i64 0] 446) (Y5 _ Yb)).1;obtain⟨b5,b6,b7,b8,b9,c8⟩:=uC c6;obtain⟨d8,d9,e0,e1,e2,e5⟩:=uC c5;have e6:¬f.heap.size=b.heap.size:=by omega
 have e7:¬b.heap.size=f.heap.size:=by omega
 have c3:=Z O;dsimp only[ia];go_wp2;have d7:=(((((ah [f.heap.size,b.heap.size] e3).a6 (p:=⟨f.heap.size,4,none⟩) (by simp) (.int .i64 q)).a6 (p:=⟨b.heap.size,0,none⟩) (by simp) (.string ⟨e.1.toArray⟩)).a6 (p:=⟨b.heap.size,1,none⟩) (by simp) (.int .i64 e.2)).a6 (p:=⟨b.heap.size,2,none⟩) (by simp) (.iface J N)).a6 (p:=⟨b.heap.size,3,none⟩) (by simp) (.iface w C) |>.a6 (p:=⟨b.heap.size,4,none⟩) (by simp) (.int .i64 q)
 have I:=c3.j.cv (B':=[]) g n m d7 (by simp) (by simp);refine bodyPost_ret (v:=.agg #[.string ⟨e.1.toArray⟩,.int .i64 e.2,.iface J N,.iface w C,.int .i64 q]) (by simp[results,results256,go_sem,d8,d9,e0,e1,e2,b5,b6,b7,b8,b9]) rfl ⟨I.kp,Y8 ⟨⟨e.1,e.2,M,x,q⟩,a2,b4,c1,c2.j,?_,jq g.aI I.rd,I.bQ,I.b2⟩⟩
 rw[<-a3,<-a4]
structure eT(A:Ad)(j:ByteArray)(h:World)(r o:TypeId)(q a c nq:Nat)(e:List (Nat×Obj))(n:List UInt8×Nat)(jU:Nat)(k:List Value)(s:List (Nat×Obj))(d:List Nat)(t:List (List UInt8))(l:List (Int×Int))(f:Value)(v:St)(u:World):Prop where
 kp:ai [A.R,A.S,A.N] h u
 rd:Rd (A.aC d) j v u
 aI:∀b∈a::c::nq::e.map (·.1),b∈d
 nd:(a::c::nq::e.map (·.1)).Nodup
 aQ:∀y∈d,h.heap.size<=y
 ax:∀g,f.ownBlock=some g->g∈d/\g ∉ a::c::nq::e.map (·.1)
 bQ:dq c t u
 b2:cO nq l u
 aD:u.heap[a]? = some (.cells #[.string ⟨n.1.toArray⟩,.int .i64 n.2,f,.int .i64 0] r)
 e9:∀p∈e,u.heap[p.1]? = some p.2
 row:u.ownsRow h.heap.size o q f jU k
 ev:bn (A.aC d).X s u
section
variable {A : Ad} {j : ByteArray} {h u w : World} {r o : TypeId} {q a c nq : Nat} {e : List (Nat × Obj)} {n : List UInt8 × Nat} {jU : Nat} {k : List Value} {s : List (Nat × Obj)} {d : List Nat} {t C : List (List UInt8)} {l B : List (Int × Int)} {f : Value} {v z x : St}
def eT.dG(i:eT A j h r o q a c nq e n jU k s d t l f v u):∃ad b,f=.slice ad jU b:=by
 rcases i.row.2 with⟨rfl,g⟩|⟨p,b,m,rfl,_⟩
 .exact⟨none,0,by rw[g]⟩
 .exact⟨_,_,rfl⟩
def eT.b1(i:Rd A j x h)(m:eT A j h r o q a c nq e n jU k s d t l f v u){b:Nat}(g:b∈d):cU (A.aC d) b:=by
 obtain⟨w,y,z,B⟩:=i.lt;have p:=m.aQ _ g;refine⟨Yf _ g,?_,?_,?_,?_⟩<;>simp only[Ad.aC]<;>omega
def eT.cq(C:eT A j h r o q a c nq e n jU k s d t l f v u):a≠c/\a≠nq/\c≠nq/\(∀b∈e,b.1≠a/\b.1≠c/\b.1≠nq):=by
 have:=C.nd;simp only[List.nodup_cons,Yg,not_or]at this;obtain⟨⟨m,p,w⟩,⟨x,y⟩,z,_⟩:=this;refine⟨m,p,x,λb B=>?_⟩;have i:b.1∈e.map (·.1):=YE.2 ⟨b,B,rfl⟩;exact⟨λg=>w (g▸i),λg=>y (g▸i),λg=>z (g▸i)⟩
def eT.b6{E:List Nat}(J:Rd A j x h)(b:eT A j h r o q a c nq e n jU k s d t l f v u)(y:ai E u w)(p:∀i∈E,i∈[A.R,A.S,A.N,c,nq])(D:Rd (A.aC d) j z w)(P:dq c C w)(O:cO nq B w) :
  eT A j h r o q a c nq e n jU k s d C B f z w:=by
 obtain⟨a4,a5,a6,a7⟩:=J.lt;obtain⟨a0,a1,a2,H⟩:=b.cq;have a8:=b.aQ _ (b.aI a (by simp));have b0:=b.aQ _ (b.aI c (by simp));have a9:=b.aQ _ (b.aI nq (by simp));have L:∀i∈E,i∈(A.aC d).X:=by
  intro i g;have g:=p i g;simp at g;rcases g with rfl|rfl|rfl|rfl|rfl
  .exact D.aI.1
  .exact D.aI.2.1
  .exact D.aI.2.2.1
  .exact Yf _ (b.aI _ (by simp))
  .exact Yf _ (b.aI _ (by simp))
 refine⟨b.kp.ce y ?_,D,b.aI,b.nd,b.aQ,b.ax,P,O,(y.K _ (aj b.aD) ?_).trans b.aD,?_,aY b.row y ?_,b.ev.O y L⟩
 .intro i g;have g:=p i g;simp at g ⊢;omega
 .intro g;have g:=p _ g;simp at g;omega
 .intro G F;have m:=b.e9 G F;refine(y.K _ (aj m) ?_).trans m;intro g;have g:=p _ g;have K:=b.aQ _ (b.aI G.1 (by simp;exact Ya (Ya (Ya ⟨_,F⟩))));have a3:=H G F;simp at g;omega
 .intro I M g;have g:=p _ g;have m:=b.ax I M;have K:=b.aQ _ m.1;simp at g m;omega
def eT.cm(i:Rd A j x h)(b:eT A j h r o q a c nq e n jU k s d t l f v u)(g:ai [A.S] u w)(m:Rd (A.aC d) j z w):eT A j h r o q a c nq e n jU k s d t l f z w:=by
 have p:=i.lt.2.1;have B:=b.aQ _ (b.aI c (by simp));have y:=b.aQ _ (b.aI nq (by simp));exact b.b6 i g (by simp) m (b.bQ.O g (by simp;omega)) (b.b2.O g (by simp;omega))
def eT.aA(g:Rd A j x h)(m:eT A j h r o q a c nq e n jU k s d t l f v u)(b:Below u.heap.size u w):eT A j h r o q a c nq e n jU k s d t l f v w:=
 m.b6 g (bt [] b) (by simp) (m.rd.aA b) (m.bQ.O (bt [] b) (by simp)) (m.b2.O (bt [] b) (by simp))
def eT.i9(g:eT A j h r o q a c nq e n jU k s d t l f v u)(b:Obj):(u.alloc b).ownsRow h.heap.size o q f jU k:=aY g.row ((ah [] u).G b) (by simp)
def eT.hm{i:World}{g:Obj}(b:eT A j h r o q a c nq e n jU k s d t l f v u)(p:(u.alloc g).grownBy i f.ownBlock):i.heap[a]? = some (.cells #[.string ⟨n.1.toArray⟩,.int .i64 n.2,f,.int .i64 0] r):=by
 have w:=aj b.aD;exact(p.block _ (by simp;omega) (λm=>(b.ax _ m.symm).2 (by simp))).trans ((((ah [] u).G g).K _ w (by simp)).trans b.aD)
def eT.j6{w:World}{m:Obj}(i:eT A j h r o q a c nq e n jU k s d t l f v u)(y:(u.alloc m).grownBy w f.ownBlock){p:Nat×Obj}(g:p∈e):w.heap[p.1]? = some p.2:=by
 have b:=i.e9 p g;have z:=aj b;exact(y.block _ (by simp;omega) (λx=>(i.ax _ x.symm).2 (by simp;exact Ya (Ya (Ya ⟨_,g⟩))))).trans ((((ah [] u).G m).K _ z (by simp)).trans b)
def zy{J B:World}{g G:Nat}{a5:List Value}{bs':List (Nat×Obj)}(L:Rd A j x h)(p:eT A j h r o q a c nq e n jU k s d t l f v u)(b0:bn (A.aC d).X bs' u)(m:Below u.heap.size u J)
  (a3:B.ownsRow h.heap.size o q (.slice (some ⟨g,0,none⟩) (jU+1) G) (jU+1) (k++a5))
  (H:J.grownBy B f.ownBlock) (M:f.ownBlock=some g\/g=J.heap.size) (b3:g<B.heap.size) :
  eT A j h r o q a c nq e n (jU+1) (k++a5) (s++bs') (g::d) t l (.slice (some ⟨g,0,none⟩) (jU+1) G) v (B.setCell ⟨a,2,none⟩ (.slice (some ⟨g,0,none⟩) (jU+1) G)):=by
 obtain⟨b4,_⟩:=gK a3 (g:=g) rfl;have y:=p.aA L m;have b1:=b0.O (bt [] m) (by simp);obtain⟨b8,b9,c0,a7⟩:=p.cq;have D:a∈a::c::nq::e.map (·.1):=by simp
 have b6:c∈a::c::nq::e.map (·.1):=by simp
 have b5:nq∈a::c::nq::e.map (·.1):=by simp
 have a6:∀b∈a::c::nq::e.map (·.1),h.heap.size<=b:=λb m=>p.aQ _ (p.aI b m);have N:∀b∈a::c::nq::e.map (·.1),b<J.heap.size:=λb m=>y.rd.bh b (Yf _ (p.aI b m));have c1:=H.size;have a0:g ∉ a::c::nq::e.map (·.1):=by
  rcases M with a1|a1
  .exact(p.ax g a1).2
  .intro w;have:=N g w;omega
 have P:∀b,f.ownBlock=some b->h.heap.size<=b/\b∈(A.aC d).X:=λb m=>⟨p.aQ _ (p.ax b m).1,Yf _ (p.ax b m).1⟩;have F:=eL H;have z:ai [a] B (B.setCell ⟨a,2,none⟩ (.slice (some ⟨g,0,none⟩) (jU+1) G)):=(ah [a] B).a6 (by simp) _;have I:∀b∈a::c::nq::e.map (·.1),b ∉ f.ownBlock.toList:=by
  intro b m w;exact(p.ax b (by simpa using w)).2 m
 have a9:∀b,f.ownBlock=some b->b∈(A.aC d).X:=λb m=>(P b m).2;have a2:∀K∈[a],K∈(A.aC (g::d)).X:=by
  intro K C;simp only[Yc]at C;subst C;exact Yf _ (Y5 _ (p.aI _ D))
 refine⟨?_,?_,λb m=>Y5 _ (p.aI b m),p.nd,?_,?_,?_,?_,?_,?_,?_,?_⟩
 .refine(y.kp.ce F ?_).ce z ?_
  .intro a4 w;exact Ya (P a4 (by simpa using w)).1
  .intro a4 w;simp only[Yc]at w;subst w;exact Ya (a6 _ D)
 .exact L.ce (cD A (g::d)) (qS L (cD A d) y.rd H P M b3) z (by
   intro K C;exact⟨by simp only[Yc]at C;subst C;exact a6 _ D,a2 K C⟩)
 .intro b7 R;rcases Yg.1 R with rfl|R
  .exact b4
  .exact p.aQ b7 R
 .intro a8 E;simp only[Value.ownBlock,Yu]at E;subst E;exact⟨Yb,a0⟩
 .exact(y.bQ.O F (I _ b6)).O z (by simp;omega)
 .exact(y.b2.O F (I _ b5)).O z (by simp;omega)
 .exact bv (i:=2) ((F.K _ (N _ D) (I _ D)).trans y.aD) _
 .intro S O;have w:S.1∈a::c::nq::e.map (·.1):=by simp;exact Ya (Ya (Ya ⟨_,O⟩))
  have b2:=N _ w;exact(z.K _ (by omega) (by simp;exact(a7 S O).1)).trans ((F.K _ b2 (I _ w)).trans (y.e9 S O))
 .exact aY a3 z (by
   intro a8 E;simp only[Value.ownBlock,Yu]at E;subst E;intro w;simp only[Yc]at w;exact a0 (w▸D))
 .exact((y.ev.cF b1).bZ H a9 M).O z a2
def eT.k0(y:eT A j h r o q a c nq e n jU k s d t l f v u)(G:jU<=1000)(B:k.length=jU*q)(H:jU=0->k=[]):∃i,fy i o f jU k/\∀b∈i,u.heap[b.1]? = some b.2/\h.heap.size<=b.1/\b.1≠a:=by
 rcases y.row.2 with⟨rfl,w⟩|⟨g,z,m,rfl,C,D,E,I,J,F⟩
 .exact⟨[],Y8 ⟨rfl,w,H w⟩,by simp⟩
 .refine⟨[(g,.cells m o)],Ya ⟨g,z,m,rfl,⟨E,G⟩,by simp,?_⟩,?_⟩
  .rw[B];exact F
  .intro b x;simp only[Yc]at x;subst x;exact⟨D,C,λp=>(y.ax g rfl).2 (by simp only at p;rw[p];simp)⟩
end
section
variable {b:Ad}{c:List eu}{e:eW}{a:World}{d:St}
def Je:(prog.info? 446).map (λa=>(a.zero,a.size,a.bytes))=some (some (.agg #[.string ⟨#[]⟩,.int .i64 0,.nilIface,.nilIface,.int .i64 0]),5,64):=by kernel_rfl
def jG(f:ByteArray):PX (List eu×eW) Unit:=λa d=>match jC f a.2 d with
 |.ok (b,e,g)=>.ok ((),(a.1++[b],e),g)
 |.error c=>.error c
def Ei{f:ByteArray}{b:eW}{g:St}{a:eu}(h:jC f e d=.ok (a,b,g)):jG f (c,e) d=.ok ((),(c++[a],b),g):=by simp only[jG,h]
def Eh{b:ByteArray}{a:Mar.a5}(f:jC b e d=.error a):jG b (c,e) d=.error a:=by simp only[jG,f]
structure jP where
 VB:Nat
 rb:Nat
 cb:Nat
 nb:Nat
 q:Nat
 nq:Nat
 bx:Nat
abbrev jP.E(a:jP):List (Nat×Obj):=[(a.cb,.cells #[(aT a.q a.bx).v] 341),(a.nb,.cells #[.map (some a.nq)] 149)]
def wv(b:Ad)(j:ByteArray)(a:World)(c:jP)(h:List UInt8×Nat)(g:Nat)(f:List Nat)(e:List eu×eW)(d:St)(k:World):Prop:=e.1.length=g/\
 ∃i,eT b j a 367 446 5 c.VB c.q c.nq c.E h e.1.length (e.1.flatMap kN) (aT c.q c.bx).bs f e.2.1 e.2.2 i d k
def MO{c:Ad}(j:eH c b){f:ByteArray}{e bx nq:Nat}{h:List (List UInt8)}{g:List (Int×Int)}(i:Rd c f d a)(o:cU c e)(m:cU c nq)(n:e≠nq)(p:dq e h a)(k:bn c.X (aT e bx).bs a)(l:cO nq g a) :
  Calls prog 256 #[.pointer (some ⟨b.R,0,none⟩),(aT e bx).v,.map (some nq)] a (wC c f a e nq (jC f (h,g) d) λq=>.agg (kN q).toArray):=by
 have:=MN i o m n p k l;rw[j.1]at this;exact this
def Mk(a:eu):∀d∈kN a,d.oneCell'=true:=by
 intro d c;simp at c;rcases c with rfl|rfl|rfl|rfl|rfl
 .rfl
 .rfl
 .obtain⟨e,v,b⟩:=fm a.dr;rw[b];rfl
 .obtain⟨e,v,b⟩:=fm a.c4;rw[b];rfl
 .rfl
def tb{b:Nat}{h i e f:Value}{d:TypeId}(g:a.heap[b]? = some (.cells #[h,i,e,f] d)):∀c,a.frozen? ⟨b,c,none⟩=false:=by
 intro c;simp[World.frozen?,g]
def Sd{u:ByteArray}{r:World}{f:jP}{P:List UInt8×Nat}{D:Nat}{x:List Nat}{c9:St}(o:Rd b u c9 a)(O:a.heap[f.rb]? = some (.cells #[.pointer (some ⟨b.R,0,none⟩)] 145))(b8:f.rb ∉ [b.R,b.S,b.N])(J:D<1000)(n:wv b u a f P D x (c,e) d r) :
  Calls prog 255 #[.pointer (some ⟨f.VB,0,none⟩),.pointer (some ⟨f.rb,0,none⟩),.pointer (some ⟨f.cb,0,none⟩),.pointer (some ⟨f.nb,0,none⟩)] r (jK b a (wv b u a f P (D+1)) (jG u (c,e) d)):=by
 obtain⟨A,f1,k⟩:=n;obtain⟨c6,e0⟩:=e;dsimp only at A k;have a2:=Z A;have d7:c.length<1000:=by omega
 clear A;obtain⟨ad,H,rfl⟩:=k.dG;obtain⟨c4,b0,c0,c1,c2⟩:=info_parts Je;have M:=aj O;have B:=λ(v:World) (J:ai [b.R,b.S,b.N] a v)=>bM ((J.K _ M b8).trans O);have G:=Z B;obtain⟨f2,f3,f4,f5⟩:=jT k.aD;have e8:=B _ k.kp;have d2:=bM (k.e9 (f.cb,.cells #[(aT f.q f.bx).v] 341) (by simp[jP.E]));have e5:=bM (k.e9 (f.nb,.cells #[.map (some f.nq)] 149) (by simp[jP.E]));have a8:Below r.heap.size r r.drew:=(Below.refl _ _).drew;have h:=Z (k.aA o a8);have a1:=Z (MO (bx:=f.bx) (cD b x) h.j.rd (h.j.b1 o (h.j.aI f.q (by simp))) (h.j.b1 o (h.j.aI f.nq (by simp))) h.j.cq.2.2.1 h.j.bQ h.j.ev h.j.b2);have b1:c.length+1<=maxLen:=by unfold maxLen;omega
 have b2:(c.length+1)*64<=140737488355328:=by omega
 have c3:(Value.agg #[.string ⟨#[]⟩,.int .i64 0,.nilIface,.nilIface,.int .i64 0]).cells.size=5:=by decide
 clear k B;go_in;go_wp2_with fail;refine cS (λw=>w.cell? ⟨f.VB,2,none⟩=some (.slice ad c.length H)/\w.cell? ⟨f.rb,0,none⟩=some (.pointer (some ⟨b.R,0,none⟩))/\w.cell? ⟨f.cb,0,none⟩=some (aT f.q f.bx).v/\w.cell? ⟨f.nb,0,none⟩=some (.map (some f.nq))) (L:=9) (by kernel_rfl) rfl (by kernel_rfl) (by kernel_rfl) ?_ (λy=>?_)
 .go_keep
 refine bI [0,1,2,3,4] ?_;iterate 5 (refine bP (v:=?_) rfl (by kernel_rfl) (λ_ _ _ n=>n) (by rfl) (by assumption) ?_ ?_;rotate_left;focus (intro a z;(try dsimp only at z);go_simp;(try with_reducible rfl));(try simp only[aL,aM,List.set]))
 refine bJ ?_;refine ck 5 (by kernel_rfl) rfl λl j=>?_;(go_simp;go_at_call 256;refine a1.j.mono ?_;rintro d5 s ⟨K,⟨t,c7,c5,d0,C,rfl,b7,b9,b4⟩|⟨d6,C,d1,a7,rfl,a9⟩⟩;rotate_left;exact aq (lN (h.j.kp.ce K (by intro F p;have:=h.j.aQ _ (h.j.aI f.q (by simp));have:=h.j.aQ _ (h.j.aI f.nq (by simp));simp[Ad.aC]at p ⊢;omega)) h.j.kp (Eh C) a7 a9);have g:=Z (h.j.b6 o K (by intro F p;simpa[Ad.aC]using p) b7 b9 b4);obtain⟨f6,f7,f8,f9⟩:=jT g.j.aD;have e9:=G.j _ g.j.kp;have d3:=bM (g.j.e9 (f.cb,.cells #[(aT f.q f.bx).v] 341) (by simp[jP.E]));have e6:=bM (g.j.e9 (f.nb,.cells #[.map (some f.nq)] 149) (by simp[jP.E]));have e1:=aj g.j.aD;have e4:=Yr M g.j.kp.a2;have e2:=aj (g.j.e9 (f.cb,.cells #[(aT f.q f.bx).v] 341) (by simp[jP.E]));have e3:=aj (g.j.e9 (f.nb,.cells #[.map (some f.nq)] 149) (by simp[jP.E]));have d9:=g.j.kp.a2;dsimp only[kN,lw,List.append_toArray,YX,YT]);refine j.out _ _ ?_ (λy=>?_)
 .go_keep
 clear j l;(try simp only[aL,aM,List.set]);refine ck 6 (by kernel_rfl) rfl λl j=>?_;go_simp;refine j.out _ _ ?_ (λy=>?_)
 .go_keep
 clear j l;(try simp only[aL,aM,List.set]);refine ck 7 (by kernel_rfl) rfl λl j=>?_;(refine step_append_lies _ (by rfl) _ _ _ (by rfl) a.heap.size 446 c4 _ 5 64 underlying365 b0 c0 c1 c2 c3 (by omega) (.slice ad c.length H) c.length (c.flatMap kN) (by rfl) (g.j.i9 _) ⟨s.heap.size,0,none⟩ 1 1 (kN t) (by rfl) (by rfl) (World.news_of_block (cs:=(kN t).toArray) (t:=446) (fr:=(0,0)) (heap_alloc_new s _)) (Mk t) (by omega) b1 b2 (by simp;omega) (s.heap.size+1) (by simp) ?_;intro I a4 c8 b5 m a6 b3;obtain⟨g0,g1,g2,g3⟩:=jT (g.j.hm m);have d8:=tb (g.j.hm m);have d4:=bM (g.j.j6 m (p:=(f.cb,.cells #[(aT f.q f.bx).v] 341)) (by simp[jP.E]));have e7:=bM (g.j.j6 m (p:=(f.nb,.cells #[.map (some f.nq)] 149)) (by simp[jP.E]));have f0:c8.cell? ⟨f.rb,0,none⟩=some (.pointer (some ⟨b.R,0,none⟩)):=G.j _ (((g.j.kp.G _)).ce (eL m) (by intro F p;have a5:=g.j.ax F (by simpa using p);exact Ya (g.j.aQ _ a5.1))));refine j.out _ _ ?_ (λy=>?_)
 .go_keep
 clear j l;(try simp only[aL,aM,List.set]);refine tk (i:=8) (v:=?_) rfl (by kernel_rfl) (λ_ _ _ n=>n) (by rfl) (by assumption) ?_ ?_;rotate_left
 .intro a z;(try dsimp only at z);go_simp;(try with_reducible rfl)
 (try simp only[aL,aM,List.set]);refine cQ (by kernel_rfl) rfl λl j=>?_;go_simp;refine j.out _ _ ?_;clear j l;(try simp only[aL,aM,List.set]);have a3:=zy (bs':=[]) o g.j (by intro a0 b6;cases b6) ((Below.refl s.heap.size s).alloc (Y4 _) _) b5 m (by simpa using a6) b3;go_wp2;go_end0;refine Y8 ⟨I::x,(c++[t],(c7,c5)),d0,Ei C,rfl,by simp[a2.j],.slice (some ⟨I,0,none⟩) (c.length+1) a4,?_⟩;simpa using a3
end
section
variable {a:Ad}{nq b:Nat}{w:World}
def Se(args:Array Value)(a:World):(callFunc 255 args).run prog a=.ok (.enter 255 args) a:=by kernel_rfl
def Sk{d:ByteArray}{n:St}(g:Rd a d n w)(b:jP)(j:w.heap[b.rb]? = some (.cells #[.pointer (some ⟨a.R,0,none⟩)] 145))(k:b.rb ∉ [a.R,a.S,a.N])(l:List UInt8×Nat):uo (List eu×eW) a d w 8 where
 f:=255
 kw:=#[.pointer (some ⟨b.VB,0,none⟩),.pointer (some ⟨b.rb,0,none⟩),.pointer (some ⟨b.cb,0,none⟩),.pointer (some ⟨b.nb,0,none⟩)]
 ba:=jG d
 J:=wv a d w b l
 gD:=Se
 rd:=by rintro _ _ _ _ _ ⟨_,_,c⟩;exact c.rd
 kp:=by rintro _ _ _ _ _ ⟨_,_,c⟩;exact c.kp
 cm:=by rintro _ _ _ _ _ _ _ ⟨e,m,c⟩ h i;exact⟨e,m,c.cm g h i⟩
 call:=by
  intro p o q s r h e
  exact Sd g j k (by omega) e
def ub(a:ByteArray)(b:List UInt8×Nat):PX eW eJ:=aw (lift (ih (ew a 8 (jG a)) ([],([],[])))) λd=>aw (kL (mg a)) λc=>cH ⟨b.1,b.2,d.1,c⟩
def jF(a:ByteArray):PX eW eJ:=aw (lift (bV a [118,101,114,115,105,111,110])) λ_=>aw (hr (name a (aT 0 0))) (ub a)
def wD(a:Ad)(l:ByteArray)(w:World)(b nq:Nat)(h:Except Mar.a5 (eJ×eW×St))(f:Ending)(c:World):Prop:=
 ai [a.R,a.S,a.N,b,nq] w c/\((∃v j g k i e,h=.ok (v,(j,g),k)/\f=.returned (.agg #[.string ⟨v.t.toArray⟩,.int .i64 v.w,i,.int .i64 v.num])/\Rd a l k c/\dq b j c/\cO nq g c/\fy e 446 i v.ak.length (v.ak.flatMap kN)/\bn a.X e c)\/(∃d,h=.error d/\fg w d.no d.w f c))
def um{M':List Nat}{l:ByteArray}{w1 d:World}{e:Except Mar.a5 (eJ×eW×St)}{f:Mar.a5}{c:Nat}
  (i:ai [a.R,a.S,a.N,b,nq] w d) (j:ai M' w w1) (k:e=.error f) (g:w1.heap.size<=c) (h:d.heap[c]? = some (.cells #[.int .i64 f.no,.int .i64 f.w] 179)) :
  wD a l w b nq e (.panicked [{ v:=.iface 143 (.pointer (some ⟨c,0,none⟩)),recovered:=false }]) d:=⟨i,Ya ⟨f,k,c,Yz j.a2 g,rfl,h⟩⟩
def JN:∀a:List eu,(a.flatMap kN).length=a.length*5:=by
 intro a;induction a with
 |nil=>rfl
 |cons c d b=>simp only[YD,Yq,YC,b];simp;omega
def Sg{k:ByteArray}{I:St}{bx:Nat}{H:List (List UInt8)}{z:List (Int×Int)}(g:Rd a k I w)(n:cU a b)(t:cU a nq)(e0:b≠nq)(h1:dq b H w)(g2:bn a.X (aT b bx).bs w)(g5:cO nq z w) :
  Calls prog 203 #[.pointer (some ⟨a.R,0,none⟩),(aT b bx).v,.map (some nq)] w (wD a k w b nq (jF k (H,z) I)):=by
 have k2:=jw;have k3:=jx;have d0:gP a k w b bx nq [] [] H z I w:=⟨ah _ _,g,by simp,h1,g2,g5,by simp⟩;have e8:(w.alloc (.cells #[.pointer (some ⟨a.R,0,none⟩)] 145)).heap.size=w.heap.size+1:=by simp
 have L:=(d0.G (.cells #[.pointer (some ⟨a.R,0,none⟩)] 145)).G (.cells #[.string ⟨#[]⟩,.int .i64 0,.slice none 0 0,.int .i64 0] 367);rw[e8]at L;have A:=Z L;have i3:=bM (L.aD (w.heap.size,.cells #[.pointer (some ⟨a.R,0,none⟩)] 145) (by simp)).1;clear d0 L e8;go_in;go_wp2_with fail;refine(fh (cD a _) _ A.j.rd).mono ?_;rintro O l2 ⟨b5,⟨l3,l5,D,rfl,e3⟩|⟨a8,D,M,r,rfl,s⟩⟩;rotate_left
 .exact aq (um (A.j.kp.u (b5.af (by simp))) A.j.kp (bm (cj D)) r s)
 have l:=Z (A.j.cm g n t b5 e3);have i4:=bM (l.j.aD (w.heap.size,.cells #[.pointer (some ⟨a.R,0,none⟩)] 145) (by simp)).1;clear b5 e3 A i3;go_wp2_with fail;refine(xf (bx:=bx) (cD a _) (n.aC _) l.j.rd l.j.bQ l.j.cl).mono ?_;rintro O e ⟨b6,⟨d,c6,c7,a4,rfl,e4,e9⟩|⟨a8,a4,M,r,rfl,s⟩⟩;rotate_left
 .exact aq (um (l.j.kp.u (b6.af (by simp))) l.j.kp ((aF (aX D)).trans (bm (rL a4))) r s)
 have f:=Z (l.j.h0 g n t e0 b6 e4 e9);have J:U (jF k (H,z) I=ub k d (c6,z) c7):=(aF (aX D)).trans (aF (rM a4));have a0:=(f.j.aD (w.heap.size,.cells #[.pointer (some ⟨a.R,0,none⟩)] 145) (by simp)).1;clear b6 e4 e9 l i4 D a4;dsimp only[fT];go_wp2_with fail;refine(ux _).mono ?_;rintro O c ⟨h,j,rfl,e2,g1,g7,a9,P,c2⟩;dsimp only[cN.v,aT];have h2:(e.alloc (.cells #[.string ⟨d.1.toArray⟩,.int .i64 d.2,.slice none 0 0,.int .i64 0] 367)).heap.size=e.heap.size+1:=by simp
 have a6:=aj a0;have b9:h<c.heap.size:=by
  obtain⟨_,_,_,C⟩:=id a9;exact aj C
 have d7:=aj c2;have k7:=P.size;have b7:=bt [] P;have c1:=(b7.K _ (by omega) (by simp)).trans (aK (w:=e) (o:=.cells #[.string ⟨d.1.toArray⟩,.int .i64 d.2,.slice none 0 0,.int .i64 0] 367) rfl);have e5:=(f.j.rd.ax (.cells #[.string ⟨d.1.toArray⟩,.int .i64 d.2,.slice none 0 0,.int .i64 0] 367)).k5 P e2 b9;obtain⟨i,m⟩:∃i,i=((c.alloc (.map #[] 0)).alloc (.cells #[(aT h j).v] 341)).alloc (.cells #[.map (some c.heap.size)] 149):=⟨_,rfl⟩;have a1:(c.alloc (.map #[] 0)).heap.size=c.heap.size+1:=by simp
 have a2:((c.alloc (.map #[] 0)).alloc (.cells #[(aT h j).v] 341)).heap.size=c.heap.size+2:=by simp
 have c0:=((e5.ax (.map #[] 0)).ax (.cells #[(aT h j).v] 341)).ax (.cells #[.map (some c.heap.size)] 149);rw[a1,a2,<-m]at c0;have F:ai [] c i:=by rw[m];exact(((ah [] c).G _).G _).G _
 have d8:i.heap[c.heap.size]? = some (.map #[] 0):=by
  rw[m];exact((((ah [] _).G _).G _).K _ (by rw[a1];omega) (by simp)).trans (aK rfl)
 have d4:i.heap[c.heap.size+1]? = some (.cells #[(aT h j).v] 341):=by
  rw[m];exact(((ah [] _).G _).K _ (by rw[a2];omega) (by simp)).trans (aK a1.symm)
 have d9:i.heap[c.heap.size+2]? = some (.cells #[.map (some c.heap.size)] 149):=by
  rw[m];exact aK a2.symm
 have c4:ai [] e i:=(((ah [] e).G _).u b7).u F;have e7:w.heap.size ∉ [a.R,a.S,a.N]:=by obtain⟨h5,h6,a6,h7⟩:=g.lt;simp;omega
 have c9:U (eT (a.aC [w.heap.size+1,w.heap.size]) k e 367 446 5 e.heap.size h c.heap.size [(c.heap.size+1,.cells #[(aT h j).v] 341),(c.heap.size+2,.cells #[.map (some c.heap.size)] 149)] d 0 [] (aT h j).bs [c.heap.size+2,c.heap.size+1,c.heap.size,h,e.heap.size] [] [] (.slice none 0 0) c7 i):=by
  refine⟨c4.af (by simp),c0,?_,?_,?_,(by intro j3 g4;cases g4),?_,d8,(F.K _ (aj c1) (by simp)).trans c1,?_,⟨rfl,Y8 ⟨rfl,rfl⟩⟩,?_⟩
  .intro M f9;simp at f9 ⊢;omega
  .simp;omega
  .intro l4 h4;simp at h4;omega
  .have f7:dq h [] c:=a9;exact f7.O F (by simp)
  .intro p u;simp only[Yg,List.not_mem_nil,or_false]at u;rcases u with rfl|rfl
   .exact d4
   .exact d9
  .intro p u;simp only[aT,Yc]at u;subst u;refine⟨(F.K _ d7 (by simp)).trans c2,?_⟩;have j6:=f.j.kp.a2;have j7:w.heap.size+1<e.heap.size:=aj (f.j.aD (w.heap.size+1,.cells #[.string ⟨#[]⟩,.int .i64 0,.slice none 0 0,.int .i64 0] 367) (by simp)).1;simp[Ad.aC];refine⟨by omega,by omega,by omega,by omega,by omega,by omega,by omega,?_⟩;intro C;have:=g.bh _ C;omega
 have c5:=bM ((c4.K _ a6 (by simp)).trans a0);rw[m]at c5;clear c0 e5 d8 d4 d9 c1 a9 c2 P b7 F b9 d7 e2 g1 g7;dsimp only[cN.v,aT]at c5;go_wp2_with fail;rw[show ((c.alloc (.map #[] 0)).alloc (.cells #[.func (.func 251) #[] #[.pointer (some ⟨j,0,none⟩)]] 341)).alloc (.cells #[.map (some c.heap.size)] 149)=i from m.symm];have c8:wv (a.aC [w.heap.size+1,w.heap.size]) k e ⟨e.heap.size,w.heap.size,c.heap.size+1,c.heap.size+2,h,c.heap.size,j⟩ d 0 [c.heap.size+2,c.heap.size+1,c.heap.size,h,e.heap.size] ([],([],[])) c7 i:=⟨rfl,_,c9.j⟩;refine(wW 8 (Sk f.j.rd ⟨e.heap.size,w.heap.size,c.heap.size+1,c.heap.size+2,h,c.heap.size,j⟩ a0 e7 d) (by omega) c8).mono ?_;rintro O j0 (⟨d1,⟨x,l1,k9⟩,l6,a5,rfl,k8,b8,d6,l0,b0⟩|⟨a8,a5,b8,M,r,rfl,s⟩);rotate_left
 .exact aq (um (f.j.kp.u (b8.af (by simp[Ad.aC]))) f.j.kp (J.j.trans (bm (cj (tP a5)))) r s)
 dsimp only at d6 b0;have k6:x.length<=8:=by omega
 clear d6 b8;have d3:eH ((a.aC [w.heap.size+1,w.heap.size]).aC d1) a:=⟨rfl,rfl,rfl,rfl⟩;have q:ai [a.R,a.S,a.N] e j0:=b0.kp;have i5:=bM ((q.K _ a6 e7).trans a0);have g6:nq ∉ [a.R,a.S,a.N]:=by simp;exact⟨t.2.1,t.2.2.1,t.2.2.2.1⟩
 have g8:b ∉ [a.R,a.S,a.N]:=by simp;exact⟨n.2.1,n.2.2.1,n.2.2.2.1⟩
 have e1:=f.j.b2.O q g6;have g3:cU ((a.aC [w.heap.size+1,w.heap.size]).aC d1) nq:=(t.aC _).aC _;have y:=Z b0;clear c9 c8 c5 m c4 h2 a1 a2;go_wp2_with fail;refine(AG d3 y.j.rd g3 e1).mono ?_;rintro O j1 ⟨B,⟨E,f0,f2,c3,rfl,e6,d5⟩|⟨a8,c3,M,r,rfl,s⟩⟩;rotate_left
 .exact aq (um ((f.j.kp.u (q.af (by simp))).u (B.af (by simp))) (f.j.kp.u (q.af (M':=[a.R,a.S,a.N,b,nq]) (by simp))) (J.j.trans ((aF (aX (oI a5))).trans (bm (vE c3)))) r s)
 have k0:=g.lt.2.1;have k1:=g.bh _ t.1;have b9:=g.bh _ n.1;have b1:=(f.j.aD (w.heap.size+1,.cells #[.string ⟨#[]⟩,.int .i64 0,.slice none 0 0,.int .i64 0] 367) (by simp)).1;have h8:=aj b1;have f8:w.heap.size+1 ∉ [a.R,a.S,a.N]:=by obtain⟨h5,h6,a6,h7⟩:=g.lt;simp;omega
 have b2:=(q.K _ h8 f8).trans b1;have b3:=(B.K _ (aj b2) (by simp;omega)).trans b2;have b4:=(B.K _ (aj y.j.aD) (by simp;omega)).trans y.j.aD;obtain⟨h9,i0,i1,i2⟩:=jT b3;have j8:=tb b3;obtain⟨i6,i7,i8,i9⟩:=jT b4;have j9:=tb b4;obtain⟨ad,a7,rfl⟩:=y.j.dG;have f3:U (jF k (H,z) I=.ok (⟨d.1,d.2,x,E⟩,(c6,f0),f2)):=J.j.trans ((aF (aX (oI a5))).trans ((aF (vF c3)).trans rfl));have k4:¬e.heap.size=w.heap.size+1:=by omega
 have k5:¬w.heap.size+1=e.heap.size:=by omega
 have K:=Z B;have f5:=Z e6;have f4:=Z d5;clear B e6 d5 J b1 b2 e1 i5 b3 b4;dsimp only[ia];go_wp2;have G:=((((ah [e.heap.size,w.heap.size+1] j1).a6 (p:=⟨e.heap.size,3,none⟩) (by simp) (.int .i64 E)).a6 (p:=⟨w.heap.size+1,0,none⟩) (by simp) (.string ⟨d.1.toArray⟩)).a6 (p:=⟨w.heap.size+1,1,none⟩) (by simp) (.int .i64 d.2)).a6 (p:=⟨w.heap.size+1,2,none⟩) (by simp) (.slice ad x.length a7) |>.a6 (p:=⟨w.heap.size+1,3,none⟩) (by simp) (.int .i64 E);obtain⟨f6,h3,g0⟩:=y.j.k0 (by omega) (JN x) (by intro g;rw[Yv.1 g];rfl);have h0:=g.ce d3 f5.j G (by
  intro j2 a3;simp only[Yg,List.not_mem_nil,or_false]at a3;rcases a3 with rfl|rfl
  .exact⟨by omega,Yf _ (y.j.aI _ (by simp))⟩
  .exact⟨by omega,Ym _ (by simp[Ad.aC])⟩)
 have g9:=jq g.aI (jq f.j.rd.aI h0);refine bodyPost_ret (v:=.agg #[.string ⟨d.1.toArray⟩,.int .i64 d.2,.slice ad x.length a7,.int .i64 E]) (by simp[results,results203,go_sem,h9,i0,i1,i2,i6,i7,i8,i9]) rfl ⟨?_,Y8 ⟨⟨d.1,d.2,x,E⟩,c6,f0,f2,.slice ad x.length a7,f6,f3.j,rfl,g9,?_,?_,h3,?_⟩⟩
 .refine(((f.j.kp.u (q.af (by simp))).u (K.j.af (by simp))).ce G ?_);intro j2 a3;simp only[Yg,List.not_mem_nil,or_false]at a3;exact Ya (by omega)
 .exact((f.j.bQ.O q g8).O K.j (by simp;exact⟨n.2.2.1,e0⟩)).O G (by simp;omega)
 .exact f4.j.O G (by simp;omega)
 .intro p u;obtain⟨d2,j4,j5⟩:=g0 p u;have f1:=aj d2;refine⟨(G.K _ (Yr f1 K.j.a2) (by simp;omega)).trans ((K.j.K _ f1 (by simp;omega)).trans d2),?_⟩;intro C;have:=g.bh _ C;omega
end
section
variable {b g:Ad}{f:Mar.a5}{j:List (Int×Int)}{p:Int->Bool}{e:List eJ}{i:eW}{d:World}{c h:St}
def Rd.q6{o:ByteArray}{l:World}(a:Rd b o c d)(f:ai [b.P] d l)(g:cO b.P j l):Rd b o { c with aa:=j } l:=by
 obtain⟨E,F,L,M⟩:=a.lt;obtain⟨I,J,r,K,s,t⟩:=a.cq;have A:d.heap[b.P]? = some (.map (c.aa.mapIdx λC p=>(⟨.int .i64 p.1,.int .i64 p.2,C⟩:MapEntry)).toArray c.aa.length):=a.pr;have i:∀h v,d.cell? ⟨h,0,none⟩=some v->h≠b.P:=by
  intro h v k u;subst u;unfold World.cell? at k;rw[A]at k;cases k
 obtain⟨⟨N,w⟩,⟨_,_,x⟩,⟨_,_,y⟩⟩:=id a.gl;refine⟨(f.K _ E (by simp;exact r)).trans a.me,?_,a.nm.O f (by simp;exact a.aI.2.2.2) (by simp;exact t),a.aI,λm B=>Yr (a.bh m B) f.a2,g,a.np,a.gl.O f (by simp[i _ _ w]) (by simp[i _ _ x]) (by simp[i _ _ y]),a.e6,a.b0⟩;obtain⟨z,e⟩:=a.sc;refine⟨z,?_⟩;have n:=f.K _ F (by simp;exact s);show match c.nx with|some m=>_|none=>_
 cases g:c.nx with
 |some m=>rw[g]at e;exact n.trans e
 |none=>rw[g]at e;obtain⟨D,H,G,q,e⟩:=e;exact⟨D,H,G,q,n.trans e⟩
def mq(d:ByteArray)(p:Int->Bool):PM Int:=λc=>match fU d p c.aa c with
 |.ok (b,a,h)=>.ok (b,{ h with aa:=a })
 |.error f=>.error f
def yq{d:ByteArray}{b:Int}{a:List (Int×Int)}(e:fU d p c.aa c=.ok (b,a,h)):mq d p c=.ok (b,{ h with aa:=a }):=by simp only[mq,e]
def vB{a:ByteArray}(b:fU a p c.aa c=.error f):mq a p c=.error f:=by simp only[mq,b]
def LX{o:ByteArray}{v:Value}(k:Rd b o c d)(y:gA b.X v p d) :
  Calls prog 250 #[.pointer (some ⟨b.R,0,none⟩),.map (some b.P),v] d (dD [b.S,b.P] b o d (mq o p c) ia):=by
 have t:=Z (Eg k y);have q:cO b.P c.aa d:=k.pr;have z:b.P ∉ [b.S]:=by simp;exact λj=>k.cq.2.2.2.2.1 j.symm
 go_in;go_wp2_with fail;refine t.j.mono ?_;rintro j E ⟨e,⟨B,G,h,rfl,A⟩|⟨f,h,x,l,rfl,m⟩⟩;rotate_left
 .exact aq (er (e.af (by simp)) (ah [] _) (vB (bm (cj h))) l m)
 have r:=q.O e z;have i:=Z (e.af (M':=[b.S,b.P]) (by simp));clear e q;go_wp2_with fail;refine(DN _ _ r).mono ?_;rintro j F ⟨g,⟨C,D,n,rfl,rfl,s⟩|⟨f,n,x,l,rfl,m⟩⟩;rotate_left
 .exact aq (er (i.j.u (g.af (by simp))) i.j (vB ((aF (aX h)).trans (bm (rS n)))) l m)
 have w:=Z (A.q6 g s);have u:=Z (i.j.u (g.af (M':=[b.S,b.P]) (by simp)));clear r g s;go_wp2;go_ret;exact fp (a:=B.1) u.j (yq ((aF (aX h)).trans (aF (rT n)))) rfl w.j
def nf(a:ByteArray):PM Int:=av (bV a [61]) λ_=>av (mq a (dj 0 4294967295)) λb=>av (bV a [59]) λ_=>bT b
def Hy{q:ByteArray}(y:Rd b q c d) :
  Calls prog 204 #[.pointer (some ⟨b.R,0,none⟩),.map (some b.P)] d (dD [b.S,b.P] b q d (nf q c) ia):=by
 go_in;go_wp2_with fail;refine(rr _ y).mono ?_;rintro k D ⟨n,⟨H,J,h,rfl,x⟩|⟨f,h,r,e,rfl,g⟩⟩;rotate_left
 .exact aq (er (n.af (by simp)) (ah [] _) (bl h) e g)
 have s:=n.af (M':=[b.S,b.P]) (by simp);clear n;go_wp2_with fail;refine(qB _ _ _).mono ?_;rintro k E ⟨v,rfl,m,u⟩;have t:=u b.X x.bh;have z:=x.aA m;have i:=s.u (bt _ m);clear u m s;go_wp2_with fail;refine(LX z t).mono ?_;rintro k F ⟨o,⟨C,K,j,rfl,A⟩|⟨f,j,r,e,rfl,g⟩⟩;rotate_left
 .exact aq (er (i.u o) i ((au h).trans (bl j)) e g)
 have l:=i.u o;clear t i o;dsimp only[ia];go_wp2_with fail;refine(rr _ A).mono ?_;rintro k G ⟨w,⟨I,L,p,rfl,B⟩|⟨f,p,r,e,rfl,g⟩⟩;rotate_left
 .exact aq (er (l.u (w.af (by simp))) l ((au h).trans ((au j).trans (bl p))) e g)
 go_wp2;go_ret;exact fp (a:=C) (l.u (w.af (by simp))) ((au h).trans ((au j).trans (au p))) rfl B
def Hz(a:eH g b){e:ByteArray}(f:Rd g e c d) :
  Calls prog 204 #[.pointer (some ⟨b.R,0,none⟩),.map (some b.P)] d (dD [b.S,b.P] g e d (nf e c) ia):=by
 have:=Hy f;rw[a.1,a.2.1,a.2.2.2]at this;exact this
def Ji:(prog.info? 367).map (λa=>(a.zero,a.size,a.bytes))=some (some (.agg #[.string ⟨#[]⟩,.int .i64 0,.slice none 0 0,.int .i64 0]),4,56):=by kernel_rfl
def ja(d:ByteArray):PX (List eJ×eW) Unit:=λp c=>match jF d p.2 c with
 |.ok (a,b,h)=>.ok ((),(p.1++[a],b),h)
 |.error f=>.error f
def CE{d:ByteArray}{b:eW}{a:eJ}(f:jF d i c=.ok (a,b,h)):ja d (e,i) c=.ok ((),(e++[a],b),h):=by simp only[ja,f]
def CD{a:ByteArray}(b:jF a i c=.error f):ja a (e,i) c=.error f:=by simp only[ja,b]
structure iw where
 D:Nat
 db:Nat
 rb:Nat
 cb:Nat
 nb:Nat
 q:Nat
 nq:Nat
 bx:Nat
abbrev iw.E(a:iw):List (Nat×Obj):=[(a.db,.cells #[.pointer (some ⟨a.D,0,none⟩)] 233),(a.cb,.cells #[(aT a.q a.bx).v] 341),(a.nb,.cells #[.map (some a.nq)] 149)]
abbrev mE(p:eJ×Value):List Value:=lw p.1.t p.1.w++[p.2,.int .i64 p.1.num]
def vI(b:Ad)(l:ByteArray)(d:World)(a:iw)(j:List UInt8×Nat)(i:Nat)(h:List Nat)(p:List eJ×eW)(c:St)(m:World):Prop:=p.1.length=i/\
 ∃(k:Value) (f:List Value) (g:List (Nat×Obj)),eT b l d 267 367 4 a.D a.q a.nq a.E j p.1.length ((p.1.zip f).flatMap mE) ((aT a.q a.bx).bs++g) h p.2.1 p.2.2 k c m/\f.length=p.1.length/\
  ∀e (n:e<p.1.length) (o:e<f.length),fy g 446 f[e] p.1[e].ak.length (p.1[e].ak.flatMap kN)
def Sh(i:eH g b){e:ByteArray}{a bx nq:Nat}{f:List (List UInt8)}(h:Rd g e c d)(o:cU g a)(m:cU g nq)(n:a≠nq)(p:dq a f d)(k:bn g.X (aT a bx).bs d)(l:cO nq j d) :
  Calls prog 203 #[.pointer (some ⟨b.R,0,none⟩),(aT a bx).v,.map (some nq)] d (wD g e d a nq (jF e (f,j) c)):=by
 have:=Sg h o m n p k l;rw[i.1]at this;exact this
def Ml(f:eJ)(c:Option Addr)(d e:Nat):∀b∈mE (f,.slice c d e),b.oneCell'=true:=by
 intro b a;simp at a;rcases a with rfl|rfl|rfl|rfl<;>rfl
def MW{I:ByteArray}{C:World}{a:iw}{c3:List UInt8×Nat}{b1:Nat}{J:List Nat}{f7:St}(z:Rd b I f7 d)(c2:d.heap[a.rb]? = some (.cells #[.pointer (some ⟨b.R,0,none⟩)] 145))(e6:a.rb ∉ [b.R,b.S,b.N])(b9:b1<1000)(y:vI b I d a c3 b1 J (e,i) c C) :
  Calls prog 202 #[.pointer (some ⟨a.db,0,none⟩),.pointer (some ⟨a.rb,0,none⟩),.pointer (some ⟨a.cb,0,none⟩),.pointer (some ⟨a.nb,0,none⟩)] C (jK b d (vI b I d a c3 (b1+1)) (ja I (e,i) c)):=by
 obtain⟨a6,i2,u,b6,l,w,a4⟩:=y;obtain⟨f4,j⟩:=i;dsimp only at a6 l w a4;have c8:=Z a6;have c5:=Z w;have c6:=Z a4;have g8:e.length<1000:=by omega
 clear a6 w a4;obtain⟨ad,M,rfl⟩:=l.dG;obtain⟨f2,d9,e8,e9,f0⟩:=info_parts Ji;have c1:=aj c2;have a9:=λ(v:World) (b9:ai [b.R,b.S,b.N] d v)=>bM ((b9.K _ c1 e6).trans c2);have b3:=Z a9;obtain⟨i3,i4,i5,i6⟩:=jT l.aD;have h9:=a9 _ l.kp;have g3:=bM (l.e9 (a.db,.cells #[.pointer (some ⟨a.D,0,none⟩)] 233) (by simp[iw.E]));have f9:=bM (l.e9 (a.cb,.cells #[(aT a.q a.bx).v] 341) (by simp[iw.E]));have h6:=bM (l.e9 (a.nb,.cells #[.map (some a.nq)] 149) (by simp[iw.E]));have d7:Below C.heap.size C C.drew:=(Below.refl _ _).drew;have h:=Z (l.aA z d7);have c4:=Z (Sh (bx:=a.bx) (cD b J) h.j.rd (h.j.b1 z (h.j.aI a.q (by simp))) (h.j.b1 z (h.j.aI a.nq (by simp))) h.j.cq.2.2.1 h.j.bQ (λp A=>h.j.ev p (Yf _ A)) h.j.b2);have e0:e.length+1<=maxLen:=by unfold maxLen;omega
 have e1:(e.length+1)*56<=140737488355328:=by omega
 have f1:(Value.agg #[.string ⟨#[]⟩,.int .i64 0,.slice none 0 0,.int .i64 0]).cells.size=4:=by decide
 clear l a9;go_in;go_wp2_with fail;refine cS (λF=>F.cell? ⟨a.D,2,none⟩=some (.slice ad e.length M)/\F.cell? ⟨a.db,0,none⟩=some (.pointer (some ⟨a.D,0,none⟩))/\F.cell? ⟨a.rb,0,none⟩=some (.pointer (some ⟨b.R,0,none⟩))/\F.cell? ⟨a.cb,0,none⟩=some (aT a.q a.bx).v/\F.cell? ⟨a.nb,0,none⟩=some (.map (some a.nq))) (L:=13) (by kernel_rfl) rfl (by kernel_rfl) (by kernel_rfl) ?_ (λa0=>?_)
 .go_keep
 refine bI [0,1,2,3,4,5,6,7] ?_;iterate 8 (refine bP (v:=?_) rfl (by kernel_rfl) (λ_ _ _ y=>y) (by rfl) (by assumption) ?_ ?_;rotate_left;focus (intro d a1;(try dsimp only at a1);go_simp;(try with_reducible rfl));(try simp only[aL,aM,List.set]))
 refine bJ ?_;refine ck 8 (by kernel_rfl) rfl λm k=>?_;(go_simp;go_at_call 203;refine c4.j.mono ?_;rintro g6 G ⟨c0,⟨n,f5,f3,f8,d2,K,b0,rfl,e5,e7,e3,a8,b7⟩|⟨f,b0,b5,d6,rfl,d8⟩⟩;rotate_left;exact aq (lN (h.j.kp.ce c0 (by intro b2 B;have:=h.j.aQ _ (h.j.aI a.q (by simp));have:=h.j.aQ _ (h.j.aI a.nq (by simp));simp[Ad.aC]at B ⊢;omega)) h.j.kp (CD b0) d6 d8);have g:=Z (h.j.b6 z c0 (by intro b2 B;simpa[Ad.aC]using B) e5 e7 e3);obtain⟨r,t,s,rfl⟩:∃a b5 d0,d2=.slice a b5 d0:=(by rcases a8 with⟨rfl,_⟩|⟨P,M,g2,rfl,_⟩<;>exact⟨_,_,_,rfl⟩);have c7:=Z b7;have c9:=Z a8;clear b7 a8;obtain⟨i7,i8,i9,j0⟩:=jT g.j.aD;have i0:=b3.j _ g.j.kp;have a3:=g.j.e9 (a.db,.cells #[.pointer (some ⟨a.D,0,none⟩)] 233) (by simp[iw.E]);have a2:=g.j.e9 (a.cb,.cells #[(aT a.q a.bx).v] 341) (by simp[iw.E]);have a7:=g.j.e9 (a.nb,.cells #[.map (some a.nq)] 149) (by simp[iw.E]);have g4:=bM a3;have g0:=bM a2;have h7:=bM a7;have h1:=aj g.j.aD;have h5:=Yr c1 g.j.kp.a2;have h3:=aj a3;have h2:=aj a2;have h4:=aj a7;have h0:=g.j.kp.a2;clear a3 a2 a7);refine k.out _ _ ?_ (λa0=>?_)
 .go_keep
 clear k m;(try simp only[aL,aM,List.set]);refine ck 9 (by kernel_rfl) rfl λm k=>?_;go_simp;refine k.out _ _ ?_ (λa0=>?_)
 .go_keep
 clear k m;(try simp only[aL,aM,List.set]);refine ck 10 (by kernel_rfl) rfl λm k=>?_;(refine step_append_lies _ (by rfl) _ _ _ (by rfl) d.heap.size 367 f2 _ 4 56 underlying265 d9 e8 e9 f0 f1 (by omega) (.slice ad e.length M) e.length ((e.zip u).flatMap mE) (by rfl) (g.j.i9 _) ⟨G.heap.size,0,none⟩ 1 1 (mE (n,.slice r t s)) (by rfl) (by rfl) (World.news_of_block (cs:=(mE (n,.slice r t s)).toArray) (t:=367) (fr:=(0,0)) (heap_alloc_new G _)) (Ml n r t s) (by omega) e0 e1 (by simp;omega) (G.heap.size+1) (by simp) ?_;intro P d1 f6 e4 o d5 e2;obtain⟨j1,j2,j3,j4⟩:=jT (g.j.hm o);have g9:=tb (g.j.hm o);have g5:=bM (g.j.j6 o (p:=(a.db,.cells #[.pointer (some ⟨a.D,0,none⟩)] 233)) (by simp[iw.E]));have g1:=bM (g.j.j6 o (p:=(a.cb,.cells #[(aT a.q a.bx).v] 341)) (by simp[iw.E]));have h8:=bM (g.j.j6 o (p:=(a.nb,.cells #[.map (some a.nq)] 149)) (by simp[iw.E]));have i1:f6.cell? ⟨a.rb,0,none⟩=some (.pointer (some ⟨b.R,0,none⟩)):=b3.j _ (((g.j.kp.G _)).ce (eL o) (by intro b2 B;have H:=g.j.ax b2 (by simpa using B);exact Ya (g.j.aQ _ H.1))));refine k.out _ _ ?_ (λa0=>?_)
 .go_keep
 clear k m;(try simp only[aL,aM,List.set]);refine bI [11,12] ?_;iterate 2 (refine bP (v:=?_) rfl (by kernel_rfl) (λ_ _ _ y=>y) (by rfl) (by assumption) ?_ ?_;rotate_left;focus (intro d a1;(try dsimp only at a1);go_simp;(try with_reducible rfl));(try simp only[aL,aM,List.set]))
 refine bJ ?_;refine cQ (by kernel_rfl) rfl λm k=>?_;go_simp;refine k.out _ _ ?_;clear k m;(try simp only[aL,aM,List.set]);have b4:=zy (bs':=K) z g.j c7.j ((Below.refl G.heap.size G).alloc (Y4 _) _) e4 o (by simpa using d5) e2;go_wp2;go_end0;have w:=c5.j;refine Y8 ⟨P::J,(e++[n],(f5,f3)),f8,CE b0,rfl,by simp[c8.j],.slice (some ⟨P,0,none⟩) (e.length+1) d1,u++[.slice r t s],b6++K,?_,by simp[w],?_⟩
 .have O:((e++[n]).zip (u++[.slice r t s])).flatMap mE=(e.zip u).flatMap mE++mE (n,.slice r t s):=by
   rw[List.zip_append w.symm,YK];simp
  have d3:(e++[n]).length=e.length+1:=by simp
  rw[YN (aT a.q a.bx).bs b6 K]at b4;dsimp only;rw[O,d3];exact b4
 .intro x H g7;dsimp only at H ⊢;by_cases b8:x<e.length
  .have a5:x<u.length:=by omega
   rw[List.getElem_append_left a5,List.getElem_append_left b8];exact(c6.j x b8 a5).af (λp A=>Yf _ A)
  .have a5:x=e.length:=by simp at H;omega
   rw[List.getElem_append_right (by omega),List.getElem_append_right (by omega)];have O:x-e.length=0:=by omega
   have d4:x-u.length=0:=by omega
   simp only[O,d4,List.getElem_cons_zero];exact c9.j.af (λp A=>Ym _ A)
end
def MX(args:Array Value)(a:World):(callFunc 202 args).run prog a=.ok (.enter 202 args) a:=by kernel_rfl
def MF{A:Ad}{c:ByteArray}{r:St}{d:World}(g:Rd A c r d)(a:iw)(n:d.heap[a.rb]? = some (.cells #[.pointer (some ⟨A.R,0,none⟩)] 145))(o:a.rb ∉ [A.R,A.S,A.N])(p:List UInt8×Nat):uo (List eJ×eW) A c d 4 where
 f:=202
 kw:=#[.pointer (some ⟨a.db,0,none⟩),.pointer (some ⟨a.rb,0,none⟩),.pointer (some ⟨a.cb,0,none⟩),.pointer (some ⟨a.nb,0,none⟩)]
 ba:=ja c
 J:=vI A c d a p
 gD:=MX
 rd:=by rintro _ _ _ _ _ ⟨_,_,_,_,b,_⟩;exact b.rd
 kp:=by rintro _ _ _ _ _ ⟨_,_,_,_,b,_⟩;exact b.kp
 cm:=by rintro _ _ _ _ _ _ _ ⟨e,q,j,i,b,k,l⟩ h m;exact⟨e,q,j,i,b.cm g h m,k,l⟩
 call:=by
  intro t s u w v h e
  exact MW g n o (by omega) e
def oE(a:ByteArray)(b:List UInt8×Nat):PM ao:=av (ih (ew a 4 (ja a)) ([],([],[]))) λd=>av (nf a) λc=>bT (.prog b.1 b.2 d.1 c)
def hJ(a:ByteArray)(c:Nat):PM ao:=av (λb=>ej b.aa.length 4 c b) λ_=>av (gs a) (oE a)
def JO:∀a:List (eJ×Value),(a.flatMap mE).length=a.length*4:=by
 intro a;induction a with
 |nil=>rfl
 |cons c d b=>simp only[YD,Yq,YC,b];simp;omega
def MZ{A:Ad}{x:ByteArray}{f:St}(z:Nat){w:World}(i:Rd A x f w) :
  Calls prog 124 #[.pointer (some ⟨A.R,0,none⟩),.int .i64 z] w (fY [A.R,A.S,A.N,A.P] A x w (hJ x z f)):=by
 have j6:=jw;have j7:=jx;have b0:=i.ax (.cells #[.pointer (some ⟨A.R,0,none⟩)] 145);have b7:=aK (w:=w) (o:=.cells #[.pointer (some ⟨A.R,0,none⟩)] 145) rfl;obtain⟨k7,k8,k9,l0⟩:=i.lt;have i9:=bM b7;have j4:(w.alloc (.cells #[.pointer (some ⟨A.R,0,none⟩)] 145)).cell? ⟨A.R,4,none⟩=some (.map (some A.P)):=b0.am.2.2.2.2.1;have k1:=Cr (show cO A.P f.aa (w.alloc (.cells #[.pointer (some ⟨A.R,0,none⟩)] 145))from b0.pr);go_in;go_wp2_with fail;by_cases d9:4<=f.aa.length
 .refine(qm _ _ _ _ (by omega)).mono ?_;rintro g i3 ⟨⟨p,s,rfl,t⟩,a0⟩;exact aq (dy (f:=⟨5,z⟩) (((ah _ w).G _).u (bt _ a0)) ((ah [] w).G _) (bl (show ej f.aa.length 4 z f=_ from Y9 d9)) s t)
 have e3:(λf:St=>ej f.aa.length 4 z f) f=.ok ((),f):=Y2 d9;refine(qn _ _ _ _ (by omega)).mono ?_;rintro g i3 ⟨rfl,rfl⟩;go_wp2_with fail;refine(BX (eI A _) b0).mono ?_;rintro g a ⟨a7,⟨c,c4,b8,rfl,b1⟩|⟨a5,b8,p,s,rfl,t⟩⟩;rotate_left
 .exact aq (dy (((ah _ w).G _).u (a7.af (by simp))) ((ah [] w).G _) ((au e3).trans (bl b8)) s t)
 have B:ai [A.R,A.S,A.N] w a:=((ah _ w).G _).u (a7.af (by simp));have J:=(a7.K _ (aj b7) (by simp;omega)).trans b7;have c1:=aj J;have a4:U (hJ x z f=oE x c c4):=(au e3).trans (au b8);have b3:w.heap.size ∉ [A.R,A.S,A.N]:=by simp;omega
 dsimp only[fT];go_wp2_with fail;obtain⟨y,C⟩:∃y,y=(a.alloc (.cells #[.string ⟨c.1.toArray⟩,.int .i64 c.2,.slice none 0 0,.int .i64 0] 267)).alloc (.cells #[.pointer (some ⟨a.heap.size,0,none⟩)] 233):=⟨_,rfl⟩;rw[<-C];have b4:(a.alloc (.cells #[.string ⟨c.1.toArray⟩,.int .i64 c.2,.slice none 0 0,.int .i64 0] 267)).heap.size=a.heap.size+1:=by simp
 have e1:=(b1.ax (.cells #[.string ⟨c.1.toArray⟩,.int .i64 c.2,.slice none 0 0,.int .i64 0] 267)).ax (.cells #[.pointer (some ⟨a.heap.size,0,none⟩)] 233);rw[b4,<-C]at e1;have k4:y.heap.size=a.heap.size+2:=by rw[C];simp
 have g8:ai [] a y:=by rw[C];exact((ah [] a).G _).G _
 have d2:y.heap[a.heap.size]? = some (.cells #[.string ⟨c.1.toArray⟩,.int .i64 c.2,.slice none 0 0,.int .i64 0] 267):=by
  rw[C];exact(((ah [] _).G _).K _ (by rw[b4];omega) (by simp)).trans (aK rfl)
 have d6:y.heap[a.heap.size+1]? = some (.cells #[.pointer (some ⟨a.heap.size,0,none⟩)] 233):=by
  rw[C];exact aK b4.symm
 refine(ux _).mono ?_;rintro g b ⟨e,k,rfl,h4,j3,k3,d4,a6,e4⟩;dsimp only[cN.v,aT];have h0:e<b.heap.size:=by
  obtain⟨_,_,_,q⟩:=id d4;exact aj q
 have h1:=aj e4;have k5:=a6.size;have a8:=bt [] a6;have h5:=e1.k5 a6 h4 h0;have d3:=(a8.K _ (aj d2) (by simp)).trans d2;have d7:=(a8.K _ (aj d6) (by simp)).trans d6;obtain⟨h,r⟩:∃h,h=((b.alloc (.map #[] 0)).alloc (.cells #[(aT e k).v] 341)).alloc (.cells #[.map (some b.heap.size)] 149):=⟨_,rfl⟩;have b5:(b.alloc (.map #[] 0)).heap.size=b.heap.size+1:=by simp
 have b6:((b.alloc (.map #[] 0)).alloc (.cells #[(aT e k).v] 341)).heap.size=b.heap.size+2:=by simp
 have e2:=((h5.ax (.map #[] 0)).ax (.cells #[(aT e k).v] 341)).ax (.cells #[.map (some b.heap.size)] 149);rw[b5,b6,<-r]at e2;have K:ai [] b h:=by rw[r];exact(((ah [] b).G _).G _).G _
 have h2:h.heap[b.heap.size]? = some (.map #[] 0):=by
  rw[r];exact((((ah [] _).G _).G _).K _ (by rw[b5];omega) (by simp)).trans (aK rfl)
 have g6:h.heap[b.heap.size+1]? = some (.cells #[(aT e k).v] 341):=by
  rw[r];exact(((ah [] _).G _).K _ (by rw[b6];omega) (by simp)).trans (aK b5.symm)
 have h3:h.heap[b.heap.size+2]? = some (.cells #[.map (some b.heap.size)] 149):=by
  rw[r];exact aK b6.symm
 have e5:ai [] a h:=(g8.u a8).u K;have f4:U (eT (A.aC [w.heap.size]) x a 267 367 4 a.heap.size e b.heap.size [(a.heap.size+1,.cells #[.pointer (some ⟨a.heap.size,0,none⟩)] 233),(b.heap.size+1,.cells #[(aT e k).v] 341),(b.heap.size+2,.cells #[.map (some b.heap.size)] 149)] c 0 [] ((aT e k).bs++[]) [b.heap.size+2,b.heap.size+1,b.heap.size,e,a.heap.size+1,a.heap.size] [] [] (.slice none 0 0) c4 h):=by
  refine⟨e5.af (by simp),e2,?_,?_,?_,(by intro j2 g7;cases g7),?_,h2,(K.K _ (aj d3) (by simp)).trans d3,?_,⟨rfl,Y8 ⟨rfl,rfl⟩⟩,?_⟩
  .intro p a0;simp at a0 ⊢;omega
  .simp;omega
  .intro l8 h9;simp at h9;omega
  .have g1:dq e [] b:=d4;exact g1.O K (by simp)
  .intro j d;simp only[Yg,List.not_mem_nil,or_false]at d;rcases d with rfl|rfl|rfl
   .exact(K.K _ (aj d7) (by simp)).trans d7
   .exact g6
   .exact h3
  .intro j d;simp only[aT,YH,Yc]at d;subst d;refine⟨(K.K _ h1 (by simp)).trans e4,?_⟩;simp[Ad.aC];refine⟨by omega,by omega,by omega,by omega,by omega,by omega,by omega,?_⟩;intro q;have:=i.bh _ q;omega
 have e7:=bM ((e5.K _ c1 (by simp)).trans J);rw[r]at e7;dsimp only[cN.v,aT]at e7;go_wp2_with fail;rw[show ((b.alloc (.map #[] 0)).alloc (.cells #[.func (.func 251) #[] #[.pointer (some ⟨k,0,none⟩)]] 341)).alloc (.cells #[.map (some b.heap.size)] 149)=h from r.symm];have f2:vI (A.aC [w.heap.size]) x a ⟨a.heap.size,a.heap.size+1,w.heap.size,b.heap.size+1,b.heap.size+2,e,b.heap.size,k⟩ c 0 [b.heap.size+2,b.heap.size+1,b.heap.size,e,a.heap.size+1,a.heap.size] ([],([],[])) c4 h:=⟨rfl,_,[],[],f4.j,rfl,by intro c0 i;cases i⟩;refine(wW 4 (MF (A:=A.aC [w.heap.size]) b1 ⟨a.heap.size,a.heap.size+1,w.heap.size,b.heap.size+1,b.heap.size+2,e,b.heap.size,k⟩ J b3 c) (by omega) f2).mono ?_;rintro g m (⟨c6,⟨e6,l3,l1⟩,l9,a1,rfl,k6,e0,g9,c2,f7,f5,l,d5,d8⟩|⟨a5,a1,e0,p,s,rfl,t⟩);rotate_left
 .exact aq (dy ((B.af (by simp)).u (e0.af (by simp[Ad.aC]))) B (a4.j.trans (bl (tP a1))) s t)
 dsimp only at g9 l d5 d8;have k2:e6.length<=4:=by omega
 have d1:eH ((A.aC [w.heap.size]).aC c6) A:=⟨rfl,rfl,rfl,rfl⟩;have I:ai [A.R,A.S,A.N] a m:=l.kp;have l2:=bM ((I.K _ c1 b3).trans J);have j1:=bM (l.e9 (a.heap.size+1,.cells #[.pointer (some ⟨a.heap.size,0,none⟩)] 233) (by simp[iw.E]));have i6:m.cell? ⟨A.R,4,none⟩=some (.map (some A.P)):=l.rd.am.2.2.2.2.1;have M:=Z l;have c5:=Z d5;have f1:=Z d8;have g3:Below m.heap.size m m.drew:=(Below.refl _ _).drew;have f0:=Z (Hz d1 (l.rd.aA g3));go_wp2_with fail;have j8:¬a.heap.size=A.R:=by have:=B.a2;omega
 have j9:¬a.heap.size=w.heap.size:=by omega
 have k0:¬a.heap.size=a.heap.size+1:=by omega
 have g2:∀n,ai [A.S,A.P] m.drew n->n.cell? ⟨a.heap.size+1,0,none⟩=some (.pointer (some ⟨a.heap.size,0,none⟩))/\n.cell? ⟨w.heap.size,0,none⟩=some (.pointer (some ⟨A.R,0,none⟩))/\
   n.heap[a.heap.size]? = some (.cells #[.string ⟨c.1.toArray⟩,.int .i64 c.2,c2,.int .i64 0] 267):=by
  intro n D;have a9:=((ah _ m).a9).u D;have c7:=l.e9 (a.heap.size+1,.cells #[.pointer (some ⟨a.heap.size,0,none⟩)] 233) (by simp[iw.E]);have c8:=(I.K _ c1 b3).trans J;exact⟨bM ((a9.K _ (aj c7) (by simp;omega)).trans c7),bM ((a9.K _ (aj c8) (by simp;omega)).trans c8),(a9.K _ (aj l.aD) (by simp;omega)).trans l.aD⟩
 have e8:=Z g2;go_region_held2 (λc3=>c3.cell? ⟨a.heap.size+1,0,none⟩=some (.pointer (some ⟨a.heap.size,0,none⟩))/\c3.cell? ⟨w.heap.size,0,none⟩=some (.pointer (some ⟨A.R,0,none⟩))/\c3.cell? ⟨A.R,4,none⟩=some (.map (some A.P))) (go_keep)
  (first
   |(go_at_call 204;refine f0.j.mono ?_;rintro g n ⟨D,⟨a2,i5,b9,rfl,b2⟩|⟨a5,b9,p,s,rfl,t⟩⟩;rotate_left;exact aq (dy (((B.af (by simp)).u (I.af (by simp))).u (((ah _ m).a9).u (D.af (by simp)))) (B.u I) (a4.j.trans ((au (oI a1)).trans (bl b9))) s t);obtain⟨j0,i8,O⟩:=e8.j n D;have i7:n.cell? ⟨A.R,4,none⟩=some (.map (some A.P)):=b2.am.2.2.2.2.1;obtain⟨l4,l5,l6,l7⟩:=jT O;have j5:=tb O;have F:=Z (((ah [A.S,A.P] m).a9).u D);have f3:=Z b2;have e9:=Z O;clear D b2 O;dsimp only[ia]))
 all_goals
  go_wp2
  go_ret
  have a3:=(ah [a.heap.size] n).a6 (p:=⟨a.heap.size,3,none⟩) (by simp) (.int .i64 a2)
  obtain⟨f6,h8,g5⟩:=M.j.k0 (by omega) (by rw[JO,List.length_zip,c5.j,Nat.min_self]) (by intro i;rw[Yv.1 i];rfl)
  have d0:a.heap.size∈((A.aC [w.heap.size]).aC c6).X:=Yf _ (M.j.aI _ (by simp))
  have h7:=i.ce d1 f3.j a3 (by
   intro i4 u;simp only[Yc]at u;subst u;exact⟨by omega,d0⟩)
  have h6:=jq i.aI (jq (A:=A.aC [w.heap.size]) b1.aI h7)
  have g4:=bv (i:=3) e9.j (.int .i64 a2)
  have c9:∀p,w.heap.size<=p->p ∉ A.X:=λp a0 q=>by have:=i.bh _ q;omega
  refine⟨?_,Y8 ⟨.prog c.1 c.2 e6 a2,i5,a.heap.size,(a.heap.size,.cells #[.string ⟨c.1.toArray⟩,.int .i64 c.2,c2,.int .i64 a2] 267)::(f6++f5),a4.j.trans ((au (oI a1)).trans ((au b9).trans rfl)),rfl,h6,⟨c2,f7,Yb,c5.j,?_,?_⟩,?_⟩⟩
  .refine(((B.af (by simp)).u (I.af (by simp))).u (F.j.af (by simp))).ce a3 ?_;intro i4 u;simp only[Yc]at u;subst u;exact Ya (by omega)
  .exact h8.af (λj d=>Y5 _ (Yf _ d))
  .intro c0 f9 g0;exact(f1.j c0 f9 g0).af (λj d=>Y5 _ (Ym _ d))
  .intro j d;rcases Yg.1 d with rfl|d
   .exact⟨g4,c9 _ (by dsimp only;omega)⟩
   .rcases Yn.1 d with d|d
    .obtain⟨G,H,f8⟩:=g5 j d;have L:=aj G;exact⟨(a3.K _ (Yr L F.j.a2) (by simp;exact f8)).trans ((F.j.K _ L (by simp;omega)).trans G),c9 _ (by omega)⟩
    .obtain⟨G,H⟩:=M.j.ev j (Ym _ d);have L:=aj G;have q:=M.j.rd.aI;have i0:j.1≠A.S:=λg=>H (g▸q.2.1);have i1:j.1≠A.P:=λg=>H (g▸q.2.2.2);have i2:j.1≠a.heap.size:=λg=>H (g▸d0);exact⟨(a3.K _ (Yr L F.j.a2) (by simp;exact i2)).trans ((F.j.K _ L (by simp;exact⟨i0,i1⟩)).trans G),λu=>H (Ym _ (Ym _ u))⟩
section
variable {d:Ad}{k:List Nat}{l:TypeId}{m:Nat}{c b:ao}{j:Except Mar.a5 (ao×St)}{i h:World}{a:Mar.bi}{g e:St}
def ey{j:Type}{i:PM j}{f:j->PM ao}(a:av i f g=.ok (c,e))(k:∀b d,f b d=.ok (c,e)->cE c=l):cE c=l:=by
 cases h:i g with
 |error n=>rw[bl h]at a;cases a
 |ok m=>
  obtain⟨b,d⟩:=m;rw[au h]at a;exact k b d a
def rP{a:ao}(b:bT a g=.ok (c,e))(d:cE a=l):cE c=l:=by
 simp only[bT]at b;cases b
 exact d
def Ju{c:ByteArray}(a:iB c m g=.ok (b,e)):cE b=223:=
 ey a λ_ _ a=>ey a λ_ _ a=>ey a λ_ _ a=>ey a λ_ _ a=>ey a λ_ _ a=>rP a rfl
def JA{c:ByteArray}(a:iI c m g=.ok (b,e)):cE b=225:=
 ey a λ_ _ a=>ey a λ_ _ a=>ey a λ_ _ a=>rP a rfl
def Jx{i:ByteArray}{k:List UInt8×Nat}:∀(c:Nat) (f:List (List UInt8×Nat×Int)) (d:List (Int×Int)) (g e:St) (b:ao),gr i k c f d g=.ok (b,e)->cE b=227:=by
 intro c;induction c with
 |zero=>intro f d g e b a;simp only[gr,fl]at a;cases a
 |succ c j=>
  intro f d g e b a;cases h:ie i f.length d g with
  |error n=>rw[tq h]at a;cases a
  |ok l=>
   obtain⟨p,o,q⟩:=l;rw[rI h]at a;refine ey a λm r a=>?_;cases m with
   |true=>exact j _ _ _ _ _ a
   |false=>exact ey a λ_ _ a=>ey a λ_ _ a=>rP a rfl
def Jv{c:ByteArray}(a:gp c m g=.ok (b,e)):cE b=227:=
 ey a λ_ _ a=>ey a λ_ _ a=>ey a λ_ _ a=>Jx _ _ _ _ _ _ a
def Jz{c:ByteArray}(a:jf c m g=.ok (b,e)):cE b=229:=
 ey a λ_ _ a=>ey a λ_ _ a=>ey a λ_ _ a=>ey a λ_ _ a=>rP a rfl
def JB{c:ByteArray}(a:dQ c m g=.ok (b,e)):cE b=231:=
 ey a λ_ _ a=>ey a λ_ _ a=>ey a λ_ _ a=>ey a λ_ _ a=>ey a λ_ _ a=>ey a λ_ _ a=>ey a λ_ _ a=>ey a λ_ _ a=>ey a λ_ _ a=>ey a λ_ _ a=>ey a λ_ _ a=>rP a rfl
def Jy{c:ByteArray}(a:hJ c m g=.ok (b,e)):cE b=233:=
 ey a λ_ _ a=>ey a λ_ _ a=>ey a λ_ _ a=>ey a λ_ _ a=>rP a rfl
def dU(b:ByteArray)(a:Mar.bi):PM ao:=
 if a.text==[99,111,110,115,116]then iB b a.w
 else if a.text==[116,121,112,101,100,101,102]then iI b a.w
 else if a.text==[101,110,117,109]then gp b a.w
 else if a.text==[115,116,114,117,99,116]then jf b a.w
 else if a.text==[117,110,105,111,110]then dQ b a.w
 else if a.text==[112,114,111,103,114,97,109]then hJ b a.w
 else fl 3 a.w
def fQ(a:ByteArray):PM ao:=av (next a) (dU a)
def Az{b:ByteArray}(c:(a.text==[99,111,110,115,116])=true):dU b a=iB b a.w:=by unfold dU;simp only[c,if_true]
def AA{b:ByteArray}(c:(a.text==[99,111,110,115,116])=false)(d:(a.text==[116,121,112,101,100,101,102])=true):dU b a=iI b a.w:=by unfold dU;simp only[c,d,Ye,if_false,if_true]
def AB{b:ByteArray}(c:(a.text==[99,111,110,115,116])=false)(d:(a.text==[116,121,112,101,100,101,102])=false)(e:(a.text==[101,110,117,109])=true):dU b a=gp b a.w:=by unfold dU;simp only[c,d,e,Ye,if_false,if_true]
def AC{b:ByteArray}(c:(a.text==[99,111,110,115,116])=false)(d:(a.text==[116,121,112,101,100,101,102])=false)(e:(a.text==[101,110,117,109])=false)(f:(a.text==[115,116,114,117,99,116])=true):dU b a=jf b a.w:=by unfold dU;simp only[c,d,e,f,Ye,if_false,if_true]
def AD{b:ByteArray}(c:(a.text==[99,111,110,115,116])=false)(d:(a.text==[116,121,112,101,100,101,102])=false)(e:(a.text==[101,110,117,109])=false)(f:(a.text==[115,116,114,117,99,116])=false)(g:(a.text==[117,110,105,111,110])=true):dU b a=dQ b a.w:=by unfold dU;simp only[c,d,e,f,g,Ye,if_false,if_true]
def AE{b:ByteArray}(c:(a.text==[99,111,110,115,116])=false)(d:(a.text==[116,121,112,101,100,101,102])=false)(e:(a.text==[101,110,117,109])=false)(f:(a.text==[115,116,114,117,99,116])=false)(g:(a.text==[117,110,105,111,110])=false)(h:(a.text==[112,114,111,103,114,97,109])=true):dU b a=hJ b a.w:=by unfold dU;simp only[c,d,e,f,g,h,Ye,if_false,if_true]
def Hv{h:ByteArray}(b:(a.text==[99,111,110,115,116])=false)(c:(a.text==[116,121,112,101,100,101,102])=false)(d:(a.text==[101,110,117,109])=false)(e:(a.text==[115,116,114,117,99,116])=false)(f:(a.text==[117,110,105,111,110])=false)(g:(a.text==[112,114,111,103,114,97,109])=false):dU h a=fl 3 a.w:=by unfold dU;simp only[b,c,d,e,f,g,Ye,if_false]
def ul(k:List Nat)(d:Ad)(l:ByteArray)(i:World)(j:Except Mar.a5 (ao×St))(g:Ending)(h:World):Prop:=
 ai k i h/\((∃b e c f,j=.ok (b,e)/\g=.returned (.iface (cE b) (.pointer (some ⟨c,0,none⟩)))/\Rd d l e h/\dx f c b/\bn d.X f h)\/(∃a,j=.error a/\fg i a.no a.w g h))
def nP{M':List Nat}{m:ByteArray}{w1:World}{f:Mar.a5}{c:Nat}
  (e:ai k i h) (g:ai M' i w1) (l:j=.error f) (a:w1.heap.size<=c) (b:h.heap[c]? = some (.cells #[.int .i64 f.no,.int .i64 f.w] 179)) :
  ul k d m i j (.panicked [{ v:=.iface 143 (.pointer (some ⟨c,0,none⟩)),recovered:=false }]) h:=⟨e,Ya ⟨f,l,c,Yz g.a2 a,rfl,b⟩⟩
def qM{f:ByteArray}{c:Nat}{a:List (Nat×Obj)}
  (p:ai k i h) (q:j=.ok (b,e)) (m:cE b=l) (g:Rd d f e h) (n:dx a c b) (o:bn d.X a h):ul k d f i j (.returned (.iface l (.pointer (some ⟨c,0,none⟩)))) h:=
 ⟨p,Y8 ⟨b,e,c,a,q,by rw[m],g,n,o⟩⟩
def Hq{A:ByteArray}(B:Rd d A g i) :
  Calls prog 73 #[.pointer (some ⟨d.R,0,none⟩)] i (ul [d.R,d.S,d.N,d.P] d A i (fQ A g)):=by
 obtain⟨G,H,I,J,K,L⟩:=B.am;have E:=Z (qf B);go_in;go_wp2_with fail;refine E.j.mono ?_;rintro s D ⟨C,⟨a,e,z,rfl,F⟩|⟨t,z,c,m,rfl,o⟩⟩;rotate_left
 .exact aq (nP (C.af (by simp)) (ah [] _) (bl z) m o)
 have j:=Z ((C.G (.cells #[.int .i64 a.H,.string ⟨a.text.toArray⟩,.int .i64 a.n,.int .i64 a.w] 154)).af (M':=[d.R,d.S,d.N,d.P]) (by simp));have l:=Z z;have u:=Z (F.aA ((Below.refl _ _).alloc (Y4 _) (.cells #[.int .i64 a.H,.string ⟨a.text.toArray⟩,.int .i64 a.n,.int .i64 a.w] 154)));dsimp only[cr];go_wp2_with (first
  |(go_at_call 70;refine(gO _ _ _).mono ?_;rintro s h ⟨rfl,rfl⟩)
  |(go_at_call 119;refine(GL _ u.j).mono ?_;rintro s x ⟨k,⟨b,y,v,w,f,rfl,r,p,q⟩|⟨t,f,c,m,rfl,o⟩⟩)
  |(go_at_call 120;refine(RF _ u.j).mono ?_;rintro s x ⟨k,⟨b,y,v,w,f,rfl,r,p,q⟩|⟨t,f,c,m,rfl,o⟩⟩)
  |(go_at_call 121;refine(HJ _ u.j).mono ?_;rintro s x ⟨k,⟨b,y,v,w,f,rfl,r,p,q⟩|⟨t,f,c,m,rfl,o⟩⟩)
  |(go_at_call 122;refine(Qz _ u.j).mono ?_;rintro s x ⟨k,⟨b,y,v,w,f,rfl,r,p,q⟩|⟨t,f,c,m,rfl,o⟩⟩)
  |(go_at_call 123;refine(RM _ u.j).mono ?_;rintro s x ⟨k,⟨b,y,v,w,f,rfl,r,p,q⟩|⟨t,f,c,m,rfl,o⟩⟩)
  |(go_at_call 124;refine(MZ _ u.j).mono ?_;rintro s x ⟨k,⟨b,y,v,w,f,rfl,r,p,q⟩|⟨t,f,c,m,rfl,o⟩⟩))
 .go_ret;exact qM (j.j.u (k.af (by simp))) ((au l.j).trans (by rw[Az ‹_›];exact f)) (Ju f) r p q
 .exact aq (nP (j.j.u (k.af (by simp))) j.j ((au l.j).trans (by rw[Az ‹_›];exact f)) m o)
 .go_ret;exact qM (j.j.u (k.af (by simp))) ((au l.j).trans (by rw[AA ‹_› ‹_›];exact f)) (JA f) r p q
 .exact aq (nP (j.j.u (k.af (by simp))) j.j ((au l.j).trans (by rw[AA ‹_› ‹_›];exact f)) m o)
 .go_ret;exact qM (j.j.u (k.af (by simp))) ((au l.j).trans (by rw[AB ‹_› ‹_› ‹_›];exact f)) (Jv f) r p q
 .exact aq (nP (j.j.u (k.af (by simp))) j.j ((au l.j).trans (by rw[AB ‹_› ‹_› ‹_›];exact f)) m o)
 .go_ret;exact qM (j.j.u (k.af (by simp))) ((au l.j).trans (by rw[AC ‹_› ‹_› ‹_› ‹_›];exact f)) (Jz f) r p q
 .exact aq (nP (j.j.u (k.af (by simp))) j.j ((au l.j).trans (by rw[AC ‹_› ‹_› ‹_› ‹_›];exact f)) m o)
 .go_ret;exact qM (j.j.u (k.af (by simp))) ((au l.j).trans (by rw[AD ‹_› ‹_› ‹_› ‹_› ‹_›];exact f)) (JB f) r p q
 .exact aq (nP (j.j.u (k.af (by simp))) j.j ((au l.j).trans (by rw[AD ‹_› ‹_› ‹_› ‹_› ‹_›];exact f)) m o)
 .go_ret;exact qM (j.j.u k) ((au l.j).trans (by rw[AE ‹_› ‹_› ‹_› ‹_› ‹_› ‹_›];exact f)) (Jy f) r p q
 .exact aq (nP (j.j.u k) j.j ((au l.j).trans (by rw[AE ‹_› ‹_› ‹_› ‹_› ‹_› ‹_›];exact f)) m o)
 .exact aq (nP (M':=[d.R,d.S,d.N,d.P]) (w1:=D.alloc (.cells #[.int .i64 a.H,.string ⟨a.text.toArray⟩,.int .i64 a.n,.int .i64 a.w] 154)) (f:=⟨3,a.w⟩) (j.j.G _) j.j ((au l.j).trans (by rw[Hv ‹_› ‹_› ‹_› ‹_› ‹_› ‹_›];rfl)) (by simp) (aK (by simp)))
end
section
variable {P:Program}{b f g idx st t e:Nat}{c:TypeInfo}{a:Method}{d:World}
def Ky{name:String}(n:P.info? t=some c)(p:c.methods.find? (λa=>a.name==name)=some a)(r:a.path=#[⟨st,idx,true⟩])(l:a.func=some (f,false))
  {i:Array Field} (v:P.underlying st=some (.struct i)) {h:Field} (m:i[idx]? = some h) (u:h.type=e) (q:h.offset=0) {k:Array Field} (w:P.underlying e=some (.struct k)) {j:TypeInfo} (o:P.info? e=some j) (s:j.size≠0) :
  (method (g+1) t (.pointer (some ⟨b,0,none⟩)) name).run P d=((loadVar e ⟨b,0,none⟩).run P d).andThen (λy x=>.ok (f,y) x):=by
 unfold method;simp only[Sem.run_bind,run_typeInfo _ n,Result.andThen_ok,p,r,l,follow,run_underlying v,m,Place.get,asAddr,fieldPlace,sizeOf,u,run_typeInfo _ o,Sem.run_pure,if_true,s,if_false,q,receiverAt,run_underlying w,Addr.add]
def Kz{o l p:Nat}{name:String}(v:P.info? t=some c)(z:c.methods.find? (λa=>a.name==name)=some a)(C:a.path=#[⟨st,idx,true⟩,⟨o,l,false⟩])(r:a.func=some (f,false))
  {j:Array Field} (G:P.underlying st=some (.struct j)) {h:Field} (s:j[idx]? = some h) (E:h.type=p) (A:h.offset=0) {n:TypeInfo} (x:P.info? p=some n) (y:n.size≠0)
  {k:Array Field} (H:P.underlying o=some (.struct k)) {i:Field} (u:k[l]? = some i) (F:i.type=e) (B:i.offset=0) {q:Array Field} (I:P.underlying e=some (.struct q)) {m:TypeInfo} (w:P.info? e=some m) (D:m.size≠0) :
  (method (g+1) t (.pointer (some ⟨b,0,none⟩)) name).run P d=((loadVar e ⟨b,0,none⟩).run P d).andThen (λK J=>.ok (f,K) J):=by
 unfold method;simp only[Sem.run_bind,run_typeInfo _ v,Result.andThen_ok,z,C,r,follow,run_underlying G,s,Place.get,asAddr,fieldPlace,sizeOf,E,run_typeInfo _ x,y,Sem.run_pure,if_true,if_false,A,run_underlying H,u,F,B,run_typeInfo _ w,D,receiverAt,run_underlying I,Addr.add,Ye]
def rQ{t:TypeId}{name:String}{p:Array FieldStep}{f:Option (FuncId×Bool)}(b:((P.info? t).bind λc=>c.methods.find? (λa=>a.name==name)).map (λa=>(a.path,a.func))=some (p,f)) :
  ∃c a,P.info? t=some c/\c.methods.find? (λa=>a.name==name)=some a/\a.path=p/\a.func=f:=by
 cases e:P.info? t with
 |none=>rw[e]at b;cases b
 |some c=>
  rw[e]at b;simp only[Option.bind_some]at b;cases d:c.methods.find? (λa=>a.name==name)with
  |none=>rw[d]at b;cases b
  |some a=>
   rw[d]at b;simp only[Option.map_some,Yu,Prod.mk.injEq]at b;exact⟨c,a,rfl,d,b.1,b.2⟩
def sY{o:Nat}(a:((P.underlying st).bind λd=>match d with|.struct b=>b[idx]?|_=>none).map (λf=>(f.type,f.offset))=some (t,o)) :
  ∃b c,P.underlying st=some (.struct b)/\b[idx]? = some c/\c.type=t/\c.offset=o:=by
 cases g:P.underlying st with
 |none=>rw[g]at a;cases a
 |some d=>
  rw[g]at a;simp only[Option.bind_some]at a;cases d with
  |struct b=>
   simp only at a;cases e:b[idx]? with
   |none=>rw[e]at a;cases a
   |some c=>
    rw[e]at a;simp only[Option.map_some,Yu,Prod.mk.injEq]at a;exact⟨b,c,rfl,e,a.1,a.2⟩
  |_=>cases a
def qq{n:Nat}(a:(P.info? t).map (·.size)=some n):∃c,P.info? t=some c/\c.size=n:=by
 cases b:P.info? t with
 |none=>rw[b]at a;cases a
 |some c=>rw[b]at a;exact⟨c,rfl,by simpa using a⟩
def bB:ao->List UInt8×Nat
 |.const t a _=>(t,a)
 |.typedef b=>(b.t,b.w)
 |.enum t a _=>(t,a)
 |.struct t a _=>(t,a)
 |.union t a _ _=>(t,a)
 |.prog t a _ _=>(t,a)
def nY(args:Array Value)(a:World):(callFunc 327 args).run prog a=.ok (.enter 327 args) a:=by kernel_rfl
def Hh{k:List Nat}{i:List (Nat×Obj)}{f:ao}(c:dx i b f)(e:bn k i d):d.cell? ⟨b,0,none⟩=some (.string ⟨(bB f).1.toArray⟩)/\d.cell? ⟨b,1,none⟩=some (.int .i64 (bB f).2):=by
 cases f with
 |const t g v=>have:=(e _ c).1;exact⟨by simp[World.cell?,this,bB],by simp[World.cell?,this,bB]⟩
 |typedef f=>have:=(e _ c).1;exact⟨by simp[World.cell?,this,bB],by simp[World.cell?,this,bB]⟩
 |enum t g l=>obtain⟨h,j,a,_⟩:=c;have:=(e _ a).1;exact⟨by simp[World.cell?,this,bB],by simp[World.cell?,this,bB]⟩
 |struct t g l=>obtain⟨h,a,_⟩:=c;have:=(e _ a).1;exact⟨by simp[World.cell?,this,bB],by simp[World.cell?,this,bB]⟩
 |union t g o m=>obtain⟨h,j,a,_⟩:=c;have:=(e _ a).1;exact⟨by simp[World.cell?,this,bB],by simp[World.cell?,this,bB]⟩
 |prog t g p n=>obtain⟨h,j,a,_⟩:=c;have:=(e _ a).1;exact⟨by simp[World.cell?,this,bB],by simp[World.cell?,this,bB]⟩
def nX(b:ByteArray)(a:Int)(d:World) :
  Calls prog 327 #[.agg #[.string b,.int .i64 a]] d λc e=>c=.returned (.agg #[.string b,.int .i64 a])/\Below d.heap.size d e:=by
 go_in;go_wp2;exact bodyPost_ret (v:=.agg #[.string b,.int .i64 a]) (by simp[results,results327,go_sem]) rfl ⟨rfl,((Below.refl _ _).alloc (Y4 _) _).alloc (by simp) _⟩
end
section
variable {c d g a b:St}{f:ao}{e:Int}{i:Unit}{α h ρ τ:Type}
def Kn(b d:List (List UInt8×Option ao)):Prop:=(∀a,(az b a).isSome->(az d a).isSome)/\∀a f,az d a=some (some f)->az b a=some (some f)\/∃e c v,f=.const e c v
def pm(b:List (List UInt8×Option ao)):Kn b b:=⟨λ_ a=>a,λ_ _ a=>Y8 a⟩
def Kn.u{c d g:List (List UInt8×Option ao)}(h:Kn c d)(i:Kn d g):Kn c g:=⟨λa e=>i.1 a (h.1 a e),λa f e=>by
 rcases i.2 a f e with b|b
 .exact h.2 a f b
 .exact Ya b⟩
def xQ{c:List (List UInt8×Option ao)}{a:List UInt8×Option ao}(b:List UInt8):az (c++[a]) b=match az c b with|some o=>some o|none=>if a.1==b then some a.2 else none:=by
 unfold az;rw[List.find?_append];cases d:c.find? (λa=>a.1==b)with
 |some e=>rfl
 |none=>
  simp only[Option.none_or,List.find?_cons,List.find?_nil];cases a.1==b<;>rfl
def xR{c:List UInt8}(b:List UInt8):∀(d:List (List UInt8×Option ao)),az (cM d c f) b=(az d b).map (λj=>if b==c then some f else j):=by
 intro d;unfold az cM;induction d with
 |nil=>rfl
 |cons a d i=>
  rw[List.map_cons,List.find?_cons,List.find?_cons];have g:(if a.1==c then (a.1,some f)else a).1=a.1:=by cases a.1==c<;>rfl
  rw[g];by_cases e:a.1=b
  .subst e;simp;by_cases h:a.1=c<;>simp[h]
  .have:(a.1==b)=false:=by simpa using e
   rw[this];exact i
def Le(a b:St):Prop:=a.ae<=b.ae/\a.a1<=b.a1/\b.aa=a.aa/\(a.ae<=24->b.ae<=24)/\(a.a1<=40->b.a1<=40)/\Kn a.F b.F
def qQ(a:St):Le a a:=⟨Y4 _,Y4 _,rfl,id,id,pm _⟩
def Le.u(a:Le c d)(b:Le d g):Le c g:=⟨Yz a.1 b.1,Yz a.2.1 b.2.1,b.2.2.1.trans a.2.2.1,λe=>b.2.2.2.1 (a.2.2.2.1 e),λe=>b.2.2.2.2.1 (a.2.2.2.2.1 e),a.2.2.2.2.2.u b.2.2.2.2.2⟩
def de(d:PM α):Prop:=∀a c b,d a=.ok (c,b)->Le a b
def bL(d:PX τ α):Prop:=∀e a c f b,d e a=.ok (c,f,b)->Le a b
def gI{g:PM α}{i:α->PM h}(k:de g)(j:∀c,de (i c)):de (av g i):=by
 intro a d b e;cases f:g a with
 |error m=>rw[bl f]at e;cases e
 |ok l=>obtain⟨c,n⟩:=l;rw[au f]at e;exact(k _ _ _ f).u (j c _ _ _ e)
def iZ(c:α):de (bT c):=by intro a d b e;simp only[bT]at e;cases e;exact qQ _
def ns(e f:Nat):de (fl (α:=α) e f):=by intro a d b c;simp only[fl]at c;cases c
def mm{g:Bool}{c d:PM α}(a:de c)(b:de d):de (if g then c else d):=by cases g<;>assumption
def eY{g:PX τ α}{i:α->PX τ h}(k:bL g)(j:∀c,bL (i c)):bL (aw g i):=by
 intro m a d o b e;cases f:g m a with
 |error n=>rw[bm f]at e;cases e
 |ok l=>obtain⟨c,p,q⟩:=l;rw[aF f]at e;exact(k _ _ _ _ _ f).u (j c _ _ _ _ _ e)
def eA{g:PM α}(h:de g):bL (lift (τ:=τ) g):=by
 intro k a d l b e;cases f:g a with
 |error j=>rw[cj f]at e;cases e
 |ok i=>obtain⟨c,m⟩:=i;rw[aX f]at e;cases e;exact h _ _ _ f
def hE(c:α):bL (cH (τ:=τ) c):=by intro f a d g b e;simp only[cH]at e;cases e;exact qQ _
def Ln(e f:Nat):bL (wq (τ:=τ) (α:=α) e f):=by intro g a d h b c;simp only[wq]at c;cases c
def lu{g:Bool}{c d:PX τ α}(a:bL c)(b:bL d):bL (if g then c else d):=by cases g<;>assumption
def BT(g:τ->Except Mar.a5 τ):bL (lI g):=by
 intro f a d j b c;cases e:g f with
 |error h=>rw[rS e]at c;cases c
 |ok i=>rw[rT e]at c;cases c;exact qQ _
def vk{g:PX τ α}(h:bL g):bL (hr (ρ:=ρ) g):=by
 rintro⟨j,l⟩ a d m b e;cases f:g j a with
 |error k=>rw[rL f]at e;cases e
 |ok i=>obtain⟨c,n,o⟩:=i;rw[rM f]at e;cases e;exact h _ _ _ _ _ f
def yd{g:PX ρ α}(h:bL g):bL (kL (τ:=τ) g):=by
 rintro⟨l,i⟩ a d m b e;cases f:g i a with
 |error k=>rw[vE f]at e;cases e
 |ok j=>obtain⟨c,n,o⟩:=j;rw[vF f]at e;cases e;exact h _ _ _ _ _ f
def tu{g:PX τ Unit}(i:bL g)(h:τ):de (ih g h):=by
 intro a d b e;cases f:g h a with
 |error k=>rw[tP f]at e;cases e
 |ok j=>obtain⟨c,l,m⟩:=j;rw[oI f]at e;cases e;exact i _ _ _ _ _ f
def vj{g:PX τ α}(i:bL g)(h:τ):de (fH g h):=by
 intro a d b e;cases f:g h a with
 |error k=>rw[nF f]at e;cases e
 |ok j=>obtain⟨c,l,m⟩:=j;rw[qo f]at e;cases e;exact i _ _ _ _ _ f
def BI{g:PX Unit α}(h:bL g):de (hV g):=by
 intro a d b e;cases f:g () a with
 |error j=>simp only[hV,f]at e;cases e
 |ok i=>obtain⟨c,k,l⟩:=i;simp only[hV,f]at e;cases e;exact h _ _ _ _ _ f
def vi(e:ByteArray):de (fL e):=by
 intro a d b c;unfold fL at c;split at c<;>cases c;exact⟨Y4 _,Y4 _,rfl,id,id,pm _⟩
def oB(e:ByteArray):de (next e):=by
 intro a d b c;unfold next at c
 split at c<;>cases c;exact⟨Y4 _,Y4 _,rfl,id,id,pm _⟩
def pV(f:ByteArray)(h:List UInt8):de (gf f h):=by
 intro a d b c;unfold gf at c;cases e:fL f a with
 |error i=>simp only[e]at c;cases c
 |ok g=>obtain⟨j,k⟩:=g;simp only[e]at c;cases c;exact vi _ _ _ _ e
def vh(e:Nat):de (iE e):=by
 intro a d b c;unfold iE at c;split at c<;>cases c;exact⟨Nat.le_succ _,Y4 _,rfl,λ_=>by dsimp only;omega,id,pm _⟩
def BO(e:Nat):de (iD e):=by
 intro a d b c;unfold iD at c;split at c<;>cases c;exact⟨Y4 _,Nat.le_succ _,rfl,id,λ_=>by dsimp only;omega,pm _⟩
def yb(c d g:Nat):de (ej c d g):=by
 intro a f b e;unfold ej at e;split at e<;>cases e;exact qQ _
def KX(k:List UInt8)(i:List UInt8)(c:Nat)(v:Int):de (xW k (.const i c v)):=by
 intro a m b e;simp only[xW]at e;cases e
 refine⟨Y4 _,Y4 _,rfl,id,id,?_,?_⟩
 .intro h j;dsimp only;rw[xR];simpa using j
 .intro h f d;dsimp only at d;rw[xR]at d;cases g:az a.F h with
  |none=>rw[g]at d;cases d
  |some l=>
   rw[g]at d;simp only[Option.map_some,Yu]at d;split at d
   .cases d;exact Ya ⟨i,c,v,rfl⟩
   .subst d;exact Y8 rfl
def KK(e:Mar.bi):de (hB e):=by
 intro a c b d;unfold hB at d;split at d<;>cases d;exact qQ _
def KV(e:Mar.bi):de (iC e):=by
 intro a c b d;unfold iC at d;split at d<;>cases d;exact qQ _
def KT(k:Mar.bi):de (gc k):=by
 intro a c b g;unfold gc at g;split at g<;>cases g;refine⟨Y4 _,Y4 _,rfl,id,id,?_,?_⟩
 .intro h i;dsimp only;rw[xQ];cases e:az a.F h with
  |none=>rw[e]at i;cases i
  |some j=>rfl
 .intro h f d;dsimp only at d;rw[xQ]at d;cases e:az a.F h with
  |none=>
   rw[e]at d;simp only at d;split at d<;>cases d
  |some j=>rw[e]at d;exact Y8 d
def kc(b:ByteArray)(a:List UInt8):de (da b a):=by
 unfold da;repeat' (first|assumption|exact iZ _|exact oB _|exact pV _ _|refine gI ?_ ?_|refine mm ?_ ?_|(intro _))
def dO(b:ByteArray)(a:List UInt8):de (bV b a):=by
 unfold bV;repeat' (first|assumption|exact iZ _|exact ns _ _|exact oB _|refine gI ?_ ?_|refine mm ?_ ?_|(intro _))
def Ld(a:ByteArray)(b:Mar.bi):de (hL a b):=by
 unfold hL;repeat' (first|assumption|exact iZ _|exact ns _ _|exact kc _ _|refine gI ?_ ?_|refine mm ?_ ?_|(intro _))
def BR(a:ByteArray):de (kl a):=by
 unfold kl;repeat' (first|assumption|exact oB _|exact Ld _ _|refine gI ?_ ?_|(intro _))
def KW(a:Mar.bi):de (ic a):=by
 unfold ic;repeat' (first|assumption|exact iZ _|exact ns _ _|exact KK _|refine mm ?_ ?_|(intro _))
def tv(b:ByteArray)(a:Int->Bool):de (hM b a):=by
 unfold hM;repeat' (first|assumption|exact iZ _|exact ns _ _|exact oB _|exact KW _|refine gI ?_ ?_|refine mm ?_ ?_|(intro _))
def ya(a:ByteArray):de (nt a):=by
 unfold nt;repeat' (first|assumption|exact iZ _|exact kc _ _|exact dO _ _|exact tv _ _|refine gI ?_ ?_|refine mm ?_ ?_|(intro _))
def ve(a:ByteArray):de (jS a):=by
 unfold jS;repeat' (first|assumption|exact iZ _|exact kc _ _|exact dO _ _|exact tv _ _|exact ya _|refine gI ?_ ?_|refine mm ?_ ?_|(intro _))
def Lc(a:ByteArray):de (lH a):=by
 unfold lH;repeat' (first|assumption|exact iZ _|exact kc _ _|exact BR _|refine gI ?_ ?_|refine mm ?_ ?_|(intro _))
def tt(b:ByteArray)(a:Int->Bool):bL (fU b a):=by
 unfold fU;repeat' (first|assumption|exact hE _|exact BT _|exact tv _ _|refine eY ?_ ?_|refine eA ?_|(intro _))
def BM(a:ByteArray):bL (mg a):=by
 unfold mg;repeat' (first|assumption|exact hE _|exact dO _ _|exact tt _ _|refine eY ?_ ?_|refine eA ?_|(intro _))
def ts(c:ByteArray)(a:cN τ)(b:∀d,bL (a.ba d)):bL (name c a):=by
 unfold name;repeat' (first|exact b _|assumption|exact hE _|exact Ln _ _|exact oB _|refine eY ?_ ?_|refine eA ?_|refine lu ?_ ?_|(intro _))
def xY(a:Mar.bi)(c d:Nat):bL ((aT c d).ba a):=BT _
def BL(b:Ad)(a:Mar.bi):bL ((fP b).ba a):=eA (KT a)
def BJ(a:ByteArray)(e:List UInt8×Nat)(b:Ty):bL (oo (τ:=τ) a e b):=by
 unfold oo;repeat' (first|assumption|exact hE _|exact ve _|refine eY ?_ ?_|refine eA ?_|(intro _))
def KS(a:ByteArray)(e:List UInt8×Nat)(b:Ty)(c:Bool):bL (pG (τ:=τ) a e b c):=by
 unfold pG;repeat' (first|assumption|exact hE _|exact BJ _ _ _|refine lu ?_ ?_|(intro _))
def KR(a:ByteArray)(e:List UInt8×Nat)(b:Ty)(c:Bool):bL (pF (τ:=τ) a e b c):=by
 unfold pF;repeat' (first|assumption|exact pV _ _|exact BJ _ _ _|exact KS _ _ _ _|refine eY ?_ ?_|refine eA ?_|refine lu ?_ ?_|(intro _))
def KQ(a:ByteArray)(b:Ty)(e:List UInt8×Nat):bL (om (τ:=τ) a b e):=by
 unfold om;repeat' (first|assumption|exact pV _ _|exact KR _ _ _ _|refine eY ?_ ?_|refine eA ?_|(intro _))
def KP(c:ByteArray)(a:cN τ)(b:∀e,bL (a.ba e))(d:Ty)(f:Bool):bL (rl c a d f):=by
 unfold rl;repeat' (first|exact ts _ _ b|exact b _|assumption|exact hE _|exact KQ _ _ _|refine eY ?_ ?_|refine lu ?_ ?_|(intro _))
def KO(c:ByteArray)(a:cN τ)(b:∀e,bL (a.ba e))(d:Ty):bL (pE c a d):=by
 unfold pE;repeat' (first|exact b _|assumption|exact kc _ _|exact KP _ _ b _ _|refine eY ?_ ?_|refine eA ?_|(intro _))
def KN(c:ByteArray)(b:cN τ)(a:∀d,bL (b.ba d))(e:Bool):bL (na c b e):=by
 unfold na;repeat' (first|exact ts _ _ a|exact a _|assumption|exact hE _|exact BR _|exact ya _|exact KO _ _ a _|refine eY ?_ ?_|refine eA ?_|refine lu ?_ ?_|(intro _))
def KM(c:ByteArray)(b:cN τ)(a:∀d,bL (b.ba d))(e:Bool):bL (ol c b e):=by
 unfold ol;repeat' (first|exact ts _ _ a|exact a _|assumption|exact hE _|exact kc _ _|exact ve _|exact KN _ _ a _|refine eY ?_ ?_|refine eA ?_|refine lu ?_ ?_|(intro _))
def xZ(c:ByteArray)(a:cN τ)(b:∀d,bL (a.ba d)) :bL (dZ c a ):=by
 unfold dZ;repeat' (first|exact b _|assumption|exact kc _ _|exact KM _ _ b _|refine eY ?_ ?_|refine eA ?_|(intro _))
def KF(c:ByteArray)(a:cN τ)(b:∀d,bL (a.ba d))(e:Bool):bL (mU c a e):=by
 unfold mU;repeat' (first|assumption|exact hE _|exact xZ _ _ b|refine lu ?_ ?_|(intro _))
def KE(c:ByteArray)(a:cN τ)(b:∀d,bL (a.ba d)):bL (iA c a):=by
 unfold iA;repeat' (first|assumption|exact hE _|exact kc _ _|exact dO _ _|exact KF _ _ b _|refine eY ?_ ?_|refine eA ?_|(intro _))
def pU(a:ByteArray):de (gs a):=BI (ts _ _ (BL _))
def BK(a:ByteArray):de (md a):=BI (xZ _ _ (BL _))
def vg(a:ByteArray)(c d:Nat):bL (name a (aT c d)):=ts _ _ (λb=>xY b c d)
def KL(a:ByteArray)(c d:Nat):bL (dZ a (aT c d)):=xZ _ _ (λb=>xY b c d)
def BG(a:ByteArray)(c d:Nat):bL (iA a (aT c d)):=KE _ _ (λb=>xY b c d)
def BN(a:ByteArray)(e:Nat):bL (ie a e):=by
 unfold ie;repeat' (first|assumption|exact hE _|exact vi _|exact BO _|exact yb _ _ _|exact KX _ _ _ _|exact dO _ _|exact tt _ _|exact pU _|refine eY ?_ ?_|refine eA ?_|(intro _))
def KU(b:ByteArray)(e:List UInt8×Nat)(a:List (List UInt8×Nat×Int)):de (nh b e a):=by
 unfold nh;repeat' (first|assumption|exact iZ _|exact dO _ _|refine gI ?_ ?_|(intro _))
def KY(j:ByteArray)(e:List UInt8×Nat):∀(d:Nat) (h:List (List UInt8×Nat×Int)) (g:List (Int×Int)),de (gr j e d h g):=by
 intro d;induction d with
 |zero=>intro h g;exact ns _ _
 |succ d k=>
  intro h g a f b c;cases i:ie j h.length g a with
  |error m=>rw[tq i]at c;cases c
  |ok l=>
   obtain⟨o,n,q⟩:=l;rw[rI i]at c;refine(BN _ _ _ _ _ _ _ i).u (gI (kc _ _) (λp=>?_) _ _ _ c);exact mm (k _ _) (KU _ _ _)
def yc(h:ByteArray)(c:dF):bL (je h c):=by
 rintro⟨k,j⟩ a d m b e;cases g:dZ h (aT c.q c.bx) j a with
 |error l=>rw[yR g]at e;cases e
 |ok i=>
  obtain⟨f,n,o⟩:=i;rw[wh g]at e;exact(KL _ _ _ _ _ _ _ _ g).u (eY (eA (dO _ _)) (λ_=>hE _) _ _ _ _ _ e)
def BS{h:PX τ α}{k:PX (List α×τ) Unit}(o:bL h)(n:∀{g c l a b f},h c a=.ok (f,l,b)->k (g,c) a=.ok ((),(g++[f],l),b))(m:∀{g c a i},h c a=.error i->k (g,c) a=.error i):bL k:=by
 rintro⟨r,q⟩ a d s b e;cases j:h q a with
 |error i=>rw[m j]at e;cases e
 |ok p=>
  obtain⟨f,t,u⟩:=p;rw[n j]at e;cases e
  exact o _ _ _ _ _ j
def KH(g:ByteArray)(nt:Nat)(c:PX τ Unit)(d:bL c):∀a e,bL (hl g nt c a e):=by
 intro a;induction a with
 |zero=>intro e;exact eA (ns _ _)
 |succ a f=>
  intro e;unfold hl;refine eY ?_ λh=>?_
  .by_cases b:e=0
   .rw[Y9 b];exact hE _
   .rw[Y2 b];exact eA (kc _ _)
  .exact lu (hE _) (eY (eA (vi _)) λ_=>eY (eA (yb _ _ _)) λ_=>eY d λ_=>f _)
def vb(c:ByteArray)(nt:Nat)(a:PX τ Unit)(b:bL a):bL (ew c nt a):=eY (eA (dO _ _)) λ_=>KH _ _ _ b _ _
def KJ(i:ByteArray)(m:Int->Bool):∀(f:Nat) (g:List Int),bL (hn i m f g):=by
 intro f;induction f with
 |zero=>intro g;exact eA (ns _ _)
 |succ f k=>
  intro g l a d p b c;cases e:bV i [99,97,115,101] a with
  |error o=>rw[xa e]at c;cases c
  |ok j=>
   obtain⟨j,n⟩:=j;by_cases h:12<=l.length
   .rw[xb e h]at c;cases c
   .rw[xc e h]at c;refine(dO _ _ _ _ _ e).u (?_:Le n b);exact eY (tt _ _) (λ_=>eY (eA (dO _ _)) λ_=>eY (eA (pV _ _)) λ_=>lu (k _) (hE _)) _ _ _ _ _ c
def KI(b:ByteArray)(a:Int->Bool):bL (cases b a):=KJ _ _ _ _
def KG(b:ByteArray)(a:gy):bL (lf b a):=by
 unfold lf;repeat' (first|assumption|exact hE _|exact kc _ _|exact dO _ _|exact BG _ _ _|refine eY ?_ ?_|refine eA ?_|refine lu ?_ ?_|refine vk ?_|(intro _))
def BH(e:ByteArray)(d:Int->Bool):∀(a:Nat) (b:gy),bL (hz e d a b):=by
 intro a;induction a with
 |zero=>intro b;exact eA (ns _ _)
 |succ a c=>
  intro b;unfold hz;exact eY (yd (KI _ _)) λ_=>eY (vk (BG _ _ _)) λ_=>eY (eA (pV _ _)) λ_=>lu (c _) (KG _ _)
def Lb(a:ByteArray)(b:Mar.bi):de (jc a b):=by
 unfold jc;repeat' (first|assumption|exact iZ _|exact ns _ _|exact KV _|exact kc _ _|refine gI ?_ ?_|refine mm ?_ ?_|(intro _))
def BQ(a:ByteArray):de (nG a):=by
 unfold nG;repeat' (first|assumption|exact oB _|exact Lb _ _|refine gI ?_ ?_|(intro _))
def Lf(c:ByteArray)(e:List UInt8×Nat)(b:aG)(a:gy):de (oP c e b a):=by
 unfold oP;repeat' (first|assumption|exact iZ _|exact dO _ _|refine gI ?_ ?_|(intro _))
def Li(c:ByteArray)(e:List UInt8×Nat)(b:Ty×(Int->Bool))(a:(List UInt8×Nat)×List (List UInt8)):de (sf c e b a):=by
 unfold sf;repeat' (first|assumption|exact dO _ _|exact BH _ _ _ _|exact Lf _ _ _ _|refine gI ?_ ?_|refine vj ?_ _|(intro _))
def Lh(b:ByteArray)(e:List UInt8×Nat)(a:Ty×(Int->Bool)):de (qw b e a):=by
 unfold qw;repeat' (first|assumption|exact vg _ _ _|exact Li _ _ _ _|refine gI ?_ ?_|refine vj ?_ _|(intro _))
def Lg(a:ByteArray)(e:List UInt8×Nat):de (oR a e):=by
 unfold oR;repeat' (first|assumption|exact dO _ _|exact BQ _|exact Lh _ _ _|refine gI ?_ ?_|(intro _))
def La(a:ByteArray):bL (jC a):=by
 unfold jC;repeat' (first|assumption|exact hE _|exact dO _ _|exact Lc _|exact BM _|exact vg _ _ _|refine eY ?_ ?_|refine eA ?_|refine vk ?_|refine yd ?_|(intro _))
def Lm(a:ByteArray):bL (jG a):=BS (La a) Ei Eh
def Ll(a:ByteArray):bL (ew a 8 (jG a)):=vb _ _ _ (Lm _)
def Lj(a:ByteArray)(e:List UInt8×Nat):bL (ub a e):=by
 unfold ub;repeat' (first|assumption|exact hE _|exact BM _|exact Ll _|refine eY ?_ ?_|refine eA ?_|refine yd ?_|refine tu ?_ _|(intro _))
def Lk(a:ByteArray):bL (jF a):=by
 unfold jF;repeat' (first|assumption|exact dO _ _|exact vg _ _ _|exact Lj _ _|refine eY ?_ ?_|refine eA ?_|refine vk ?_|(intro _))
def KZ(a:ByteArray):bL (ja a):=BS (Lk a) CE CD
def BP(a:ByteArray):bL (ew a 4 (ja a)):=vb _ _ _ (KZ _)
structure iQ(a b:St):Prop where
 up:a.ae+a.a1+a.aa.length<b.ae+b.a1+b.aa.length
 L:a.ae<=24->b.ae<=24
 co:a.a1<=40->b.a1<=40
 pr:a.aa.length<=4->b.aa.length<=4
def iQ.then(b:iQ c d)(f:Le d g):iQ c g:=by
 obtain⟨j,k,e,h,i,_⟩:=f;exact⟨by rw[e];have:=b.up;omega,λa=>h (b.L a),λa=>i (b.co a),λa=>by rw[e];exact b.pr a⟩
def wi{d:Nat}(c:iE d a=.ok (i,b)):iQ a b:=by
 unfold iE at c;split at c<;>cases c;exact⟨by dsimp only;omega,λ_=>by dsimp only;omega,id,id⟩
def PP{d:Nat}(c:iD d a=.ok (i,b)):iQ a b:=by
 unfold iD at c;split at c<;>cases c;exact⟨by dsimp only;omega,id,λ_=>by dsimp only;omega,id⟩
def tU{g:PM α}{j:α->PM h}{d:h}(l:∀{c i},g a=.ok (c,i)->iQ a i)(k:∀c,de (j c))(e:av g j a=.ok (d,b)):iQ a b:=by
 cases f:g a with
 |error n=>rw[bl f]at e;cases e
 |ok m=>obtain⟨c,i⟩:=m;rw[au f]at e;exact(l f).then (k c _ _ _ e)
def PK{e:ByteArray}{d:Nat}(c:iB e d a=.ok (f,b)):iQ a b:=by
 refine tU PP (λ_=>?_) c;repeat' (first|assumption|exact iZ _|exact dO _ _|exact tv _ _|exact pU _|refine gI ?_ ?_|(intro _))
def Qa{e:ByteArray}{d:Nat}(c:iI e d a=.ok (f,b)):iQ a b:=by
 refine tU wi (λ_=>?_) c;repeat' (first|assumption|exact iZ _|exact dO _ _|exact BK _|refine gI ?_ ?_|(intro _))
def PO{e:ByteArray}{d:Nat}(c:gp e d a=.ok (f,b)):iQ a b:=by
 refine tU wi (λ_=>?_) c;repeat' (first|assumption|exact dO _ _|exact pU _|exact KY _ _ _ _ _|refine gI ?_ ?_|(intro _))
def PZ{e:ByteArray}{d:Nat}(c:jf e d a=.ok (f,b)):iQ a b:=by
 refine tU wi (λ_=>?_) c;repeat' (first|assumption|exact iZ _|exact dO _ _|exact pU _|exact yc _ _|exact vb _ _ _ (yc _ _)|refine gI ?_ ?_|refine tu ?_ _|(intro _))
def Qb{e:ByteArray}{d:Nat}(c:dQ e d a=.ok (f,b)):iQ a b:=by
 refine tU wi (λ_=>?_) c;repeat' (first|assumption|exact pU _|exact Lg _ _|refine gI ?_ ?_|(intro _))
def PS{g:ByteArray}{f:Int->Bool}(c:mq g f a=.ok (e,b)):a.ae<=b.ae/\a.a1<=b.a1/\b.aa.length=a.aa.length+1/\(a.ae<=24->b.ae<=24)/\(a.a1<=40->b.a1<=40):=by
 cases d:fU g f a.aa a with
 |error m=>rw[vB d]at c;cases c
 |ok l=>
  obtain⟨p,o,q⟩:=l;rw[yq d]at c;cases c
  obtain⟨h,i,n,j,k,_⟩:=tt _ _ _ _ _ _ _ d;exact⟨h,i,yr d,j,k⟩
def PN{f:ByteArray}(c:nf f a=.ok (e,b)):a.ae<=b.ae/\a.a1<=b.a1/\b.aa.length=a.aa.length+1/\(a.ae<=24->b.ae<=24)/\(a.a1<=40->b.a1<=40):=by
 unfold nf at c;cases h:bV f [61] a with
 |error k=>rw[bl h]at c;cases c
 |ok d=>
  obtain⟨g,u⟩:=d;rw[au h]at c;obtain⟨w,x,l,m,n,_⟩:=dO _ _ _ _ _ h;cases i:mq f (dj 0 4294967295) u with
  |error k=>rw[bl i]at c;cases c
  |ok d=>
   obtain⟨C,v⟩:=d;rw[au i]at c;obtain⟨y,z,o,p,q⟩:=PS i;cases j:bV f [59] v with
   |error k=>rw[bl j]at c;cases c
   |ok d=>
    obtain⟨D,E⟩:=d;rw[au j]at c;simp only[bT]at c;cases c
    obtain⟨A,B,r,s,t,_⟩:=dO _ _ _ _ _ j;exact⟨by omega,by omega,by rw[r,o,l],λg=>s (p (m g)),λg=>t (q (n g))⟩
def PU{g:ByteArray}{d:Nat}(c:hJ g d a=.ok (f,b)):iQ a b:=by
 unfold hJ at c;by_cases n:4<=a.aa.length
 .rw[bl (m:=λa:St=>ej a.aa.length 4 d a) (show ej a.aa.length 4 d a=.error ⟨5,d⟩from Y9 n)]at c;cases c
 rw[au (m:=λa:St=>ej a.aa.length 4 d a) (show ej a.aa.length 4 d a=.ok ((),a)from Y2 n)]at c;cases i:gs g a with
 |error m=>rw[bl i]at c;cases c
 |ok h=>
  obtain⟨e,y⟩:=h;rw[au i]at c;unfold oE at c;obtain⟨A,B,p,q,r,_⟩:=pU _ _ _ _ i;cases j:ih (ew g 4 (ja g)) ([],([],[])) y with
  |error m=>rw[bl j]at c;cases c
  |ok h=>
   obtain⟨o,z⟩:=h;rw[au j]at c;obtain⟨C,D,s,t,u,_⟩:=tu (BP g) _ _ _ _ j;cases k:nf g z with
   |error m=>rw[bl k]at c;cases c
   |ok h=>
    obtain⟨H,I⟩:=h;rw[au k]at c;simp only[bT]at c;cases c
    obtain⟨E,F,v,w,x⟩:=PN k;have G:b.aa.length=a.aa.length+1:=by rw[v,s,p]
    exact⟨by omega,λl=>w (t (q l)),λl=>x (u (r l)),λ_=>by omega⟩
def PL{i:ByteArray}(c:fQ i a=.ok (f,b)):iQ a b:=by
 unfold fQ at c;cases g:next i a with
 |error p=>rw[bl g]at c;cases c
 |ok l=>
  obtain⟨d,m⟩:=l;rw[au g]at c;obtain⟨n,o,h,j,k,_⟩:=oB _ _ _ _ g;have e:iQ m b:=by
   unfold dU at c;split at c
   .exact PK c
   split at c
   .exact Qa c
   split at c
   .exact PO c
   split at c
   .exact PZ c
   split at c
   .exact Qb c
   split at c
   .exact PU c
   .simp only[fl]at c;cases c
  have:=e.up;exact⟨by rw[h]at this;omega,λd=>e.L (j d),λd=>e.co (k d),λd=>e.pr (by rw[h];exact d)⟩
end
section
variable {c:TypeId}{d:Value}{a:World}{b:Type}
structure eV(b:Type) where
 f:Nat
 f2:Array Value
 f1:Array Value
 ba:List UInt8×Nat->b->Except Mar.a5 b
 J:b->World->Prop
 M:List Nat
 ok:List UInt8×Nat->Prop
def eV.v(a:eV b):Value:=.func (.func a.f) a.f2 a.f1
def fv(d:eV b)(a:World)(g:Except Mar.a5 b)(f:Ending)(c:World):Prop:=
 (∃h,g=.ok h/\f=.returned (.tuple #[])/\d.J h c/\ai d.M a c)\/(∃e,g=.error e/\ai d.M a c/\fg a e.no e.w f c)
structure hh{b:Type}(T:eV b):Prop where
 gD:∀args W,(callFunc T.f args).run prog W=.ok (.enter T.f args) W
 bh:∀{t a},T.J t a->∀m∈T.M,m<a.heap.size
 dl:∀{t a w'},T.J t a->Below a.heap.size a w'->T.J t w'
 call:∀{t W} (n:List UInt8×Nat),T.ok n->T.J t W->Calls prog T.f (T.f2.push (fT n)++T.f1) W (fv T W (T.ba n t))
def aZ(c:eV b):List (List UInt8×Nat)->b->Except Mar.a5 b
 |[],a=>.ok a
 |n::e,a=>match c.ba n a with
  |.ok f=>aZ c e f
  |.error d=>.error d
def cg:Ty->List (List UInt8×Nat)
 |.named c b=>[(c,b)]
 |.arr a _ _=>cg a
 |.opt a=>cg a
 |_=>[]
def cI:Ty->List (List UInt8×Nat)
 |.named d a=>[(d,a)]
 |.arr c _ b=>if b then cI c else []
 |_=>[]
def rJ:Ty->Nat
 |.named ..=>360
 |.arr ..=>370
 |.opt ..=>372
 |_=>332
def tm:Ty->Nat
 |.named ..=>359
 |.arr ..=>369
 |.opt ..=>371
 |_=>331
def qa:Ty->Value
 |.named e b=>.agg #[.string ⟨e.toArray⟩,.int .i64 b]
 |.arr a d c=>.agg #[bX a,.int .i64 d,.bool c]
 |.opt a=>.agg #[bX a]
 |_=>.agg #[]
def qc (b : Ty)   (e : bX b = .iface c d) (f : Nat) (a : World) : (method (f + 1) c d "Names").run Tryz.prog a = .ok (rJ b, qa b) a := by
 cases b<;>cases e<;>kernel_rfl
def uV (b : Ty)   (e : bX b = .iface c d) (f : Nat) (a : World) : (method (f + 1) c d "Leads").run Tryz.prog a = .ok (tm b, qa b) a := by
 cases b<;>cases e<;>kernel_rfl
def pY(b:Ty)(args:Array Value)(a:World):(callFunc (rJ b) args).run prog a=.ok (.enter (rJ b) args) a:=by cases b<;>kernel_rfl
def uU(b:Ty)(args:Array Value)(a:World):(callFunc (tm b) args).run prog a=.ok (.enter (tm b) args) a:=by cases b<;>kernel_rfl
def qZ{c:eV b}(f:hh c){d:b}(e:c.J d a):Calls prog 332 #[.agg #[],c.v] a (fv c a (.ok d)):=by
 have g:=f.dl e ((Below.refl a.heap.size a).alloc (Y4 _) (.cells #[] 250));go_in;go_wp2;go_end0;exact Y8 ⟨d,rfl,rfl,g,(ah _ a).G _⟩
def qY{c:eV b}(f:hh c){d:b}(e:c.J d a):Calls prog 331 #[.agg #[],c.v] a (fv c a (.ok d)):=by
 have g:=f.dl e ((Below.refl a.heap.size a).alloc (Y4 _) (.cells #[] 250));go_in;go_wp2;go_end0;exact Y8 ⟨d,rfl,rfl,g,(ah _ a).G _⟩
def Mp{e:eV b}(j:hh e){f:b}(g:Ty)(h:e.J f a):Calls prog 371 #[.agg #[bX g],e.v] a (fv e a (.ok f)):=by
 obtain⟨c,d,i⟩:=fm g;rw[i];have k:=j.dl h ((Below.refl a.heap.size a).alloc (Y4 _) (.cells #[.iface c d] 385))
 go_in;go_wp2;go_end0;exact Y8 ⟨f,rfl,rfl,k,(ah _ a).G _⟩
def DQ{a:eV b}(c:List UInt8×Nat)(d:b):aZ a [c] d=a.ba c d:=by
 simp only[aZ];cases a.ba c d<;>rfl
def LG{c:eV b}(f:hh c){h:b}(e:List UInt8)(d:Nat)(p:c.ok (e,d))(k:c.J h a):Calls prog 360 #[.agg #[.string ⟨e.toArray⟩,.int .i64 d],c.v] a (fv c a (c.ba (e,d) h)):=by
 have q:=f.dl k ((Below.refl a.heap.size a).alloc (Y4 _) (.cells #[.string ⟨e.toArray⟩,.int .i64 d] 260));have u:=f.gD;show Calls prog 360 #[.agg #[.string ⟨e.toArray⟩,.int .i64 d],.func (.func c.f) c.f2 c.f1] a _;go_in;go_wp2_with fail;refine(f.call (e,d) p q).mono ?_;rintro t w (⟨s,g,rfl,n,r⟩|⟨j,g,o,i,l,rfl,m⟩);rotate_left
 .exact aq (Ya ⟨j,g,((ah _ a).G _).u o,i,by simp at l;omega,rfl,m⟩)
 go_wp2;go_end0;exact Y8 ⟨s,g,rfl,n,((ah _ a).G _).u r⟩
def LF{c:eV b}(f:hh c){h:b}(e:List UInt8)(d:Nat)(p:c.ok (e,d))(k:c.J h a):Calls prog 359 #[.agg #[.string ⟨e.toArray⟩,.int .i64 d],c.v] a (fv c a (c.ba (e,d) h)):=by
 have q:=f.dl k ((Below.refl a.heap.size a).alloc (Y4 _) (.cells #[.string ⟨e.toArray⟩,.int .i64 d] 260));have u:=f.gD;show Calls prog 359 #[.agg #[.string ⟨e.toArray⟩,.int .i64 d],.func (.func c.f) c.f2 c.f1] a _;go_in;go_wp2_with fail;refine(f.call (e,d) p q).mono ?_;rintro t w (⟨s,g,rfl,n,r⟩|⟨j,g,o,i,l,rfl,m⟩);rotate_left
 .exact aq (Ya ⟨j,g,((ah _ a).G _).u o,i,by simp at l;omega,rfl,m⟩)
 go_wp2;go_end0;exact Y8 ⟨s,g,rfl,n,((ah _ a).G _).u r⟩
def tA{l:eV b}(h:hh l):∀(m:Ty) {f:b} {a:World},(∀j∈cg m,l.ok j)->l.J f a->Calls prog (rJ m) #[qa m,l.v] a (fv l a (aZ l (cg m) f)):=by
 intro m;induction m with
 |plain F=>intro f a _ e;exact qZ h e
 |opaq j g=>intro f a _ e;exact qZ h e
 |str j g=>intro f a _ e;exact qZ h e
 |void=>intro f a _ e;exact qZ h e
 |named j A=>intro f a o e;simp only[cg,DQ];exact LG h j A (o _ (by simp[cg])) e
 |arr k j g y=>
  intro f a o e;obtain⟨c,d,n⟩:=fm k;have D:=qc k n;have C:=pY k;have w:=h.dl e ((Below.refl a.heap.size a).alloc (Y4 _) (.cells #[.iface c d,.int .i64 j,.bool g] 382))
  have p:=Z (y o w);simp only[rJ,qa,cg];rw[n];go_in;go_wp2_with fail;refine p.j.mono ?_;rintro B E (⟨z,i,rfl,t,x⟩|⟨g,i,u,q,r,rfl,s⟩);rotate_left
  .exact aq (Ya ⟨g,i,((ah _ a).G _).u u,q,by simp at r;omega,rfl,s⟩)
  go_wp2;go_end0;exact Y8 ⟨z,i,rfl,t,((ah _ a).G _).u x⟩
 |opt k y=>
  intro f a o e;obtain⟨c,d,n⟩:=fm k;have D:=qc k n;have C:=pY k;have w:=h.dl e ((Below.refl a.heap.size a).alloc (Y4 _) (.cells #[.iface c d] 385))
  have p:=Z (y o w);simp only[rJ,qa,cg];rw[n];go_in;go_wp2_with fail;refine p.j.mono ?_;rintro B E (⟨z,i,rfl,t,x⟩|⟨g,i,u,q,r,rfl,s⟩);rotate_left
  .exact aq (Ya ⟨g,i,((ah _ a).G _).u u,q,by simp at r;omega,rfl,s⟩)
  go_wp2;go_end0;exact Y8 ⟨z,i,rfl,t,((ah _ a).G _).u x⟩
def xN{i:eV b}(g:hh i):∀(k:Ty) {f:b} {a:World},(∀h∈cI k,i.ok h)->i.J f a->Calls prog (tm k) #[qa k,i.v] a (fv i a (aZ i (cI k) f)):=by
 intro k;induction k with
 |plain E=>intro f a _ e;exact qY g e
 |opaq h j=>intro f a _ e;exact qY g e
 |str h j=>intro f a _ e;exact qY g e
 |void=>intro f a _ e;exact qY g e
 |named h s=>intro f a m e;simp only[cI,DQ];exact LF g h s (m _ (by simp[cI])) e
 |opt l q=>intro f a _ e;exact Mp g l e
 |arr l h j q=>
  intro f a m e;obtain⟨c,d,n⟩:=fm l;have D:=uV l n;have C:=uU l;have o:=g.dl e ((Below.refl a.heap.size a).alloc (Y4 _) (.cells #[.iface c d,.int .i64 h,.bool j] 382))
  simp only[tm,qa,cI];rw[n];cases j with
  |false=>
   go_in;go_wp2;go_end0;exact Y8 ⟨f,rfl,rfl,o,(ah _ a).G _⟩
  |true=>
   have r:=Z (q (by simpa[cI]using m) o);go_in;go_wp2_with fail;refine r.j.mono ?_;rintro B F (⟨A,p,rfl,x,z⟩|⟨j,p,y,t,u,rfl,w⟩);rotate_left
   .exact aq (Ya ⟨j,p,((ah _ a).G _).u y,t,by simp at u;omega,rfl,w⟩)
   go_wp2;go_end0;exact Y8 ⟨A,rfl,rfl,x,((ah _ a).G _).u z⟩
end
section
variable {h f:Nat}{g:List (Nat×Obj)}{a:List aG}{n:List UInt8}{b:World}{xs e:List (List UInt8×Nat)}{d:Type}
def DP{b:eV d}:∀(xs e:List (List UInt8×Nat)) (a:d),aZ b (xs++e) a=match aZ b xs a with|.ok c=>aZ b e c|.error f=>.error f:=by
 intro xs;induction xs with
 |nil=>intro e a;rfl
 |cons h xs g=>
  intro e a;simp only[YX,aZ];cases b.ba h a with
  |ok c=>exact g e c
  |error f=>rfl
def qu{a:eV d}{b c:d}(f:aZ a xs b=.ok c):aZ a (xs++e) b=aZ a e c:=by rw[DP,f]
def qt{a:eV d}{c:d}{b:Mar.a5}(f:aZ a xs c=.error b):aZ a (xs++e) c=.error b:=by rw[DP,f]
def lk{g:Type}{c:g->List Value}{n:Nat}(e:∀f,(c f).length=n):∀(xs:List g) (a b:Nat) (d:a<xs.length) (_:b<n),(xs.flatMap c)[a*n+b]? = (c xs[a])[b]?:=by
 intro xs;induction xs with
 |nil=>intro a b d;cases d
 |cons f xs j=>
  intro a b d i;rw[YD];cases a with
  |zero=>
   rw[Ys (by rw[e];omega)];simp
  |succ a=>
   rw[Yw (by rw[e,Nat.succ_mul];omega)];have h:(a+1)*n+b-(c f).length=a*n+b:=by rw[e,Nat.succ_mul];omega
   rw[h,j a b (by simpa using d) i];simp
def cw{f:Nat}{e:Array Value}{h:TypeId}{xs:List Value}(i:b.heap[f]? = some (.cells e h))(j:e.toList.take xs.length=xs){c:Nat}{v:Value}(a:xs[c]? = some v):b.cell? ⟨f,c,none⟩=some v:=by
 have g:c<xs.length:=by
  rcases Yj c xs.length with d|d
  .exact d
  .rw[YA d]at a;cases a
 have:=CP i j g;rw[this];rw[Yd g]at a;exact a
def Qw{e:eV d}(G:hh e)(b4:∀n∈a.flatMap λj=>cg j.L,e.ok n)(a6:dx g f (.struct n h a))(F:∀{l:d} {o:World},e.J l o->∀H∈g,o.heap[H.1]? = some H.2){l:d}(w:e.J l b) :
  Calls prog 345 #[.pointer (some ⟨f,0,none⟩),e.v] b (fv e b (aZ e (a.flatMap λj=>cg j.L) l)):=by
 have O:=Z b4;obtain⟨d8,a3,b6⟩:=a6;obtain⟨d3,d4,d5,_⟩:=dT (F w _ a3);rcases b6 with⟨rfl,a2,_⟩|⟨u,c2,c3,rfl,⟨c5,d1⟩,a8,A⟩
 .have b3:a=[]:=Yv.1 a2;subst b3;have s:=Z w;go_in;go_wp2;go_loopw [11] (λk r=>k=.int .i64 0/\r=b) (λ_ _=>0)
  case atStart=>exact⟨rfl,rfl⟩
  case round=>
   obtain⟨rfl,rfl⟩:=hrel;go_wp2;go_end0;exact Y8 ⟨l,rfl,rfl,s.j,ah _ _⟩
 .have b5:∀(o:World) (m:d),e.J m o->∀k (p:k<a.length),o.cell? ⟨u,k*3,none⟩=some (.string ⟨a[k].t.toArray⟩)/\o.cell? ⟨u,k*3+1,none⟩=some (.int .i64 a[k].w)/\o.cell? ⟨u,k*3+2,none⟩=some (bX a[k].L):=by
   intro o m b7 k p;have y:=F b7 _ a8;have x:=lk (c:=ho) (n:=3) (λ_=>rfl) a k;exact⟨cw y A (by have:=x 0 p (by omega);simpa using this),cw y A (by have:=x 1 p (by omega);simpa using this),cw y A (by have:=x 2 p (by omega);simpa using this)⟩
  have P:=Z b5;have s:=Z w;go_in;go_wp2;go_loopw [11] (λk r=>∃(i:Nat) (m:d),k=.int .i64 i/\i<=a.length/\U (e.J m r)/\ai e.M b r/\U (aZ e (a.flatMap λj=>cg j.L) l=aZ e ((a.drop i).flatMap λj=>cg j.L) m)) (λk _=>a.length-(intOf k).toNat)
  case atStart=>exact⟨0,l,rfl,by omega,s,ah _ _,rfl⟩
  case round=>
   obtain⟨i,m,rfl,d0,t,q,C⟩:=hrel;rcases Yj i a.length with z|c7
   .obtain⟨d6,d7,c0⟩:=P.j _ _ t.j i z;obtain⟨S,c1,E⟩:=fm a[i].L;have d2:=qc a[i].L E;have c6:=pY a[i].L;rw[E]at c0;have c8:(0:Int)<=↑i:=by omega
    have c9:(↑i:Int) < ↑a.length:=by omega
    have D:U (aZ e (a.flatMap λj=>cg j.L) l=aZ e (cg a[i].L++(a.drop (i+1)).flatMap λj=>cg j.L) m):=by
     refine C.j.trans ?_;rw[Yk z,YD]
    have N:=Z (tA G a[i].L (λn b2=>O.j n (List.mem_flatMap.2 ⟨a[i],Yy z,b2⟩)) (G.dl t.j ((Below.refl _ _).alloc (Y4 _) (.cells #[.string ⟨a[i].t.toArray⟩,.int .i64 a[i].w,.iface S c1] 242))))
    go_wp2_with fail;refine N.j.mono ?_;rintro c4 J (⟨I,B,rfl,a9,b8⟩|⟨a1,B,b0,a0,a4,rfl,a5⟩);rotate_left
    .exact(show bodyPost prog Tryz.f345 (fv e b (aZ e (a.flatMap λj=>cg j.L) l)) (Exit.panic _) _ J from aq (Ya ⟨a1,D.j.trans (qt B),(q.G _).u b0,a0,by have:=q.a2;simp at a4;omega,rfl,a5⟩))
    have R:=Z a9;have K:U (aZ e (a.flatMap λj=>cg j.L) l=aZ e ((a.drop (i+1)).flatMap λj=>cg j.L) I):=D.j.trans (qu B);have b9:ai e.M b J:=(q.G _).u b8;go_wp2;exact⟨⟨i+1,I,by go_num,by omega,R,b9,K⟩,by simp[intOf];omega⟩
   .have b1:i=a.length:=by omega
    subst b1;have a7:aZ e (a.flatMap λj=>cg j.L) l=.ok m:=by
     refine C.j.trans ?_;rw[List.drop_length];rfl
    have L:=Z a7;go_wp2;go_end0;exact Y8 ⟨m,L.j,rfl,t.j,q⟩
def Qv{e:eV d}(G:hh e)(b4:∀n∈a.flatMap λj=>cI j.L,e.ok n)(a6:dx g f (.struct n h a))(F:∀{l:d} {o:World},e.J l o->∀H∈g,o.heap[H.1]? = some H.2){l:d}(w:e.J l b) :
  Calls prog 344 #[.pointer (some ⟨f,0,none⟩),e.v] b (fv e b (aZ e (a.flatMap λj=>cI j.L) l)):=by
 have O:=Z b4;obtain⟨d8,a3,b6⟩:=a6;obtain⟨d3,d4,d5,_⟩:=dT (F w _ a3);rcases b6 with⟨rfl,a2,_⟩|⟨u,c2,c3,rfl,⟨c5,d1⟩,a8,A⟩
 .have b3:a=[]:=Yv.1 a2;subst b3;have s:=Z w;go_in;go_wp2;go_loopw [11] (λk r=>k=.int .i64 0/\r=b) (λ_ _=>0)
  case atStart=>exact⟨rfl,rfl⟩
  case round=>
   obtain⟨rfl,rfl⟩:=hrel;go_wp2;go_end0;exact Y8 ⟨l,rfl,rfl,s.j,ah _ _⟩
 .have b5:∀(o:World) (m:d),e.J m o->∀k (p:k<a.length),o.cell? ⟨u,k*3,none⟩=some (.string ⟨a[k].t.toArray⟩)/\o.cell? ⟨u,k*3+1,none⟩=some (.int .i64 a[k].w)/\o.cell? ⟨u,k*3+2,none⟩=some (bX a[k].L):=by
   intro o m b7 k p;have y:=F b7 _ a8;have x:=lk (c:=ho) (n:=3) (λ_=>rfl) a k;exact⟨cw y A (by have:=x 0 p (by omega);simpa using this),cw y A (by have:=x 1 p (by omega);simpa using this),cw y A (by have:=x 2 p (by omega);simpa using this)⟩
  have P:=Z b5;have s:=Z w;go_in;go_wp2;go_loopw [11] (λk r=>∃(i:Nat) (m:d),k=.int .i64 i/\i<=a.length/\U (e.J m r)/\ai e.M b r/\U (aZ e (a.flatMap λj=>cI j.L) l=aZ e ((a.drop i).flatMap λj=>cI j.L) m)) (λk _=>a.length-(intOf k).toNat)
  case atStart=>exact⟨0,l,rfl,by omega,s,ah _ _,rfl⟩
  case round=>
   obtain⟨i,m,rfl,d0,t,q,C⟩:=hrel;rcases Yj i a.length with z|c7
   .obtain⟨d6,d7,c0⟩:=P.j _ _ t.j i z;obtain⟨S,c1,E⟩:=fm a[i].L;have d2:=uV a[i].L E;have c6:=uU a[i].L;rw[E]at c0;have c8:(0:Int)<=↑i:=by omega
    have c9:(↑i:Int) < ↑a.length:=by omega
    have D:U (aZ e (a.flatMap λj=>cI j.L) l=aZ e (cI a[i].L++(a.drop (i+1)).flatMap λj=>cI j.L) m):=by
     refine C.j.trans ?_;rw[Yk z,YD]
    have N:=Z (xN G a[i].L (λn b2=>O.j n (List.mem_flatMap.2 ⟨a[i],Yy z,b2⟩)) (G.dl t.j ((Below.refl _ _).alloc (Y4 _) (.cells #[.string ⟨a[i].t.toArray⟩,.int .i64 a[i].w,.iface S c1] 242))))
    go_wp2_with fail;refine N.j.mono ?_;rintro c4 J (⟨I,B,rfl,a9,b8⟩|⟨a1,B,b0,a0,a4,rfl,a5⟩);rotate_left
    .exact(show bodyPost prog Tryz.f344 (fv e b (aZ e (a.flatMap λj=>cI j.L) l)) (Exit.panic _) _ J from aq (Ya ⟨a1,D.j.trans (qt B),(q.G _).u b0,a0,by have:=q.a2;simp at a4;omega,rfl,a5⟩))
    have R:=Z a9;have K:U (aZ e (a.flatMap λj=>cI j.L) l=aZ e ((a.drop (i+1)).flatMap λj=>cI j.L) I):=D.j.trans (qu B);have b9:ai e.M b J:=(q.G _).u b8;go_wp2;exact⟨⟨i+1,I,by go_num,by omega,R,b9,K⟩,by simp[intOf];omega⟩
   .have b1:i=a.length:=by omega
    subst b1;have a7:aZ e (a.flatMap λj=>cI j.L) l=.ok m:=by
     refine C.j.trans ?_;rw[List.drop_length];rfl
    have L:=Z a7;go_wp2;go_end0;exact Y8 ⟨m,L.j,rfl,t.j,q⟩
end
end Go.Proofs.YtjdhaegijjednaaGreatDoor
namespace Go.Proofs.YtjdhaegijjednaaGreatDoor
open Go.RowKit
open Go.Proofs.Tryz
section
variable {j:List Nat}{h d b g:Nat}{f l:Nat->Prop}{t:List UInt8}{m c w':World}
structure be where
 H:Int
 n:Int
 of:Int
 b2:List Int
 c0:List Int
 gz:Int
 ca:List UInt8
 w:Int
structure df where
 s:List UInt8
 bb:Int
 n:Int
 w:Int
structure bj where
 prog:Int
 d1:Int
 lX:Int
 c4:Int
 dr:Int
structure ac where
 s:iu
 y:List be
 F:List df
 ak:List bj
 j:List UInt8
 a1:Int
 ae:Int
 aa:List Int
def cT:be:=⟨0,0,0,[],[],0,[],0⟩
def gW:df:=⟨[],0,0,0⟩
abbrev kP(a:be)(b:Value×Value):List Value:=[.int .i64 a.H,.int .i64 a.n,.int .i64 a.of,b.1,b.2,.int .i64 a.gz,.string ⟨a.ca.toArray⟩,.int .i64 a.w]
abbrev hG(a:df):List Value:=[.string ⟨a.s.toArray⟩,.int .i64 a.bb,.int .i64 a.n,.int .i64 a.w]
abbrev eh(a:bj):List Value:=[.int .i64 a.prog,.int .i64 a.d1,.int .i64 a.lX,.int .i64 a.c4,.int .i64 a.dr]
def mv(b:List be)(c:List (Value×Value)):List Value:=(b.zip c).flatMap λa=>kP a.1 a.2
def dR(v:Value)(a:List Int)(c:World):Prop:=c.ownsRow 0 3 1 v a.length (a.map (Value.int .i64))
def ky(v:Value)(a:List (List UInt8))(c:World):Prop:=c.ownsRow 0 9 1 v a.length (a.map λb=>Value.string ⟨b.toArray⟩)
structure PV where
 rv:Value
 nv:Value
 pv:Value
 gv:Value
 ls:List (Value×Value)
def PV.b7(a:PV)(d:Nat):List Nat:=d::(a.rv.ownBlock.toList++(a.nv.ownBlock.toList++(a.pv.ownBlock.toList++a.gv.ownBlock.toList)))
structure PV.Nd(V:PV)(d:Nat):Prop where
 r:V.rv.ownBlock≠some d
 n:V.nv.ownBlock≠some d
 p:V.pv.ownBlock≠some d
 g:V.gv.ownBlock≠some d
 rn:∀b,V.rv.ownBlock=some b->V.nv.ownBlock≠some b
 rp:∀b,V.rv.ownBlock=some b->V.pv.ownBlock≠some b
 rg:∀b,V.rv.ownBlock=some b->V.gv.ownBlock≠some b
 np:∀b,V.nv.ownBlock=some b->V.pv.ownBlock≠some b
 ng:∀b,V.nv.ownBlock=some b->V.gv.ownBlock≠some b
 pg:∀b,V.pv.ownBlock=some b->V.gv.ownBlock≠some b
def PV.bz(b:PV):List Nat:=b.ls.flatMap λa=>a.1.ownBlock.toList++a.2.ownBlock.toList
def ac.sz(a:ac):Nat:=a.y.length+a.F.length+a.ak.length+a.aa.length+a.j.length+a.a1.toNat+a.ae.toNat
abbrev pB(a:PV)(b:ac):lT:=⟨a.rv,a.nv,a.pv,b.j,b.a1,b.ae,a.gv⟩
structure bg(f:Nat->Prop)(d:Nat)(t:List UInt8)(h:Nat)(σ:ac)(V:PV)(c:World):Prop where
 aD:c.heap[d]? = some (lB t σ.s (pB V σ))
 y:c.ownsRow 0 117 8 V.rv σ.y.length (mv σ.y V.ls)
 F:c.ownsRow 0 119 4 V.nv σ.F.length (σ.F.flatMap hG)
 ak:c.ownsRow 0 288 5 V.pv σ.ak.length (σ.ak.flatMap eh)
 aa:dR V.gv σ.aa c
 bc:V.ls.length=σ.y.length
 gb:∀(i:Nat) r p,σ.y[i]? = some r->V.ls[i]? = some p->dR p.1 r.b2 c/\dR p.2 r.c0 c
 nd:V.Nd d
 cq:∀b∈V.bz,b ∉ V.b7 d
 b1:∀b,b∈V.b7 d\/b∈V.bz->¬f b
 bh:∀b,f b->b<c.heap.size
 fin:σ.s.x.fin<=t.length
 c2:σ.s.x.text.length<=2000
 c6:t.length<=2000
 b0:σ.sz<=h
 cn:0<=σ.a1/\0<=σ.ae
def bu(f:Nat->Prop)(d:Nat)(t:List UInt8)(h:Nat)(b:ac)(c:World):Prop:=∃a,bg f d t h b a c
structure Fr(f:Nat->Prop)(c w':World):Prop where
 os:w'.os=c.os
 d9:w'.tape=c.tape
 d8:w'.output=c.output
 a2:c.heap.size<=w'.heap.size
 K:∀k,k<c.heap.size->f k->w'.heap[k]? = c.heap[k]?
def ad(f:Nat->Prop)(b:Nat):Nat->Prop:=λa=>f a\/a=b
def kB:ad f b b:=Ya rfl
def iN(f:Nat->Prop)(c:World):Fr f c c:=⟨rfl,rfl,rfl,Y4 _,λ_ _ _=>rfl⟩
def Fr.u{v:World}(a:Fr f m v)(b:Fr f v c):Fr f m c:=
 ⟨b.os.trans a.os,b.d9.trans a.d9,b.d8.trans a.d8,Yz a.a2 b.a2,λg d e=>(b.K g (Yr d a.a2) e).trans (a.K g d e)⟩
def Fr.cc(a:Fr l c w')(h:∀b,b<c.heap.size->f b->l b):Fr f c w':=⟨a.os,a.d9,a.d8,a.a2,λe d g=>a.K e d (h e d g)⟩
def Fr.bo(a:Fr (ad f b) c w'):Fr f c w':=a.cc λ_ _=>Y8
def sq(a:ai j c w')(g:∀e∈j,e<c.heap.size->¬f e):Fr f c w':=⟨a.os,a.d9,a.d8,a.a2,λd b h=>a.K d b λi=>g d i b h⟩
def Fr.c7(a:Fr f m c)(b:ai j c w')(i:∀h∈j,f h->m.heap.size<=h):Fr f m w':=
 ⟨b.os.trans a.os,b.d9.trans a.d9,b.d8.trans a.d8,Yz a.a2 b.a2,λd e g=>(b.K d (Yr e a.a2) (λk=>by have:=i d k g;omega)).trans (a.K d e g)⟩
def Fr.G(b:Fr f m c)(a:Obj):Fr f m (c.alloc a):=b.c7 ((ah [] c).G a) (by simp)
def Fr.a9(a:Fr f m c):Fr f m c.drew:=a.c7 ((ah [] c).a9) (by simp)
def dR.bz{v:Value}{a:List Int}(b:dR v a c)(e:ai j c w')(d:∀g,v.ownBlock=some g->g ∉ j):dR v a w':=aY b e d
def ky.bz{v:Value}{a:List (List UInt8)}(b:ky v a c)(e:ai j c w')(d:∀g,v.ownBlock=some g->g ∉ j):ky v a w':=aY b e d
def oD{b:Nat}{d:TypeId}{i h:Nat}{v:Value}{j:List Value}(a:c.ownsRow b d i v h j)(p:Fr f c w')(o:∀g,v.ownBlock=some g->f g):w'.ownsRow b d i v h j:=by
 refine⟨a.1,?_⟩;rcases a.2 with a|⟨g,k,l,rfl,m,e,n⟩
 .exact Y8 a
 .exact Ya ⟨g,k,l,rfl,m,(p.K _ (aj e) (o g rfl)).trans e,n⟩
def he{a:PV}(b:a.nv.ownBlock=some g):g∈a.b7 d:=by simp[PV.b7,b]
def hR{a:PV}(b:a.rv.ownBlock=some g):g∈a.b7 d:=by simp[PV.b7,b]
def iv{a:PV}(b:a.pv.ownBlock=some g):g∈a.b7 d:=by simp[PV.b7,b]
def jn{a:PV}(b:a.gv.ownBlock=some g):g∈a.b7 d:=by simp[PV.b7,b]
def hx{c:PV}{e:Nat}{b:Value×Value}(d:c.ls[e]? = some b)(a:b.1.ownBlock=some g\/b.2.ownBlock=some g):g∈c.bz:=by
 refine List.mem_flatMap.2 ⟨b,Yh d,?_⟩;rcases a with a|a<;>simp[a]
def bg.lt{l:ac}{i:PV}(e:bg f d t h l i c):∀b,b∈i.b7 d\/b∈i.bz->b<c.heap.size:=by
 intro b a;rcases a with a|a
 .unfold PV.b7 at a;simp only[Yg,Yn,Option.mem_toList]at a;rcases a with rfl|a|a|a|a
  .exact aj e.aD
  .exact(gK e.y a).2
  .exact(gK e.F a).2
  .exact(gK e.ak a).2
  .exact(gK e.aa a).2
 .obtain⟨q,p,g⟩:=List.mem_flatMap.1 a;obtain⟨k,j,rfl⟩:=List.getElem_of_mem p;have o:k<l.y.length:=by rw[<-e.bc];exact j
  obtain⟨m,n⟩:=e.gb k _ _ (Yd o) (Yd j);simp only[Yn,Option.mem_toList]at g;rcases g with g|g
  .exact(gK m g).2
  .exact(gK n g).2
def bg.hy{q:ac}{m:PV}(a:bg f d t h q m c)(k:ai j c w')(u:∀C∈j,f C)(v:∀b,l b->f b\/c.heap.size<=b)(w:∀b,l b->b<w'.heap.size):bg l d t h q m w':=by
 have i:∀b,b∈m.b7 d\/b∈m.bz->b ∉ j:=λb n x=>a.b1 b n (u b x);have B:=a.lt;refine⟨(k.K _ (aj a.aD) (i d (Y8 (by simp[PV.b7])))).trans a.aD,aY a.y k λg e=>i g (Y8 (hR e)),aY a.F k λg e=>i g (Y8 (he e)),aY a.ak k λg e=>i g (Y8 (iv e)),a.aa.bz k λg e=>i g (Y8 (jn e)),a.bc,?_,a.nd,a.cq,?_,w,a.fin,a.c2,a.c6,a.b0,a.cn⟩
 .intro A E D y o;obtain⟨r,s⟩:=a.gb A E D y o;exact⟨r.bz k λg e=>i g (Ya (hx o (Y8 e))),s.bz k λg e=>i g (Ya (hx o (Ya e)))⟩
 .intro b n z;rcases v b z with p|p
  .exact a.b1 b n p
  .have:=B b n;omega
def bu.hy{a:ac}(g:bu f d t h a c)(o:ai j c w')(i:∀p∈j,f p)(m:∀b,l b->f b\/c.heap.size<=b)(n:∀b,l b->b<w'.heap.size):bu l d t h a w':=by
 obtain⟨e,k⟩:=g;exact⟨e,k.hy o i m n⟩
def bu.bh{g:ac}(a:bu f d t h g c):∀b,f b->b<c.heap.size:=by
 obtain⟨i,e⟩:=a;exact e.bh
def bu.G{i:ac}(g:bu f d t h i c)(e:Obj):bu (ad f c.heap.size) d t h i (c.alloc e):=by
 refine g.hy ((ah [] c).G e) (by simp) ?_ ?_
 .intro b a;rcases a with a|rfl
  .exact Y8 a
  .exact Ya (Y4 _)
 .intro b a;have j:(c.alloc e).heap.size=c.heap.size+1:=by simp
  rcases a with a|rfl
  .have:=g.bh b a;omega
  .omega
def bu.cc{i:ac}(e:bu f d t h i c)(g:∀b,l b->f b):bu l d t h i c:=
 e.hy (ah [] c) (by simp) (λb a=>Y8 (g b a)) (λb a=>e.bh b (g b a))
def bu.bo{a:ac}(e:bu (ad f b) d t h a c):bu f d t h a c:=e.cc λ_=>Y8
def bu.O{g:ac}(a:bu f d t h g c)(e:ai j c w')(i:∀l∈j,f l):bu f d t h g w':=
 a.hy e i (λ_=>Y8) (λb k=>Yr (a.bh b k) e.a2)
def bu.a9{a:ac}(b:bu f d t h a c):bu f d t h a c.drew:=b.O ((ah [] c).a9) (by simp)
def bu.a4{N':Nat}{b:ac}(g:bu f d t h b c)(i:h<=N'):bu f d t N' b c:=by
 obtain⟨e,a⟩:=g;exact⟨e,{ a with b0:=Yz a.b0 i }⟩
def bg.am{g:ac}{i:PV}(b:bg f d t h g i c) :
  c.cell? ⟨d,1,none⟩=some (.int .i64 g.s.x.H)/\c.cell? ⟨d,2,none⟩=some (.string ⟨g.s.x.text.toArray⟩)/\c.cell? ⟨d,3,none⟩=some (.int .i64 g.s.x.w)/\c.cell? ⟨d,4,none⟩=some (.int .i64 g.s.x.fin)/\c.cell? ⟨d,5,none⟩=some (.int .i64 g.s.x.n)/\c.cell? ⟨d,6,none⟩=some (.int .i64 g.s.x.e)/\c.cell? ⟨d,7,none⟩=some i.rv/\c.cell? ⟨d,8,none⟩=some i.nv/\c.cell? ⟨d,9,none⟩=some i.pv/\c.cell? ⟨d,10,none⟩=some (.string ⟨g.j.toArray⟩)/\c.cell? ⟨d,11,none⟩=some (.int .i64 g.s.e)/\c.cell? ⟨d,12,none⟩=some (.int .i64 g.s.a)/\c.cell? ⟨d,13,none⟩=some (.int .i64 g.a1)/\c.cell? ⟨d,14,none⟩=some (.int .i64 g.ae)/\c.cell? ⟨d,15,none⟩=some i.gv/\(∀j,c.frozen? ⟨d,j,none⟩=false)/\d<c.heap.size:=
 ⟨aS b.aD rfl,aS b.aD rfl,aS b.aD rfl,aS b.aD rfl,aS b.aD rfl,aS b.aD rfl,aS b.aD rfl,aS b.aD rfl,aS b.aD rfl,aS b.aD rfl,aS b.aD rfl,aS b.aD rfl,aS b.aD rfl,aS b.aD rfl,aS b.aD rfl,cG b.aD,aj b.aD⟩
def bg.b6{p:ac}{k:PV}{s:iu}(a:bg f d t h p k c)(m:w'.heap[d]? = some (lB t s (pB k p)))(e:ai [d] c w')(w:s.x.fin<=t.length)(A:s.x.text.length<=2000):bg f d t h { p with s:=s } k w':=by
 have l:∀{v:Value},v.ownBlock≠some d->∀g,v.ownBlock=some g->g ∉ [d]:=λz g j i=>by
  simp only[Yc]at i;exact z (by rw[j,i])
 have q:∀b,b∈k.bz->b ∉ [d]:=λb m i=>by
  simp only[Yc]at i;exact a.cq b m (by rw[i];simp[PV.b7])
 refine⟨m,aY a.y e (l a.nd.r),aY a.F e (l a.nd.n),aY a.ak e (l a.nd.p),a.aa.bz e (l a.nd.g),a.bc,?_,a.nd,a.cq,a.b1,λb B=>Yr (a.bh b B) e.a2,w,A,a.c6,a.b0,a.cn⟩;intro C E D y o;obtain⟨r,u⟩:=a.gb C E D y o;exact⟨r.bz e λg j=>q g (hx o (Y8 j)),u.bz e λg j=>q g (hx o (Ya j))⟩
def bg.fr{j:ac}{b:PV}(e:bg f d t h j b c)(g:ai [d] c w'):Fr f c w':=
 sq g λi a _=>by
  simp only[Yc]at a;exact e.b1 i (Y8 (by rw[a];simp[PV.b7]))
end
def GP(h:Nat->Prop)(d:Nat)(c:List UInt8)(g:Nat)(f:ac)(v:Value)(b:World)(e:Ending)(a:World):Prop:=e=.returned v/\bu h d c g f a/\Fr h b a
def bp(c b:Int)(a:ac):ac:={ a with s:=⟨a.s.x,(hp a.s.e a.s.a c b).1,(hp a.s.e a.s.a c b).2⟩ }
def dd(a:ac):ac:={ a with s:=jQ a.s }
def aJ(c:List UInt8)(a:ac):ac:={ a with s:=qe c a.s }
def ay(a:ac)(b:Nat)(c:List UInt8):Bool:=hD a.s.x a.s.e b c
def ab(c:List UInt8)(b:Nat)(d:List UInt8)(a:ac):ac:={ a with s:=mG c a.s b d }
def cK(c:List UInt8)(a:ac):ef×ac:=((im c a.s).1,{ a with s:=(im c a.s).2 })
def bA(a:ac)(b:List UInt8):Int:=lj (a.F.map (·.s)) b
def vx{c:List UInt8}{a:Nat}(f:c.length<=2000):(cR c a).text.length<=2000:=by
 unfold cR;cases d:Mar.ds (c.drop (dV c a)) (dV c a)with
 |error e=>simp
 |ok b=>
  have:=xB d;rw[YI]at this;simp only;omega
def Ek{c:List UInt8}{a:iu}{e:Nat}{f:List UInt8}(b:c.length<=2000)(d:a.x.text.length<=2000):(mG c a e f).x.text.length<=2000:=by
 unfold mG;split
 .exact vx b
 .exact d
def zr{c:List UInt8}{b:iu}(d:c.length<=2000)(a:b.x.text.length<=2000):(im c b).1.text.length<=2000/\(im c b).2.x.text.length<=2000:=by
 unfold im;split
 .exact⟨by simp[cd],a⟩
 .split
  .exact⟨a,vx d⟩
  .exact⟨by simp[cd],a⟩
variable {h : Nat -> Prop} {d g : Nat} {c : List UInt8} {a : ac} {b : World}
def iV(m:bu h d c g a b)(i f:Int):Calls prog 51 #[.pointer (some ⟨d,0,none⟩),.int .i64 i,.int .i64 f] b (GP h d c g (bp i f a) (.tuple #[]) b):=by
 obtain⟨k,e⟩:=m;refine(uM e.aD i f).mono ?_;rintro n o ⟨rfl,l,j⟩;exact⟨rfl,⟨k,e.b6 (s:=⟨a.s.x,_,_⟩) l j e.fin e.c2⟩,e.fr j⟩
def oe(k:bu h d c g a b):Calls prog 84 #[.pointer (some ⟨d,0,none⟩)] b (GP h d c g (dd a) (.tuple #[]) b):=by
 obtain⟨i,e⟩:=k;refine(uy e.aD).mono ?_;rintro l m ⟨rfl,j,f⟩;exact⟨rfl,⟨i,e.b6 (s:=jQ a.s) j f e.fin e.c2⟩,e.fr f⟩
def gJ(k:bu h d c g a b):Calls prog 47 #[.pointer (some ⟨d,0,none⟩)] b (GP h d c g (aJ c a) (.tuple #[]) b):=by
 obtain⟨i,e⟩:=k;refine(vy e.aD e.fin e.c6).mono ?_;rintro l m ⟨rfl,j,f⟩;exact⟨rfl,⟨i,e.b6 (s:=qe c a.s) j f (vw e.fin) (vx e.c6)⟩,e.fr f⟩
def gd(k:bu h d c g a b)(e:Nat)(f:List UInt8):Calls prog 81 #[.pointer (some ⟨d,0,none⟩),.int .i64 e,.string ⟨f.toArray⟩] b λi l=>i=.returned (.bool (ay a e f))/\l=b:=by
 obtain⟨m,j⟩:=k;exact xI j.aD e f
def cC(n:bu h d c g a b)(f:Nat)(i:List UInt8):Calls prog 141 #[.pointer (some ⟨d,0,none⟩),.int .i64 f,.string ⟨i.toArray⟩] b (GP h d c g (ab c f i a) (.tuple #[]) b):=by
 obtain⟨k,e⟩:=n;refine(Em e.aD e.fin e.c6 f i).mono ?_;rintro o p ⟨rfl,m,j,l⟩;exact⟨rfl,⟨k,e.b6 m j l (Ek e.c6 e.c2)⟩,e.fr j⟩
def zs(m:bu h d c g a b):Calls prog 152 #[.pointer (some ⟨d,0,none⟩)] b λf n=>GP h d c g (cK c a).2 (.agg (du (cK c a).1)) b f n/\(cK c a).1.text.length<=2000:=by
 obtain⟨j,e⟩:=m;refine(SA e.aD e.fin e.c6).mono ?_;rintro f o ⟨rfl,l,i,k⟩;exact⟨⟨rfl,⟨j,e.b6 l i k (zr e.c6 e.c2).2⟩,e.fr i⟩,(zr e.c6 e.c2).1⟩
def ry{h:Type}{f:h->List Value}{k:Nat}(e:∀d,(f d).length=k):∀(c:List h) (a b:Nat),b<k->(c.flatMap f)[a*k+b]? = (c[a]?).bind λd=>(f d)[b]?:=by
 intro c;induction c with
 |nil=>intro a b _;simp
 |cons d c i=>
  intro a b g;rw[YD];cases a with
  |zero=>rw[Nat.zero_mul,Nat.zero_add,Ys (by rw[e];exact g)];rfl
  |succ a=>
   rw[Yw (by rw[e,Nat.succ_mul];omega),e,show (a+1)*k+b-k=a*k+b by rw[Nat.succ_mul];omega,i a b g];rfl
def kf{b:World}{j:Nat}{k:TypeId}{o g:Nat}{v:Value}{h:List Value}(d:b.ownsRow j k o v g h){i:Nat}{x:Value}(f:h[i]? = some x):∃a c,v=.slice (some ⟨a,0,none⟩) g c/\b.cell? ⟨a,i,none⟩=some x/\(∀i,b.frozen? ⟨a,i,none⟩=false)/\a<b.heap.size:=by
 have n:=(YB.1 f).1;rcases d.2 with⟨rfl,l⟩|⟨a,c,p,rfl,q,e,r,s,t,m⟩
 .rw[d.1,l]at n;omega
 .exact⟨a,c,rfl,cw e (by rw[d.1];exact m) f,cG e,aj e⟩
def xP{b:World}{i:Nat}{k:TypeId}{e d:Nat}{v:Value}{h:List Value}(g:b.ownsRow i k e v d h)(f:Nat->Value)(p:∀a,a<d->h[a*e]? = some (f a)):pn b v d e f:=by
 rcases g.2 with⟨rfl,m⟩|⟨l,j,q,rfl,r,n,s,t,u,o⟩
 .subst m;exact⟨none,0,rfl,λa c=>absurd c (by omega)⟩
 .refine⟨_,j,rfl,λa c=>?_⟩;exact⟨l,rfl,cw n (by rw[g.1];exact o) (p a c)⟩
def dR.ct{v:Value}{a:List Int}(d:dR v a b):pn b v a.length 1 λc=>.int .i64 (a.getD c 0):=
 xP d _ λc e=>by simp[e]
def ky.ct{v:Value}{a:List (List UInt8)}(d:ky v a b):pn b v a.length 1 λc=>.string ⟨(a.getD c []).toArray⟩:=
 xP d _ λc e=>by simp[e]
def ox{i:PV}(j:bg h d c g a i b)(r:g<=1000000000)(e:List UInt8):Calls prog 90 #[i.nv,.string ⟨e.toArray⟩] b λm q=>m=.returned (.int .i64 (bA a e))/\q=b:=by
 have n:=j.b0;unfold ac.sz at n;refine Ii (l:=a.F.map (·.s)) ?_ (by simp;omega) e;rw[YU];refine xP j.F _ λp o=>?_;have:=ry (f:=hG) (k:=4) (λ_=>rfl) a.F p 0 (by omega);rw[Nat.add_zero]at this;rw[this];simp[o]
def oC{u:PV}(j:bg h d c g a u b){i:Nat}(B:i<a.F.length):∃e o,u.nv=.slice (some ⟨e,0,none⟩) a.F.length o/\b.cell? ⟨e,i*4,none⟩=some (.string ⟨(a.F.getD i gW).s.toArray⟩)/\b.cell? ⟨e,i*4+1,none⟩=some (.int .i64 (a.F.getD i gW).bb)/\b.cell? ⟨e,i*4+2,none⟩=some (.int .i64 (a.F.getD i gW).n)/\b.cell? ⟨e,i*4+3,none⟩=some (.int .i64 (a.F.getD i gW).w)/\(∀i,b.frozen? ⟨e,i,none⟩=false)/\e<b.heap.size/\e≠d:=by
 have m:=λE C=>ry (f:=hG) (k:=4) (λ_=>rfl) a.F i E C;have l:a.F[i]? = some (a.F.getD i gW):=by simp[B]
 obtain⟨e,o,p,v,A,D⟩:=kf j.F (m 0 (by omega) |>.trans (by rw[l];rfl));obtain⟨I,F,q,w,_⟩:=kf j.F (m 1 (by omega) |>.trans (by rw[l];rfl));obtain⟨J,G,r,x,_⟩:=kf j.F (m 2 (by omega) |>.trans (by rw[l];rfl));obtain⟨K,H,t,y,_⟩:=kf j.F (m 3 (by omega) |>.trans (by rw[l];rfl));rw[p]at q r t;simp at q r t;obtain⟨rfl,rfl⟩:=q;obtain⟨rfl,rfl⟩:=r;obtain⟨rfl,rfl⟩:=t;exact⟨e,o,p,v,w,x,y,A,D,λz=>j.nd.n (by rw[p,z];rfl)⟩
def rx{c:List UInt8}(d:0<=bA a c):(bA a c).toNat<a.F.length:=by
 unfold bA lj at *
 split at d
 .rename_i b;rw[Y9 b];have:=List.idxOf_lt_length_iff.2 (List.contains_iff_mem.1 b);rw[YU]at this;simpa using this
 .omega
variable {X : Nat -> Prop} {a d : Nat} {e : List UInt8} {b : ac} {c : World}
def ea(a c b:Nat):(Value.slice (some ⟨a,0,none⟩) c b).ownBlock=some a:=rfl
def bg.l6{k:PV}{q:World}{m:df}{l t:Nat}(g:bg X a e d b k c)(M:c.grownBy q k.nv.ownBlock)(O:q.ownsRow 0 119 4 (.slice (some ⟨l,0,none⟩) (b.F.length+1) t) (b.F.length+1) (b.F.flatMap hG++hG m))(y:k.nv.ownBlock=some l\/l=c.heap.size)(S:l<q.heap.size) :
  bg X a e (d+1) { b with F:=b.F++[m] } { k with nv:=.slice (some ⟨l,0,none⟩) (b.F.length+1) t } (q.setCell ⟨a,8,none⟩ (.slice (some ⟨l,0,none⟩) (b.F.length+1) t)):=by
 have E:=eL M;have F:ai [a] q (q.setCell ⟨a,8,none⟩ (.slice (some ⟨l,0,none⟩) (b.F.length+1) t)):=(ah [a] q).a6 (p:=⟨a,8,none⟩) (by simp) _;have G:=g.lt;have B:l≠a:=by
  rcases y with i|i
  .intro j;exact g.nd.n (by rw[i,j])
  .have:=G a (Y8 (by simp[PV.b7]));omega
 have w:∀f,f∈k.b7 a\/f∈k.bz->k.nv.ownBlock≠some f->l≠f:=by
  intro f h N j;rcases y with i|i
  .exact N (by rw[i,j])
  .have:=G f h;omega
 have s:ai (k.nv.ownBlock.toList++[a]) c (q.setCell ⟨a,8,none⟩ (.slice (some ⟨l,0,none⟩) (b.F.length+1) t)):=E.cons F (λm o=>by simp_all) (λm o=>by simp_all);have v:∀f,k.nv.ownBlock≠some f->f≠a->f ∉ k.nv.ownBlock.toList++[a]:=λf u K=>by simp[u,K]
 have z:∀f∈k.bz,k.nv.ownBlock≠some f/\f≠a:=λf h=>⟨λj=>g.cq f h (he j),λj=>g.cq f h (by rw[j];simp[PV.b7])⟩;have L:q.heap[a]? = c.heap[a]?:=E.K a (aj g.aD) (by simpa using g.nd.n);refine⟨bv (i:=8) (L.trans g.aD) _,aY g.y s λf h=>v f (g.nd.rn f h) (λj=>g.nd.r (by rw[h,j])),?_,aY g.ak s λf h=>v f (λj=>g.nd.np f j h) (λj=>g.nd.p (by rw[h,j])),g.aa.bz s λf h=>v f (λj=>g.nd.ng f j h) (λj=>g.nd.g (by rw[h,j])),g.bc,?_,?_,?_,?_,λf p=>Yr (g.bh f p) s.a2,g.fin,g.c2,g.c6,?_,g.cn⟩
 .have:=aY O F (λf h=>by rw[ea]at h;simp at h;subst h;simpa using B);simpa using this
 .intro D R H P C;obtain⟨I,J⟩:=g.gb D R H P C;have x:=λf h=>z f (hx C h);exact⟨I.bz s λf h=>v f (x f (Y8 h)).1 (x f (Y8 h)).2,J.bz s λf h=>v f (x f (Ya h)).1 (x f (Ya h)).2⟩
 .refine⟨g.nd.r,?_,g.nd.p,g.nd.g,?_,g.nd.rp,g.nd.rg,?_,?_,g.nd.pg⟩
  .simp[ea,B]
  .intro f h j;exact w f (Y8 (hR h)) (g.nd.rn f h) (by simpa[ea]using j)
  .intro f h j;exact w f (Y8 (iv j)) (λu=>g.nd.np f u j) (by simpa[ea]using h)
  .intro f h j;exact w f (Y8 (jn j)) (λu=>g.nd.ng f u j) (by simpa[ea]using h)
 .intro f h o;have r:f∈k.bz:=h;unfold PV.b7 at o;simp only[ea,Yg,Yn,Option.mem_toList,Yu]at o;rcases o with i|i|i|i|i
  .exact(z f r).2 i
  .exact g.cq f r (hR i)
  .exact w f (Ya r) (z f r).1 i
  .exact g.cq f r (iv i)
  .exact g.cq f r (jn i)
 .intro f h p;rcases h with o|h
  .unfold PV.b7 at o;simp only[ea,Yg,Yn,Option.mem_toList,Yu]at o;rcases o with i|i|i|i|i
   .exact g.b1 f (Y8 (by rw[i];simp[PV.b7])) p
   .exact g.b1 f (Y8 (hR i)) p
   .rcases y with A|A
    .exact g.b1 f (Y8 (he (by rw[A,i]))) p
    .have:=g.bh f p;omega
   .exact g.b1 f (Y8 (iv i)) p
   .exact g.b1 f (Y8 (jn i)) p
  .exact g.b1 f (Ya h) p
 .have:=g.b0;unfold ac.sz at *
  simp only[Yq,List.length_singleton];omega
def bg.n7{k:PV}{s:World}{H:Nat->Prop}{B:be}{q r:Value}{o C:Nat}(h:bg H a e d b k c)(t:∀f,X f->H f)(a6:dR q B.b2 c)(g:dR r B.c0 c)(L:∀f,q.ownBlock=some f\/r.ownBlock=some f->H f/\¬X f)(a7:c.grownBy s k.rv.ownBlock)(a9:s.ownsRow 0 117 8 (.slice (some ⟨o,0,none⟩) (b.y.length+1) C) (b.y.length+1) (mv b.y k.ls++kP B (q,r)))(E:k.rv.ownBlock=some o\/o=c.heap.size)(b2:o<s.heap.size) :
  bg X a e (d+1) { b with y:=b.y++[B] } { k with rv:=.slice (some ⟨o,0,none⟩) (b.y.length+1) C,ls:=k.ls++[(q,r)] } (s.setCell ⟨a,7,none⟩ (.slice (some ⟨o,0,none⟩) (b.y.length+1) C)):=by
 have O:=eL a7;have P:ai [a] s (s.setCell ⟨a,7,none⟩ (.slice (some ⟨o,0,none⟩) (b.y.length+1) C)):=(ah [a] s).a6 (p:=⟨a,7,none⟩) (by simp) _;have S:=h.lt;have M:o≠a:=by
  rcases E with i|i
  .intro j;exact h.nd.r (by rw[i,j])
  .have:=S a (Y8 (by simp[PV.b7]));omega
 have D:∀f,f∈k.b7 a\/f∈k.bz->k.rv.ownBlock≠some f->o≠f:=by
  intro f g a8 j;rcases E with i|i
  .exact a8 (by rw[i,j])
  .have:=S f g;omega
 have w:ai (k.rv.ownBlock.toList++[a]) c (s.setCell ⟨a,7,none⟩ (.slice (some ⟨o,0,none⟩) (b.y.length+1) C)):=O.cons P (λb0 m=>by simp_all) (λb0 m=>by simp_all);have A:∀f,k.rv.ownBlock≠some f->f≠a->f ∉ k.rv.ownBlock.toList++[a]:=λf x a4=>by simp[x,a4]
 have J:∀f∈k.bz,k.rv.ownBlock≠some f/\f≠a:=λf g=>⟨λj=>h.cq f g (hR j),λj=>h.cq f g (by rw[j];simp[PV.b7])⟩;have y:∀f,q.ownBlock=some f\/r.ownBlock=some f->f ∉ k.b7 a/\o≠f:=by
  intro f g;have z:=(L f g).1;have a1:f ∉ k.b7 a:=λm=>h.b1 f (Y8 m) z;refine⟨a1,λj=>?_⟩;rcases E with i|i
  .exact a1 (hR (by rw[i,j]))
  .have:=h.bh f z;omega
 have R:∀f,q.ownBlock=some f\/r.ownBlock=some f->f ∉ k.rv.ownBlock.toList++[a]:=λf g=>A f (λj=>(y f g).1 (hR j)) (λj=>(y f g).1 (by rw[j];simp[PV.b7]));have a5:s.heap[a]? = c.heap[a]?:=O.K a (aj h.aD) (by simpa using h.nd.r);refine⟨bv (i:=7) (a5.trans h.aD) _,?_,aY h.F w λf g=>A f (λj=>h.nd.rn f j g) (λj=>h.nd.n (by rw[g,j])),aY h.ak w λf g=>A f (λj=>h.nd.rp f j g) (λj=>h.nd.p (by rw[g,j])),h.aa.bz w λf g=>A f (λj=>h.nd.rg f j g) (λj=>h.nd.g (by rw[g,j])),?_,?_,?_,?_,?_,λf p=>Yr (h.bh f (t f p)) w.a2,h.fin,h.c2,h.c6,?_,h.cn⟩
 .have:=aY a9 P (λf g=>by rw[ea]at g;simp at g;subst g;simpa using M);have i:mv (b.y++[B]) (k.ls++[(q,r)])=mv b.y k.ls++kP B (q,r):=by
   unfold mv;rw[List.zip_append h.bc.symm,YK];simp
  simp only[i,Yq,List.length_singleton];exact this
 .simp[h.bc]
 .intro G b1 a0 v u;simp only[List.getElem?_append]at v u;by_cases F:G<b.y.length
  .rw[Y9 F]at v;rw[Y9 (by rw[h.bc];exact F)]at u;obtain⟨a2,a3⟩:=h.gb G b1 a0 v u;have z:=λf g=>J f (hx u g);exact⟨a2.bz w λf g=>A f (z f (Y8 g)).1 (z f (Y8 g)).2,a3.bz w λf g=>A f (z f (Ya g)).1 (z f (Ya g)).2⟩
  .rw[Y2 F]at v;rw[Y2 (by rw[h.bc];exact F)]at u;have N:G-b.y.length=0:=by
    have:=(YB.1 v).1;simp at this;omega
   rw[N]at v;rw[h.bc,N]at u;simp at v u;subst v u;exact⟨a6.bz w λf g=>R f (Y8 g),g.bz w λf g=>R f (Ya g)⟩
 .refine⟨?_,h.nd.n,h.nd.p,h.nd.g,?_,?_,?_,h.nd.np,h.nd.ng,h.nd.pg⟩
  .simp[ea,M]
  .intro f g j;exact D f (Y8 (he j)) (λx=>h.nd.rn f x j) (by simpa[ea]using g)
  .intro f g j;exact D f (Y8 (iv j)) (λx=>h.nd.rp f x j) (by simpa[ea]using g)
  .intro f g j;exact D f (Y8 (jn j)) (λx=>h.nd.rg f x j) (by simpa[ea]using g)
 .intro f g m;have I:f∈k.bz\/(q.ownBlock=some f\/r.ownBlock=some f):=by
   unfold PV.bz at g ⊢;simp only[YK,Yn,YD,List.flatMap_nil,YH,Option.mem_toList]at g;exact g
  unfold PV.b7 at m;simp only[ea,Yg,Yn,Option.mem_toList,Yu]at m;rcases I with l|l
  .rcases m with i|i|i|i|i
   .exact(J f l).2 i
   .exact D f (Ya l) (J f l).1 i
   .exact h.cq f l (he i)
   .exact h.cq f l (iv i)
   .exact h.cq f l (jn i)
  .rcases m with i|i|i|i|i
   .exact(y f l).1 (by rw[i];simp[PV.b7])
   .exact(y f l).2 i
   .exact(y f l).1 (he i)
   .exact(y f l).1 (iv i)
   .exact(y f l).1 (jn i)
 .intro f g p;rcases g with m|g
  .unfold PV.b7 at m;simp only[ea,Yg,Yn,Option.mem_toList,Yu]at m;rcases m with i|i|i|i|i
   .exact h.b1 f (Y8 (by rw[i];simp[PV.b7])) (t f p)
   .rcases E with K|K
    .exact h.b1 f (Y8 (hR (by rw[K,i]))) (t f p)
    .have:=h.bh f (t f p);omega
   .exact h.b1 f (Y8 (he i)) (t f p)
   .exact h.b1 f (Y8 (iv i)) (t f p)
   .exact h.b1 f (Y8 (jn i)) (t f p)
  .have I:f∈k.bz\/(q.ownBlock=some f\/r.ownBlock=some f):=by
    unfold PV.bz at g ⊢;simp only[YK,Yn,YD,List.flatMap_nil,YH,Option.mem_toList]at g;exact g
   rcases I with g|g
   .exact h.b1 f (Ya g) (t f p)
   .exact(L f g).2 p
 .have:=h.b0;unfold ac.sz at *
  simp only[Yq,List.length_singleton];omega
def bg.n6{k:PV}{o:World}{E:Int}{l r:Nat}(g:bg X a e d b k c)(L:c.grownBy o k.gv.ownBlock)(N:o.ownsRow 0 3 1 (.slice (some ⟨l,0,none⟩) (b.aa.length+1) r) (b.aa.length+1) (b.aa.map (Value.int .i64)++[Value.int .i64 E]))(v:k.gv.ownBlock=some l\/l=c.heap.size)(S:l<o.heap.size) :
  bg X a e (d+1) { b with aa:=b.aa++[E] } { k with gv:=.slice (some ⟨l,0,none⟩) (b.aa.length+1) r } (o.setCell ⟨a,15,none⟩ (.slice (some ⟨l,0,none⟩) (b.aa.length+1) r)):=by
 have B:=eL L;have C:ai [a] o (o.setCell ⟨a,15,none⟩ (.slice (some ⟨l,0,none⟩) (b.aa.length+1) r)):=(ah [a] o).a6 (p:=⟨a,15,none⟩) (by simp) _;have D:=g.lt;have y:l≠a:=by
  rcases v with i|i
  .intro j;exact g.nd.g (by rw[i,j])
  .have:=D a (Y8 (by simp[PV.b7]));omega
 have t:∀f,f∈k.b7 a\/f∈k.bz->k.gv.ownBlock≠some f->l≠f:=by
  intro f h M j;rcases v with i|i
  .exact M (by rw[i,j])
  .have:=D f h;omega
 have q:ai (k.gv.ownBlock.toList++[a]) c (o.setCell ⟨a,15,none⟩ (.slice (some ⟨l,0,none⟩) (b.aa.length+1) r)):=B.cons C (λP m=>by simp_all) (λP m=>by simp_all);have s:∀f,k.gv.ownBlock≠some f->f≠a->f ∉ k.gv.ownBlock.toList++[a]:=λf I J=>by simp[I,J]
 have w:∀f∈k.bz,k.gv.ownBlock≠some f/\f≠a:=λf h=>⟨λj=>g.cq f h (jn j),λj=>g.cq f h (by rw[j];simp[PV.b7])⟩;have K:o.heap[a]? = c.heap[a]?:=B.K a (aj g.aD) (by simpa using g.nd.g);refine⟨bv (i:=15) (K.trans g.aD) _,aY g.y q λf h=>s f (g.nd.rg f h) (λj=>g.nd.r (by rw[h,j])),aY g.F q λf h=>s f (g.nd.ng f h) (λj=>g.nd.n (by rw[h,j])),aY g.ak q λf h=>s f (g.nd.pg f h) (λj=>g.nd.p (by rw[h,j])),?_,g.bc,?_,?_,?_,?_,λf n=>Yr (g.bh f n) q.a2,g.fin,g.c2,g.c6,?_,g.cn⟩
 .have:=aY N C (λf h=>by rw[ea]at h;simp at h;subst h;simpa using y);unfold dR;simpa using this
 .intro A R F O z;obtain⟨G,H⟩:=g.gb A R F O z;have u:=λf h=>w f (hx z h);exact⟨G.bz q λf h=>s f (u f (Y8 h)).1 (u f (Y8 h)).2,H.bz q λf h=>s f (u f (Ya h)).1 (u f (Ya h)).2⟩
 .refine⟨g.nd.r,g.nd.n,g.nd.p,?_,g.nd.rn,g.nd.rp,?_,g.nd.np,?_,?_⟩
  .simp[ea,y]
  .intro f h j;exact t f (Y8 (hR h)) (g.nd.rg f h) (by simpa[ea]using j)
  .intro f h j;exact t f (Y8 (he h)) (g.nd.ng f h) (by simpa[ea]using j)
  .intro f h j;exact t f (Y8 (iv h)) (g.nd.pg f h) (by simpa[ea]using j)
 .intro f h m;have p:f∈k.bz:=h;unfold PV.b7 at m;simp only[ea,Yg,Yn,Option.mem_toList,Yu]at m;rcases m with i|i|i|i|i
  .exact(w f p).2 i
  .exact g.cq f p (hR i)
  .exact g.cq f p (he i)
  .exact g.cq f p (iv i)
  .exact t f (Ya p) (w f p).1 i
 .intro f h n;rcases h with m|h
  .unfold PV.b7 at m;simp only[ea,Yg,Yn,Option.mem_toList,Yu]at m;rcases m with i|i|i|i|i
   .exact g.b1 f (Y8 (by rw[i];simp[PV.b7])) n
   .exact g.b1 f (Y8 (hR i)) n
   .exact g.b1 f (Y8 (he i)) n
   .exact g.b1 f (Y8 (iv i)) n
   .rcases v with x|x
    .exact g.b1 f (Y8 (jn (by rw[x,i]))) n
    .have:=g.bh f n;omega
  .exact g.b1 f (Ya h) n
 .have:=g.b0;unfold ac.sz at *
  simp only[Yq,List.length_singleton];omega
def bg.n5{k:PV}{q:World}{p:List bj}{l t:Nat}(g:bg X a e d b k c)(M:c.grownBy q k.pv.ownBlock)(O:q.ownsRow 0 288 5 (.slice (some ⟨l,0,none⟩) (b.ak.length+p.length) t) (b.ak.length+p.length) (b.ak.flatMap eh++p.flatMap eh))(y:k.pv.ownBlock=some l\/l=c.heap.size)(a0:l<q.heap.size) :
  bg X a e (d+p.length) { b with ak:=b.ak++p } { k with pv:=.slice (some ⟨l,0,none⟩) (b.ak.length+p.length) t } (q.setCell ⟨a,9,none⟩ (.slice (some ⟨l,0,none⟩) (b.ak.length+p.length) t)):=by
 have E:=eL M;have F:ai [a] q (q.setCell ⟨a,9,none⟩ (.slice (some ⟨l,0,none⟩) (b.ak.length+p.length) t)):=(ah [a] q).a6 (p:=⟨a,9,none⟩) (by simp) _;have G:=g.lt;have B:l≠a:=by
  rcases y with i|i
  .intro j;exact g.nd.p (by rw[i,j])
  .have:=G a (Y8 (by simp[PV.b7]));omega
 have v:∀f,f∈k.b7 a\/f∈k.bz->k.pv.ownBlock≠some f->l≠f:=by
  intro f h N j;rcases y with i|i
  .exact N (by rw[i,j])
  .have:=G f h;omega
 have s:ai (k.pv.ownBlock.toList++[a]) c (q.setCell ⟨a,9,none⟩ (.slice (some ⟨l,0,none⟩) (b.ak.length+p.length) t)):=E.cons F (λR m=>by simp_all) (λR m=>by simp_all);have u:∀f,k.pv.ownBlock≠some f->f≠a->f ∉ k.pv.ownBlock.toList++[a]:=λf x K=>by simp[x,K]
 have z:∀f∈k.bz,k.pv.ownBlock≠some f/\f≠a:=λf h=>⟨λj=>g.cq f h (iv j),λj=>g.cq f h (by rw[j];simp[PV.b7])⟩;have L:q.heap[a]? = c.heap[a]?:=E.K a (aj g.aD) (by simpa using g.nd.p);refine⟨bv (i:=9) (L.trans g.aD) _,aY g.y s λf h=>u f (g.nd.rp f h) (λj=>g.nd.r (by rw[h,j])),aY g.F s λf h=>u f (g.nd.np f h) (λj=>g.nd.n (by rw[h,j])),?_,g.aa.bz s λf h=>u f (λj=>g.nd.pg f j h) (λj=>g.nd.g (by rw[h,j])),g.bc,?_,?_,?_,?_,λf o=>Yr (g.bh f o) s.a2,g.fin,g.c2,g.c6,?_,g.cn⟩
 .have:=aY O F (λf h=>by rw[ea]at h;simp at h;subst h;simpa using B);simpa using this
 .intro D S H P C;obtain⟨I,J⟩:=g.gb D S H P C;have w:=λf h=>z f (hx C h);exact⟨I.bz s λf h=>u f (w f (Y8 h)).1 (w f (Y8 h)).2,J.bz s λf h=>u f (w f (Ya h)).1 (w f (Ya h)).2⟩
 .refine⟨g.nd.r,g.nd.n,?_,g.nd.g,g.nd.rn,?_,g.nd.rg,?_,g.nd.ng,?_⟩
  .simp[ea,B]
  .intro f h j;exact v f (Y8 (hR h)) (g.nd.rp f h) (by simpa[ea]using j)
  .intro f h j;exact v f (Y8 (he h)) (g.nd.np f h) (by simpa[ea]using j)
  .intro f h j;exact v f (Y8 (jn j)) (λx=>g.nd.pg f x j) (by simpa[ea]using h)
 .intro f h m;have r:f∈k.bz:=h;unfold PV.b7 at m;simp only[ea,Yg,Yn,Option.mem_toList,Yu]at m;rcases m with i|i|i|i|i
  .exact(z f r).2 i
  .exact g.cq f r (hR i)
  .exact g.cq f r (he i)
  .exact v f (Ya r) (z f r).1 i
  .exact g.cq f r (jn i)
 .intro f h o;rcases h with m|h
  .unfold PV.b7 at m;simp only[ea,Yg,Yn,Option.mem_toList,Yu]at m;rcases m with i|i|i|i|i
   .exact g.b1 f (Y8 (by rw[i];simp[PV.b7])) o
   .exact g.b1 f (Y8 (hR i)) o
   .exact g.b1 f (Y8 (he i)) o
   .rcases y with A|A
    .exact g.b1 f (Y8 (iv (by rw[A,i]))) o
    .have:=g.bh f o;omega
   .exact g.b1 f (Y8 (jn i)) o
  .exact g.b1 f (Ya h) o
 .have:=g.b0;unfold ac.sz at *
  simp only[Yq,List.length_singleton];omega
variable {X d : Nat -> Prop} {c e : Nat} {t : List UInt8} {a : ac} {w : World}
def Jf:(prog.info? 117).map (λa=>(a.zero,a.size,a.bytes))=some (some (.agg #[.int .i64 0,.int .i64 0,.int .i64 0,.slice none 0 0,.slice none 0 0,.int .i64 0,.string ⟨#[]⟩,.int .i64 0]),8,104):=by kernel_rfl
def bg.aA{b:PV}{g:World}(d:bg X c t e a b w)(f:ai [] w g):bg X c t e a b g:=d.hy f (by simp) (λ_=>Y8) (λh i=>Yr (d.bh h i) f.a2)
def bY{w:World}{c:Nat}{d:TypeId}{f b:Nat}{v:Value}{g:List Value}(e:w.ownsRow c d f v b g):∃ad a,v=.slice ad b a:=by
 rcases e.2 with⟨rfl,rfl⟩|⟨i,a,h,rfl,_⟩
 .exact⟨none,0,rfl⟩
 .exact⟨_,a,rfl⟩
def bg.js{b:PV}{g:World}{f:Option Nat}(d:bg X c t e a b w)(i:w.grownBy g f)(j:f≠some c):g.heap[c]? = some (lB t a.s (pB b a)):=(i.block c (aj d.aD) (λh=>j h.symm)).trans d.aD
def Ag{b:Nat}{a c d e f g h i:Value}{k:TypeId}{w:World}(j:w.heap[b]? = some (.cells #[a,c,d,e,f,g,h,i] k)) :
  w.cell? ⟨b,0,none⟩=some a/\w.cell? ⟨b,1,none⟩=some c/\w.cell? ⟨b,2,none⟩=some d/\w.cell? ⟨b,3,none⟩=some e/\w.cell? ⟨b,4,none⟩=some f/\w.cell? ⟨b,5,none⟩=some g/\w.cell? ⟨b,6,none⟩=some h/\w.cell? ⟨b,7,none⟩=some i/\(∀l,w.frozen? ⟨b,l,none⟩=false)/\b<w.heap.size:=by
 refine⟨?_,?_,?_,?_,?_,?_,?_,?_,?_,aj j⟩<;>simp[World.cell?,World.frozen?,j]
def bK(b:be)(a:ac):ac:={ a with y:=a.y++[b] }
def CQ(p:bu d c t e a w)(b6:∀b,X b->d b)(z:be)(g h:Value)(S:dR g z.b2 w)(D:dR h z.c0 w)(b7:∀b,g.ownBlock=some b\/h.ownBlock=some b->d b/\¬X b)(e7:e<=1000000000) :
  Calls prog 46 #[.pointer (some ⟨c,0,none⟩),.agg (kP z (g,h)).toArray] w λb3 f=>b3=.returned (.int .i64 a.y.length)/\bu X c t (e+1) (bK z a) f/\Fr d w f:=by
 obtain⟨b0,j⟩:=p;obtain⟨d3,e0,e1,e2,e3,e4,b1,e5,e6,d4,d5,d6,d7,d8,d9,f0,f1⟩:=j.am;obtain⟨d1,b8,c7,c8,c9⟩:=info_parts Jf;have P:=j.b0;unfold ac.sz at P;have b9:a.y.length+1<=maxLen:=by unfold maxLen;omega
 have c0:(a.y.length+1)*104<=140737488355328:=by omega
 have c1:(a.y.length:Int)+1-1=a.y.length:=by omega
 have d0:(Value.agg #[.int .i64 0,.int .i64 0,.int .i64 0,.slice none 0 0,.slice none 0 0,.int .i64 0,.string ⟨#[]⟩,.int .i64 0]).cells.size=8:=by decide
 obtain⟨u,x,y,M,N,o,A,m⟩:=z;have e8:g.oneCell'=true:=by obtain⟨_,_,rfl⟩:=bY S;rfl
 have e9:h.oneCell'=true:=by obtain⟨_,_,rfl⟩:=bY D;rfl
 have c5:∀a6∈kP ⟨u,x,y,M,N,o,A,m⟩ (g,h),a6.oneCell'=true:=by
  intro a6 a3;simp[kP]at a3;rcases a3 with rfl|rfl|rfl|rfl|rfl|rfl|rfl|rfl<;>first|rfl|assumption
 have d2:∀a4 a5,ai [] w (((w.alloc a4).alloc a5).drew):=λa4 a5=>(((ah [] w).G _).G _).a9;have i:=Z (Yp j (Yp S (Yp D (Yp b7 P))));have l:=Z d2;obtain⟨gT,n,s⟩:=bY j.y;rw[s]at b1;have c3:(Value.slice gT a.y.length n).ownBlock≠some c:=by rw[<-s];exact j.nd.r
 have c4:∀b,(Value.slice gT a.y.length n).ownBlock=some b->b<w.heap.size:=λb D=>(gK j.y (by rw[s];exact D)).2;have k:=Z (Yp s (Yp c3 c4));have c6:=Z (s▸j.y);have a8:=Z b6;show Calls _ _ #[_,.agg #[.int .i64 u,.int .i64 x,.int .i64 y,g,h,.int .i64 o,.string ⟨A.toArray⟩,.int .i64 m]] _ _;go_in;go_wp2_with fail;refine cS (λf=>f.cell? ⟨c,7,none⟩=some (.slice gT a.y.length n)/\f.cell? ⟨w.heap.size,0,none⟩=some (.int .i64 u)/\f.cell? ⟨w.heap.size,1,none⟩=some (.int .i64 x)/\f.cell? ⟨w.heap.size,2,none⟩=some (.int .i64 y)/\f.cell? ⟨w.heap.size,3,none⟩=some g/\f.cell? ⟨w.heap.size,4,none⟩=some h/\f.cell? ⟨w.heap.size,5,none⟩=some (.int .i64 o)/\f.cell? ⟨w.heap.size,6,none⟩=some (.string ⟨A.toArray⟩)/\f.cell? ⟨w.heap.size,7,none⟩=some (.int .i64 m)) (L:=12) (by kernel_rfl) rfl (by kernel_rfl) (by kernel_rfl) ?_ (λR=>?_)
 .go_keep
 refine bI [0,1,2,3,4,5,6] ?_;iterate 7 (refine bP (v:=?_) rfl (by kernel_rfl) (λ_ _ _ H=>H) (by kernel_rfl) (by assumption) ?_ ?_;rotate_left;focus (intro w I;(try dsimp only at I);go_simp;(try with_reducible rfl));(try simp only[aL,aM,List.set]))
 refine bJ ?_;refine ck 7 (by kernel_rfl) rfl λO q=>?_;go_simp;refine q.out _ _ ?_ (λR=>?_)
 .go_keep
 (try simp only[aL,aM,List.set]);refine ck 8 (by kernel_rfl) rfl λO q=>?_;(refine step_append_lies _ (by rfl) _ _ _ (by rfl) 0 117 d1 _ 8 104 underlying58 b8 c7 c8 c9 d0 (by omega) (.slice gT a.y.length n) a.y.length (mv a.y b0.ls) (by rfl) (aY c6.j (l.j _ _) (by simp)) ⟨w.heap.size+1,0,none⟩ 1 1 (kP ⟨u,x,y,M,N,o,A,m⟩ (g,h)) (by rfl) (by rfl) (World.news_of_block (cs:=(kP ⟨u,x,y,M,N,o,A,m⟩ (g,h)).toArray) (t:=117) (fr:=(0,0)) (aK (w:=w.alloc _) (by simp))) c5 (by omega) b9 c0 (by omega) (w.heap.size+2) (by simp) ?_;intro b5 b2 B a2 E a0 c2;have r:=(i.j.1.aA (l.j _ _)).js E k.j.2.1;have g2:B.cell? ⟨c,7,none⟩=some (.slice gT a.y.length n):=(by rw[<-k.j.1];exact aS r rfl);have g3:=cG r;have g4:=aj r;obtain⟨f2,f3,f4,f5,f6,f7,f8,f9,g0,g1⟩:=Ag (w:=B) (b:=w.heap.size) ((E.block _ (by simp;omega) (λG=>by have:=k.j.2.2 _ G.symm;omega)).trans ((Below.heap_alloc _ _ _ (by simp)).trans (aK rfl)));have C:=Z (Yp E (Yp a0 (Yp a2 r)));clear E a0 a2 r);refine q.out _ _ ?_ (λR=>?_)
 .go_keep
 (try simp only[aL,aM,List.set]);refine bI [9,10,11] ?_;iterate 3 (refine bP (v:=?_) rfl (by kernel_rfl) (λ_ _ _ H=>H) (by kernel_rfl) (by assumption) ?_ ?_;rotate_left;focus (intro w I;(try dsimp only at I);go_simp;(try with_reducible rfl));(try simp only[aL,aM,List.set]))
 refine bJ ?_;refine cQ (by kernel_rfl) rfl λO q=>?_;go_simp;refine q.out _ _ ?_;(try simp only[aL,aM,List.set]);have a1:=C.j.1;rw[<-k.j.1]at a1;have a9:=Z ((i.j.1.aA (l.j _ _)).n7 (X:=X) a8.j (i.j.2.1.bz (l.j _ _) (by simp)) (i.j.2.2.1.bz (l.j _ _) (by simp)) i.j.2.2.2.1 a1 C.j.2.2.1 (by rw[k.j.1];exact C.j.2.1.imp id (λG=>by rw[G];simp)) c2);have a7:U (Fr d w (B.setCell ⟨c,7,none⟩ (.slice (some ⟨b5,0,none⟩) (a.y.length+1) b2))):=by
  have b4:Fr d w B:=((iN d w).c7 (l.j _ _) (by simp)).c7 (eL C.j.1) (λK F J=>absurd J (i.j.1.b1 K (Y8 (hR (by rw[k.j.1];simpa using F)))));exact b4.c7 ((ah [c] B).a6 (p:=⟨c,7,none⟩) (by simp) _) (λK F J=>absurd J (i.j.1.b1 K (Y8 (by simp only[Yc]at F;rw[F];simp[PV.b7]))))
 go_wp2;go_ret;refine⟨?_,⟨_,a9.j⟩,a7.j⟩;simp[c1]
variable {d l : Nat -> Prop} {c g : Nat} {h : List UInt8} {a : ac} {b : World}
def ta{i:Type}{f:i->List Value}{k:Nat}(h:∀c,(f c).length=k):∀(d:List i) (a b:Nat) (c e:i) (v:Value),b<k->d[a]? = some c->f e=(f c).set b v->(d.flatMap f).set (a*k+b) v=(d.set a e).flatMap f:=by
 intro d;induction d with
 |nil=>intro a b c e v _ g;simp at g
 |cons n d m=>
  intro a b c e v l g j;cases a with
  |zero=>
   simp at g;subst g;rw[Nat.zero_mul,Nat.zero_add,YD,List.set_cons_zero,YD,List.set_append_left _ _ (by rw[h];exact l),j]
  |succ a=>
   rw[YD,List.set_cons_succ,YD,List.set_append_right _ _ (by rw[h,Nat.succ_mul];omega),h,show (a+1)*k+b-k=a*k+b by rw[Nat.succ_mul];omega,m a b c e v l (by simpa using g) j]
def tH{f:Nat}{g:TypeId}{k c a d:Nat}{e:List Value}(h:b.ownsRow f g k (.slice (some ⟨a,0,none⟩) c d) c e){i:Nat}(x:i<e.length)(v:Value):(b.setCell ⟨a,i,none⟩ v).ownsRow f g k (.slice (some ⟨a,0,none⟩) c d) c (e.set i v):=by
 refine⟨by rw[YF];exact h.1,?_⟩;rcases h.2 with⟨l,w⟩|⟨u,s,t,j,m,n,o,p,q,r⟩
 .simp at l
 .simp at j;obtain⟨rfl,rfl⟩:=j;refine Ya ⟨a,d,_,rfl,m,bv n v,o,p,?_,?_⟩
  .simpa using q
  .rw[<-r];simp[List.take_set]
def gw(a:ac)(b:Nat)(c n:Int):ac:={ a with F:=a.F.set b { a.F.getD b gW with bb:=c,n:=n } }
def bg.n0{o:PV}(j:bg d c h g a o b){i m D:Nat}(w:i<a.F.length)(y:o.nv=.slice (some ⟨m,0,none⟩) a.F.length D)(q n:Int) :
  bg d c h g (gw a i q n) o ((b.setCell ⟨m,i*4+1,none⟩ (.int .i64 q)).setCell ⟨m,i*4+2,none⟩ (.int .i64 n)):=by
 have F:o.nv.ownBlock=some m:=by rw[y];rfl
 have p:ai [m] b ((b.setCell ⟨m,i*4+1,none⟩ (.int .i64 q)).setCell ⟨m,i*4+2,none⟩ (.int .i64 n)):=((ah [m] b).a6 (p:=⟨m,i*4+1,none⟩) (by simp) _).a6 (p:=⟨m,i*4+2,none⟩) (by simp) _;have r:∀e,o.nv.ownBlock≠some e->e ∉ [m]:=λe l x=>by
  simp only[Yc]at x;exact l (by rw[F,x])
 have z:∀e∈o.bz,o.nv.ownBlock≠some e:=λe l s=>j.cq e l (he s);have K:(a.F.flatMap hG).length=a.F.length*4:=j.F.1;refine⟨(p.K c (aj j.aD) (r c j.nd.n)).trans j.aD,aY j.y p λe l=>r e (j.nd.rn e l),?_,aY j.ak p λe l=>r e (λs=>j.nd.np e s l),j.aa.bz p λe l=>r e (λs=>j.nd.ng e s l),j.bc,?_,j.nd,j.cq,j.b1,λe H=>Yr (j.bh e H) p.a2,j.fin,j.c2,j.c6,?_,j.cn⟩
 .have E:a.F[i]? = some (a.F.getD i gW):=by simp[w]
  have A:=j.F;rw[y]at A ⊢;have t:=tH (tH A (i:=i*4+1) (by omega) (.int .i64 q)) (i:=i*4+2) (by rw[YF];omega) (.int .i64 n);rw[ta (f:=hG) (k:=4) (λ_=>rfl) a.F i 1 (a.F.getD i gW) { a.F.getD i gW with bb:=q } _ (by omega) E rfl]at t;rw[ta (f:=hG) (k:=4) (λ_=>rfl) _ i 2 { a.F.getD i gW with bb:=q } { a.F.getD i gW with bb:=q,n:=n } _ (by omega) (by simp[w]) rfl]at t;rw[List.set_set]at t;unfold gw;simp only[YF];exact t
 .intro I J v G u;obtain⟨B,C⟩:=j.gb I J v G u;exact⟨B.bz p λe l=>r e (z e (hx u (Y8 l))),C.bz p λe l=>r e (z e (hx u (Ya l)))⟩
 .have:=j.b0;unfold ac.sz gw at *
  simp only[YF];exact this
def bg.nW{o:PV}(e:bg d c h g a o b):bg d c h (g+1) { a with a1:=a.a1+1 } o (b.setCell ⟨c,13,none⟩ (.int .i64 (a.a1+1))):=by
 have p:=bv (i:=13) e.aD (.int .i64 (a.a1+1));have C:=e.b6 (s:=a.s) (w':=b) e.aD (ah _ _) e.fin e.c2;have i:ai [c] b (b.setCell ⟨c,13,none⟩ (.int .i64 (a.a1+1))):=(ah [c] b).a6 (p:=⟨c,13,none⟩) (by simp) _;have m:∀{v:Value},v.ownBlock≠some c->∀f,v.ownBlock=some f->f ∉ [c]:=λz f l k=>by
  simp only[Yc]at k;exact z (by rw[l,k])
 have t:∀j,j∈o.bz->j ∉ [c]:=λj p k=>by
  simp only[Yc]at k;exact e.cq j p (by rw[k];simp[PV.b7])
 refine⟨p,aY e.y i (m e.nd.r),aY e.F i (m e.nd.n),aY e.ak i (m e.nd.p),e.aa.bz i (m e.nd.g),e.bc,?_,e.nd,e.cq,e.b1,λj A=>Yr (e.bh j A) i.a2,e.fin,e.c2,e.c6,?_,?_⟩
 .intro r B u y q;obtain⟨w,x⟩:=e.gb r B u y q;exact⟨w.bz i λf l=>t f (hx q (Y8 l)),x.bz i λf l=>t f (hx q (Ya l))⟩
 .have:=e.b0;have:=e.cn;unfold ac.sz at *
  simp only;omega
 .have:=e.cn;simp only;omega
def dB(b:List UInt8)(d:Int)(a:ac):ac:=let c:=if 0<=bA a b then gw a (bA a b).toNat 0 d else a
 { c with a1:=c.a1+1 }
def cY(b:List UInt8)(c:Int)(a:ac):ac:=if 0<=bA a b then gw a (bA a b).toNat 1 c else a
def AT{f:PV}(m:bg d c h g a f b){e q l i j:Nat}(n:f.nv=.slice (some ⟨e,0,none⟩) q l)(r s:Value):Fr d b ((b.setCell ⟨e,i,none⟩ r).setCell ⟨e,j,none⟩ s):=
 sq (((ah [e] b).a6 (p:=⟨e,i,none⟩) (by simp) _).a6 (p:=⟨e,j,none⟩) (by simp) _) λo k _=>by
  simp only[Yc]at k;exact m.b1 o (Y8 (he (by rw[n,k];rfl)))
def oO(w:bu d c h g a b)(e:List UInt8)(f:Int)(v:g<=1000000000):Calls prog 150 #[.pointer (some ⟨c,0,none⟩),.string ⟨e.toArray⟩,.int .i64 f] b (GP d c h g (cY e f a) (.tuple #[]) b):=by
 obtain⟨q,j⟩:=w;obtain⟨y,F,G,H,I,J,K,t,L,z,A,B,C,D,E,P,a1⟩:=j.am;have o:=Z (ox j v e);by_cases l:0<=bA a e
 .have r:=rx l;obtain⟨N,M,p,-,a2,a3,-,a4,a5,R⟩:=oC j r;have n:U (cY e f a=gw a (bA a e).toNat 1 f):=Y9 l;have k:=Z (Yp (j.n0 r p 1 f) (AT (i:=(bA a e).toNat*4+1) (j:=(bA a e).toNat*4+2) j p (.int .i64 1) (.int .i64 f)));rw[p]at t o;generalize S:bA a e=m at *
  obtain⟨m,rfl⟩:∃s:Nat,m=s:=⟨m.toNat,by omega⟩;simp only[Int.toNat_natCast]at *
  have a0:(m:Int)<(a.F.length:Int):=by omega
  go_in;go_wp2_with fail;refine o.j.mono ?_;rintro u x ⟨rfl,rfl⟩;go_wp2;go_end0;rw[n.j];exact⟨rfl,⟨q,k.j.1⟩,k.j.2⟩
 .have n:U (cY e f a=a):=Y2 l;have O:¬(0<=bA a e):=l;have k:=Z j;go_in;go_wp2_with fail;refine o.j.mono ?_;rintro u x ⟨rfl,rfl⟩;go_wp2;go_end0;rw[n.j];exact⟨rfl,⟨q,k.j⟩,iN _ _⟩
def uO{e:PV}(f:bg d c h g a e b){i:Nat}(j:Value):Fr d b (b.setCell ⟨c,i,none⟩ j):=f.fr ((ah [c] b).a6 (p:=⟨c,i,none⟩) (by simp) _)
def Bs(y:bu d c h g a b)(e:List UInt8)(j:Int)(x:g<=1000000000):Calls prog 145 #[.pointer (some ⟨c,0,none⟩),.string ⟨e.toArray⟩,.int .i64 j] b (GP d c h (g+1) (dB e j a) (.tuple #[]) b):=by
 obtain⟨q,f⟩:=y;obtain⟨A,H,I,J,K,L,M,u,N,B,C,D,E,F,G,a3,a7⟩:=f.am;have o:=Z (ox f x e);have w:=f.b0;have P:=f.cn.1;unfold ac.sz at w;have R:IntKind.i64.wrap (a.a1+1)=a.a1+1:=by rw[IntKind.wrap_i64];omega
 have a1:-9223372036854775808<=a.a1+1:=by omega
 have a2:a.a1+1<=9223372036854775807:=by omega
 by_cases l:0<=bA a e
 .have r:=rx l;obtain⟨S,O,p,-,a8,a9,-,b0,b1,a4⟩:=oC f r;have n:U (dB e j a = { gw a (bA a e).toNat 0 j with a1:=a.a1+1 }):=by
   show _=_;unfold dB;rw[Y9 l];rfl
  have t:=f.n0 r p 0 j;have k:=Z (Yp t.nW ((AT (i:=(bA a e).toNat*4+1) (j:=(bA a e).toNat*4+2) f p (.int .i64 0) (.int .i64 j)).u (uO t (i:=13) (.int .i64 (a.a1+1)))));rw[p]at u o;generalize a5:bA a e=m at *
  obtain⟨m,rfl⟩:∃s:Nat,m=s:=⟨m.toNat,by omega⟩;simp only[Int.toNat_natCast]at *
  have a6:(m:Int)<(a.F.length:Int):=by omega
  go_in;go_wp2_with fail;refine o.j.mono ?_;rintro v z ⟨rfl,rfl⟩;go_wp2;go_end0;rw[n.j];exact⟨rfl,⟨q,k.j.1⟩,k.j.2⟩
 .have n:U (dB e j a = { a with a1:=a.a1+1 }):=by
   show _=_;unfold dB;rw[Y2 l]
  have a0:¬(0<=bA a e):=l;have k:=Z (Yp f.nW (uO f (i:=13) (.int .i64 (a.a1+1))));go_in;go_wp2_with fail;refine o.j.mono ?_;rintro v z ⟨rfl,rfl⟩;go_wp2;go_end0;rw[n.j];exact⟨rfl,⟨q,k.j.1⟩,k.j.2⟩
def iW(b nt:Int)(a:ac):ac:=if a.s.e=0/\nt<=b then bp 5 a.s.x.w a else a
def ar(b nt:Int)(a:ac):ac:=iW b nt (if a.s.e=0/\a.s.x.H=5 then dd a else a)
def kI(A:bu d c h g a b)(f nt:Int):Calls prog 85 #[.pointer (some ⟨c,0,none⟩),.int .i64 f,.int .i64 nt] b (GP d c h g (ar f nt a) (.tuple #[]) b):=by
 by_cases v:a.s.e=0/\a.s.x.H=5
 .have m:U (ar f nt a=iW f nt (dd a)):=by show _=_;unfold ar;rw[Y9 v]
  have I:=Z (oe A);obtain⟨l,q⟩:=A;obtain⟨J,-,-,-,-,-,-,-,-,-,D,-,-,-,-,G,H⟩:=q.am;have F:(a.s.e==0)=true:=by rw[v.1];rfl
  have L:((a.s.x.H:Int)==5)=true:=by rw[v.2];rfl
  go_in;go_wp2_with fail;refine I.j.mono ?_;rintro E P ⟨rfl,⟨l,q⟩,N⟩;obtain⟨-,-,K,-,-,-,-,-,-,-,D,-,-,-,-,G,H⟩:=q.am;have o:=Z q;have n:=Z N;generalize dd a=p at *
  by_cases j:p.s.e=0
  .have y:(p.s.e==0)=true:=by rw[j];rfl
   by_cases r:nt<=f
   .have i:U (ar f nt a=bp 5 p.s.x.w p):=by
     show _=_;rw[m.j];unfold iW;rw[Y9 ⟨j,r⟩]
    have w:=Z (iV ⟨l,o.j⟩ 5 p.s.x.w);go_wp2_with fail;refine w.j.mono ?_;rintro E O ⟨rfl,B,z⟩;have t:=Z (Yp B z);go_wp2;go_end0;rw[i.j];exact⟨rfl,t.j.1,n.j.u t.j.2⟩
   .have M:decide (nt<=f)=false:=by simpa using r
    have i:U (ar f nt a=p):=by
     show _=_;rw[m.j];unfold iW;rw[Y2 (λk=>r k.2)]
    go_wp2;go_end0;rw[i.j];exact⟨rfl,⟨l,o.j⟩,n.j⟩
  .have y:(p.s.e==0)=false:=by rw[Yi];exact j
   have i:U (ar f nt a=p):=by
    show _=_;rw[m.j];unfold iW;rw[Y2 (λk=>j k.1)]
   first
    |exact absurd C.j j
    |(clear j;go_wp2;go_end0;rw[i.j];exact⟨rfl, ⟨l, o.j⟩, n.j⟩)
 .have m:U (ar f nt a=iW f nt a):=by show _=_;unfold ar;rw[Y2 v]
  obtain⟨l,q⟩:=A;obtain⟨J,-,K,-,-,-,-,-,-,-,D,-,-,-,-,G,H⟩:=q.am;have o:=Z q;have n:=Z (iN d b);by_cases u:a.s.e=0
  .have F:(a.s.e==0)=true:=by rw[u];rfl
   have L:((a.s.x.H:Int)==5)=false:=by rw[Yi];intro k;exact v ⟨u,by omega⟩
   have C:=Z u;go_in;by_cases j:a.s.e=0
   .have y:(a.s.e==0)=true:=by rw[j];rfl
    by_cases r:nt<=f
    .have i:U (ar f nt a=bp 5 a.s.x.w a):=by
      show _=_;rw[m.j];unfold iW;rw[Y9 ⟨j,r⟩]
     have w:=Z (iV ⟨l,o.j⟩ 5 a.s.x.w);go_wp2_with fail;refine w.j.mono ?_;rintro E O ⟨rfl,B,z⟩;have t:=Z (Yp B z);go_wp2;go_end0;rw[i.j];exact⟨rfl,t.j.1,n.j.u t.j.2⟩
    .have M:decide (nt<=f)=false:=by simpa using r
     have i:U (ar f nt a=a):=by
      show _=_;rw[m.j];unfold iW;rw[Y2 (λk=>r k.2)]
     go_wp2;go_end0;rw[i.j];exact⟨rfl,⟨l,o.j⟩,n.j⟩
   .have y:(a.s.e==0)=false:=by rw[Yi];exact j
    have i:U (ar f nt a=a):=by
     show _=_;rw[m.j];unfold iW;rw[Y2 (λk=>j k.1)]
    first
     |exact absurd C.j j
     |(clear j;go_wp2;go_end0;rw[i.j];exact⟨rfl, ⟨l, o.j⟩, n.j⟩)
  .have F:(a.s.e==0)=false:=by rw[Yi];exact u
   have i:U (ar f nt a=a):=by
    show _=_;rw[m.j];unfold iW;rw[Y2 (λk=>u k.1)]
   go_in;go_wp2;go_end0;rw[i.j];exact⟨rfl,⟨l,o.j⟩,n.j⟩
section
variable {d f g h i j:Value}{x:ef}
variable {c l : Nat -> Prop} {b k : Nat} {t : List UInt8} {a : ac} {w : World}
abbrev rV(w:World)(a:Nat)(d f g h i j:Value):World:=(((((w.setCell ⟨a,0,none⟩ d).setCell ⟨a,1,none⟩ f).setCell ⟨a,2,none⟩ g).setCell ⟨a,3,none⟩ h).setCell ⟨a,4,none⟩ i).setCell ⟨a,5,none⟩ j
def xJ(w:World)(a:Nat)(d f g h i j:Value):ai [a] w (rV w a d f g h i j):=
 ((((((ah [a] w).a6 (p:=⟨a,0,none⟩) (by simp) d).a6 (p:=⟨a,1,none⟩) (by simp) f).a6 (p:=⟨a,2,none⟩) (by simp) g).a6 (p:=⟨a,3,none⟩) (by simp) h).a6 (p:=⟨a,4,none⟩) (by simp) i).a6 (p:=⟨a,5,none⟩) (by simp) j
def bu.jg{e:Nat}(l:bu c b t k a w)(m:c e):bu c b t k a (rV w e d f g h i j):=l.O (xJ w e d f g h i j) (by simpa using m)
def Fr.jg{b:World}{a:Nat}(e:Fr c b w)(l:b.heap.size<=a):Fr c b (rV w a d f g h i j):=e.c7 (xJ w a d f g h i j) (λm k _=>by simp at k;omega)
abbrev oZ:Obj:=.cells #[.int .i64 0,.string ⟨#[]⟩,.int .i64 0,.int .i64 0,.int .i64 0,.int .i64 0] 112
abbrev oW(x:ef):Obj:=.cells (du x) 112
def Bf:(prog.info? 119).map (λa=>(a.zero,a.size,a.bytes))=some (some (.agg #[.string ⟨#[]⟩,.int .i64 0,.int .i64 0,.int .i64 0]),4,40):=by kernel_rfl
def aH(t:List UInt8)(b:Int)(a:ac):ef×ac:=
 if(cK t a).2.s.e≠0 then cK t a
 else if 0<=bA (cK t a).2 (cK t a).1.text then ((cK t a).1,bp 6 (cK t a).1.w (cK t a).2)
 else ((cK t a).1,{ (cK t a).2 with F:=(cK t a).2.F++[⟨(cK t a).1.text,b,-1,(cK t a).1.w⟩] })
def GW(c:Nat->Prop)(b:Nat)(t:List UInt8)(k:Nat)(a:ef×ac)(w:World)(e:Ending)(d:World):Prop:=e=.returned (.agg (du a.1))/\bu c b t k a.2 d/\Fr c w d/\a.1.text.length<=2000
def yP{a:Nat}(x:ef)(b:w.heap[a]? = some oZ):(rV w a (.int .i64 x.H) (.string ⟨x.text.toArray⟩) (.int .i64 x.w) (.int .i64 x.fin) (.int .i64 x.n) (.int .i64 x.e)).heap[a]? = some (oW x):=tR b
def JX{a:Nat}(h:w.heap[a]? = some (oW x)):(loadVar 112 ⟨a,0,none⟩).run prog w=.ok (.agg (du x)) w:=by
 obtain⟨b,c,d,e,f,g,i,j⟩:=dY h;simp[go_sem,b,c,d,e,f,g]
def nC{c:Func}{Q:Ending->World->Prop}{a:Act}{R b:Nat}(i:c.results=#[.cell b 112])(e:a.tmps.getD b undef=.pointer (some ⟨R,0,none⟩))(g:a.defers=[])(d:w.heap[R]? = some (oW x))(h:Q (.returned (.agg (du x))) w):bodyPost prog c Q .ret a w:=by
 refine bodyPost_ret (v:=.agg (du x)) ?_ g h;have:=JX d;unfold results;rw[i];obtain⟨j,k,l,m,n,o,p,q⟩:=dY d;have f:a.tmps[b]?.getD undef=.pointer (some ⟨R,0,none⟩):=by simpa using e
 simp[f,go_sem,j,k,l,m,n,o]
def rm(p:bu c b t k a w)(g:Int)(c8:k<=1000000000):Calls prog 142 #[.pointer (some ⟨b,0,none⟩),.int .i64 g] w (GW c b t (k+1) (aH t g a) w):=by
 have c4:=Z (zs (p.G oZ));have h6:b<w.heap.size:=by obtain⟨c3,E⟩:=p;exact aj E.aD
 have f7:=Z p;go_in;go_wp2_with fail;refine c4.j.mono ?_;rintro b2 e ⟨⟨rfl,b8,a6⟩,e2⟩;have a5:w.heap.size<e.heap.size:=Yr (by simp) a6.a2;have b0:e.heap[w.heap.size]? = some oZ:=((a6.K _ (by simp) kB).trans (aK rfl));obtain⟨j5,j6,j7,j8,j9,k0,k2,k4⟩:=dY b0;have a0:=Z b0;generalize G:cK t a=e8 at *
 obtain⟨x,d⟩:=e8;simp only at *
 have a3:=Z ((((iN c w).G oZ).u a6.bo));have a9:=Z b8;obtain⟨c3,E⟩:=b8;obtain⟨f8,g5,g6,g7,g8,g9,h0,c5,h1,f9,g0,g1,g2,g3,g4,h5,h7⟩:=E.am;obtain⟨gT,r,i⟩:=bY E.F;rw[i]at c5;have f:=Z E;have a8:=Z i;have a2:=Z G;have a1:=Z e2;by_cases m:d.s.e=0
 .have M:(d.s.e != 0)=false:=by rw[m];rfl
  have J:=Z (λH=>ox ((f.j.aA ((ah [] e).G H)).aA (ah [] _).a9) c8 x.text);rw[a8.j]at J;go_wp2_with fail;refine cS (λy=>y.cell? ⟨b,8,none⟩=some (.slice gT d.F.length r)/\y.cell? ⟨e.heap.size,1,none⟩=some (.string ⟨x.text.toArray⟩)) (L:=8) (by kernel_rfl) rfl (by kernel_rfl) (by kernel_rfl) ?_ (λK=>?_)
  .go_keep
  refine bI [0,1,2,3,4,5,6] ?_;iterate 7 (refine bP (v:=?_) rfl (by kernel_rfl) (λ_ _ _ C=>C) (by kernel_rfl) (by assumption) ?_ ?_;rotate_left;focus (intro w D;(try dsimp only at D);go_simp;(try with_reducible rfl));(try simp only[aL,aM,List.set]))
  refine bJ ?_;refine ck 7 (by kernel_rfl) rfl λI h=>?_;(go_simp;refine(J.j _).mono ?_;rintro b2 i6 ⟨rfl,rfl⟩);refine h.out _ _ ?_ (λK=>?_)
  .go_keep
  (try simp only[aL,aM,List.set]);refine cQ (by kernel_rfl) rfl λI h=>?_;go_simp;refine h.out _ _ ?_;(try simp only[aL,aM,List.set]);have e5:=Z (λH=>(a9.j.G H).a9);by_cases a4:0<=bA d x.text
  .have z:U (aH t g a=(x,bp 6 x.w d)):=by
    show _=_;unfold aH;rw[a2.j,Y2 (by simpa using m),Y9 a4]
   have J:=Z (λH=>iV (e5.j H) 6 x.w);go_wp2_with fail;refine(J.j _).mono ?_;rintro b2 c0 ⟨rfl,e6,a7⟩;have u:c0.heap[w.heap.size]? = some oZ:=(a7.K _ (by simp;omega) (Y8 kB)).trans ((Below.heap_alloc _ _ _ a5).trans a0.j);have S:c0.heap[e.heap.size]? = some (oW x):=(a7.K _ (by simp) kB).trans (aK rfl);obtain⟨e9,f0,f1,f2,f3,f4,f5,f6⟩:=dY u;obtain⟨h8,h9,i0,i1,i2,i3,i4,i5⟩:=dY S;have Q:=Z (Yp e6 (Yp ((a3.j.G _).a9.u a7.bo.bo) u));go_wp2;refine nC (R:=w.heap.size) (x:=x) (by rfl) (by rfl) rfl (yP x Q.j.2.2) ?_;rw[z.j];exact⟨rfl,(Q.j.1.jg (Y8 kB)).bo.bo.a4 (by omega),Q.j.2.1.jg (Y4 _),a1.j⟩
  .have z:U (aH t g a=(x,{ d with F:=d.F++[⟨x.text,g,-1,x.w⟩] })):=by
    show _=_;unfold aH;rw[a2.j,Y2 (by simpa using m),Y2 a4]
   have h4:¬(0<=bA d x.text):=a4;have i:=a8.j;obtain⟨e1,c9,d7,d8,d9⟩:=info_parts Bf;have c7:=f.j.b0;unfold ac.sz at c7;have d0:d.F.length+1<=maxLen:=by unfold maxLen;omega
   have d1:(d.F.length+1)*40<=140737488355328:=by omega
   have e0:(Value.agg #[.string ⟨#[]⟩,.int .i64 0,.int .i64 0,.int .i64 0]).cells.size=4:=by decide
   have d5:∀b9∈hG ⟨x.text,g,-1,x.w⟩,b9.oneCell'=true:=by
    intro b9 b7;simp[hG]at b7;rcases b7 with rfl|rfl|rfl|rfl<;>rfl
   have d3:(Value.slice gT d.F.length r).ownBlock≠some b:=by rw[<-i];exact f.j.nd.n
   have d4:∀q,(Value.slice gT d.F.length r).ownBlock=some q->q<e.heap.size/\q≠w.heap.size:=λq M=>⟨(gK f.j.F (by rw[i];exact M)).2,λm=>f.j.b1 q (Y8 (he (by rw[i];exact M))) (by rw[m];exact kB)⟩;have d6:=Z (i▸f.j.F);have l:=Z (Yp i (Yp d3 d4));have A:=Z (λe3 e4=>((((ah [] e).G e3).a9.G e4).a9));go_wp2_with fail;refine cS (λy=>y.cell? ⟨b,8,none⟩=some (.slice gT d.F.length r)/\y.cell? ⟨e.heap.size,1,none⟩=some (.string ⟨x.text.toArray⟩)/\y.cell? ⟨e.heap.size,2,none⟩=some (.int .i64 x.w)) (L:=17) (by kernel_rfl) rfl (by kernel_rfl) (by kernel_rfl) ?_ (λK=>?_)
   .go_keep
   refine bI [0,1,2,3,4,5,6,7,8,9,10,11] ?_;iterate 12 (refine bP (v:=?_) rfl (by kernel_rfl) (λ_ _ _ C=>C) (by kernel_rfl) (by assumption) ?_ ?_;rotate_left;focus (intro w D;(try dsimp only at D);go_simp;(try with_reducible rfl));(try simp only[aL,aM,List.set]))
   refine bJ ?_;refine ck 12 (by kernel_rfl) rfl λI h=>?_;go_simp;refine h.out _ _ ?_ (λK=>?_)
   .go_keep
   (try simp only[aL,aM,List.set]);refine ck 13 (by kernel_rfl) rfl λI h=>?_;(refine step_append_lies _ (by rfl) _ _ _ (by rfl) 0 119 e1 _ 4 40 underlying59 c9 d7 d8 d9 e0 (by omega) (.slice gT d.F.length r) d.F.length (d.F.flatMap hG) (by rfl) (aY d6.j (A.j _ _) (by simp)) ⟨e.heap.size+1,0,none⟩ 1 1 (hG ⟨x.text,g,-1,x.w⟩) (by rfl) (by rfl) (World.news_of_block (cs:=(hG ⟨x.text,g,-1,x.w⟩).toArray) (t:=119) (fr:=(0,0)) (aK (w:=(e.alloc _).drew) (by simp))) d5 (by omega) d0 d1 (by omega) (e.heap.size+2) (by simp) ?_;intro b3 b1 j b6 F b4 d2;have O:=(f.j.aA (A.j _ _)).js F l.j.2.1;have k1:j.cell? ⟨b,8,none⟩=some (.slice gT d.F.length r):=(by rw[<-l.j.1];exact aS O rfl);have k3:=cG O;have k5:=aj O;have u:j.heap[w.heap.size]? = some oZ:=((F.block _ (by simp;omega) (λB=>(l.j.2.2 _ B.symm).2 rfl)).trans (((A.j _ _).K _ a5 (by simp)).trans a0.j));have S:j.heap[e.heap.size]? = some (oW x):=((F.block _ (by simp;omega) (λB=>by have:=(l.j.2.2 _ B.symm).1;omega)).trans ((Below.heap_alloc _ _ _ (by simp)).trans (aK rfl)));obtain⟨i7,i8,i9,j0,j1,j2,j3,j4⟩:=dY S;obtain⟨e9,f0,f1,f2,f3,f4,f5,f6⟩:=dY u;have o:=Z (Yp F (Yp b4 (Yp b6 u)));clear F b4 b6 O u S);refine h.out _ _ ?_ (λK=>?_)
   .go_keep
   (try simp only[aL,aM,List.set]);refine bI [14,15,16] ?_;iterate 3 (refine bP (v:=?_) rfl (by kernel_rfl) (λ_ _ _ C=>C) (by kernel_rfl) (by assumption) ?_ ?_;rotate_left;focus (intro w D;(try dsimp only at D);go_simp;(try with_reducible rfl));(try simp only[aL,aM,List.set]))
   refine bJ ?_;refine cQ (by kernel_rfl) rfl λI h=>?_;go_simp;refine h.out _ _ ?_;(try simp only[aL,aM,List.set]);have b5:=o.j.1;rw[<-l.j.1]at b5;have c2:=Z ((f.j.aA (A.j _ _)).l6 (m:=⟨x.text,g,-1,x.w⟩) b5 o.j.2.2.1 (by rw[l.j.1];exact o.j.2.1.imp id (λB=>by rw[B];simp)) d2);have c1:U (Fr c w (j.setCell ⟨b,8,none⟩ (.slice (some ⟨b3,0,none⟩) (d.F.length+1) b1))):=by
    have c6:Fr c w j:=(a3.j.c7 (A.j _ _) (by simp)).c7 (eL o.j.1) (λP N G=>absurd (Y8 G) (f.j.b1 P (Y8 (he (by rw[l.j.1];simpa using N)))));exact c6.c7 ((ah [b] j).a6 (p:=⟨b,8,none⟩) (by simp) _) (λP N G=>absurd (Y8 G) (f.j.b1 P (Y8 (by simp only[Yc]at N;rw[N];simp[PV.b7]))))
   have e7:U ((j.setCell ⟨b,8,none⟩ (.slice (some ⟨b3,0,none⟩) (d.F.length+1) b1)).heap[w.heap.size]? = some oZ):=Z (((ah [b] j).a6 (p:=⟨b,8,none⟩) (by simp) _).K _ (aj o.j.2.2.2) (by simp;omega) |>.trans o.j.2.2.2);have h2:b≠e.heap.size:=by omega
   have h3:b≠w.heap.size:=by omega
   go_wp2;refine nC (R:=w.heap.size) (x:=x) (by rfl) (by rfl) rfl (yP x e7.j) ?_;rw[z.j];exact⟨rfl,bu.bo (b:=w.heap.size) (bu.jg ⟨_,c2.j⟩ kB),c1.j.jg (Y4 _),a1.j⟩
 .have M:(d.s.e != 0)=true:=by simpa using m
  have z:U (aH t g a=(x,d)):=by
   show _=_;unfold aH;rw[a2.j,Y9 m]
  go_wp2;refine nC (R:=w.heap.size) (x:=x) (by rfl) (by rfl) rfl ((Below.heap_alloc _ _ _ (by simpa using a5)).trans (yP x a0.j)) ?_;rw[z.j];exact⟨rfl,(((a9.j.jg kB).G _).bo.bo).a4 (by omega),(a3.j.jg (Y4 _)).G _,a1.j⟩
end
variable {d q : Nat -> Prop} {f g N' : Nat} {t : List UInt8} {h p : ac} {c l w' : World}
inductive Th
 |obj (b:Nat) (o:Obj)
 |row (e:TypeId) (size:Nat) (v:Value) (n:Nat) (xs:List Value)
def Th.ch:Th->Option Nat
 |.obj a _=>some a
 |.row _ _ v _ _=>v.ownBlock
def Th.At(c:World):Th->Prop
 |.obj a e=>c.heap[a]? = some e
 |.row b f v d g=>c.ownsRow 0 b f v d g
abbrev cW(v:Value)(a:List Int):Th:=.row 3 1 v a.length (a.map (Value.int .i64))
abbrev bE(v:Value)(a:List (List UInt8)):Th:=.row 9 1 v a.length (a.map λb=>Value.string ⟨b.toArray⟩)
abbrev eE(v:Value)(a:List bj):Th:=.row 288 5 v a.length (a.flatMap eh)
def gU(d:Nat->Prop)(b:List Th):Nat->Prop:=λa=>d a\/∃c∈b,c.ch=some a
def Th.At.fr{a:Th}(b:a.At c)(h:Fr d c w')(g:∀f,a.ch=some f->d f):a.At w':=by
 cases a with
 |obj e k=>exact(h.K e (aj b) (g e rfl)).trans b
 |row i l v j m=>exact oD b h g
def Th.At.O{a:Th}{d:List Nat}(b:a.At c)(h:ai d c w')(g:∀f,a.ch=some f->f ∉ d):a.At w':=by
 cases a with
 |obj e k=>exact(h.K e (aj b) (g e rfl)).trans b
 |row i l v j m=>exact aY b h g
def Th.At.lt{a:Th}(e:a.At c):∀b,a.ch=some b->b<c.heap.size:=by
 intro b d;cases a with
 |obj f i=>simp[Th.ch]at d;subst d;exact aj e
 |row g j v h k=>exact(gK e d).2
structure aE(d:Nat->Prop)(f:Nat)(t:List UInt8)(g:Nat)(h:ac)(L:List Th)(l c:World):Prop where
 a3:bu (gU d L) f t g h c
 fr:Fr d l c
 w:∀a∈L,a.At c
 aQ:∀a∈L,∀b,a.ch=some b->¬d b
 c8:∀(i j:Nat) (a b:Th),i≠j->L[i]? = some a->L[j]? = some b->∀k,a.ch=some k->b.ch≠some k
def iL(e:bu d f t g h c):aE d f t g h [] c c:=⟨e.cc λj a=>by rcases a with a|⟨i,b,_⟩;exact a;simp at b,iN _ _,by simp,by simp,by simp⟩
def aE.bh{b:List Th}(i:aE d f t g h b l c):∀a,d a->a<c.heap.size:=λa e=>i.a3.bh a (Y8 e)
def aE.call{a:List Th}(b:aE d f t g h a l c)(e:bu (gU d a) f t N' p w'/\Fr (gU d a) c w'):aE d f t N' p a l w':=
 ⟨e.1,b.fr.u (e.2.cc λ_ _=>Y8),λi j=>(b.w i j).fr e.2 λm k=>Ya ⟨i,j,k⟩,b.aQ,b.c8⟩
def aE.O{a:List Th}(e:aE d f t g h a l c)(b:ai [] c w'):aE d f t g h a l w':=e.call ⟨e.a3.O b (by simp),sq b (by simp)⟩
def aE.a9{a:List Th}(b:aE d f t g h a l c):aE d f t g h a l c.drew:=b.O (ah [] c).a9
def aE.a4{b:List Th}(a:aE d f t g h b l c)(e:g<=N'):aE d f t N' h b l c:=⟨a.a3.a4 e,a.fr,a.w,a.aQ,a.c8⟩
def aE.G{q:List Th}(m:aE d f t g h q l c)(i:Obj):aE d f t g h (.obj c.heap.size i::q) l (c.alloc i):=by
 have v:ai [] c (c.alloc i):=(ah [] c).G i;refine⟨(m.a3.G i).cc ?_,m.fr.G i,?_,?_,?_⟩
 .intro j b;rcases b with b|⟨e,a,b⟩
  .exact Y8 (Y8 b)
  .rcases Yg.1 a with rfl|a
   .simp[Th.ch]at b;subst b;exact kB
   .exact Y8 (Ya ⟨e,a,b⟩)
 .intro e a;rcases Yg.1 a with rfl|a
  .exact aK rfl
  .exact(m.w e a).O v (by simp)
 .intro e a j b r;rcases Yg.1 a with rfl|a
  .simp[Th.ch]at b;subst b;exact absurd (m.bh _ r) (by omega)
  .exact m.aQ e a j b r
 .intro p k e j s a b u n o;cases p with
  |zero=>
   cases k with
   |zero=>exact s rfl
   |succ k=>
    simp at a b;subst a;simp[Th.ch]at n;subst n;exact absurd ((m.w j (Yh b)).lt _ o) (by omega)
  |succ p=>
   cases k with
   |zero=>
    simp at a b;subst b;simp[Th.ch]at o;subst o;exact absurd ((m.w e (Yh a)).lt _ n) (by omega)
   |succ k=>exact m.c8 p k e j (by omega) (by simpa using a) (by simpa using b) u n o
def aE.b6{v:List Th}{H:List Nat}{i:Nat}{o a':Th}(j:aE d f t g h v l c)(w:v[i]? = some o)(x:ai H c w')(E:∀a∈H,o.ch=some a)(J:a'.At w')(y:∀a,a'.ch=some a->o.ch=some a\/c.heap.size<=a):aE d f t g h (v.set i a') l w':=by
 have G:=(YB.1 w).1;have B:=Yh w;have C:∀b∈v.set i a',b=a'\/∃n,n≠i/\v[n]? = some b:=by
  intro b e;obtain⟨n,m⟩:=List.getElem?_of_mem e;rw[YP]at m;split at m
  .simp[G]at m;exact Y8 m.symm
  .rename_i k;exact Ya ⟨n,λL=>k L.symm,m⟩
 refine⟨j.a3.hy x (λa q=>Ya ⟨o,B,E a q⟩) ?_ ?_,j.fr.c7 x (λa q r=>absurd r (j.aQ o B a (E a q))),?_,?_,?_⟩
 .intro p F;rcases F with r|⟨b,e,s⟩
  .exact Y8 (Y8 r)
  .rcases C b e with rfl|⟨n,_,m⟩
   .rcases y p s with k|k
    .exact Y8 (Ya ⟨o,B,k⟩)
    .exact Ya k
   .exact Y8 (Ya ⟨b,Yh m,s⟩)
 .intro p F;rcases F with r|⟨b,e,s⟩
  .exact Yr (j.bh p r) x.a2
  .rcases C b e with rfl|⟨n,_,m⟩
   .exact J.lt p s
   .exact Yr ((j.w b (Yh m)).lt p s) x.a2
 .intro b e;rcases C b e with rfl|⟨n,O,m⟩
  .exact J
  .exact(j.w b (Yh m)).O x λa q N=>j.c8 n i b o O m w a q (E a N)
 .intro b e p s r;rcases C b e with rfl|⟨n,_,m⟩
  .rcases y p s with k|k
   .exact j.aQ o B p k r
   .exact absurd (j.bh p r) (by omega)
  .exact j.aQ b (Yh m) p s r
 .intro n K b D A e u a q z;rw[YP]at e u;split at e
  .rename_i I;subst I;simp[G]at e;subst e;rw[Y2 A]at u;rcases y a q with k|k
   .exact j.c8 i K o D A w u a k z
   .exact absurd ((j.w D (Yh u)).lt a z) (by omega)
  .split at u
   .rename_i I M;subst M;simp[G]at u;subst u;rcases y a z with k|k
    .exact j.c8 n i b o A e w a q k
    .exact absurd ((j.w b (Yh e)).lt a q) (by omega)
   .exact j.c8 n K b D A e u a q z
def aE.bo{j:List Th}{k:Th}(i:aE d f t g h (k::j) l c):aE d f t g h j l c:=by
 refine⟨i.a3.cc ?_,i.fr,λa b=>i.w a (Y5 _ b),λa b=>i.aQ a (Y5 _ b),λo p a m r b n=>i.c8 (o+1) (p+1) a m (by omega) (by simpa using b) (by simpa using n)⟩;intro q e;rcases e with e|⟨a,b,e⟩
 .exact Y8 e
 .exact Ya ⟨a,Y5 _ b,e⟩
def aE.fin{L:List Th}(a:aE d f t g h L l c):bu d f t g h c/\Fr d l c:=⟨a.a3.cc λ_=>Y8,a.fr⟩
def aE.dN{j:List Th}{i R:Nat}{y:ef}(m:aE d f t g h j l c)(k:j[i]? = some (.obj R (oW y)))(a:ef):aE d f t g h (j.set i (.obj R (oW a))) l (rV c R (.int .i64 a.H) (.string ⟨a.text.toArray⟩) (.int .i64 a.w) (.int .i64 a.fin) (.int .i64 a.n) (.int .i64 a.e)):=
 m.b6 k (xJ _ _ _ _ _ _ _ _) (λo b=>by simp at b;rw[b];rfl) (tR (m.w _ (Yh k))) (λo b=>Y8 b)
def aE.am{a:List Th}{i R:Nat}{x:ef}(j:aE d f t g h a l c)(b:a[i]? = some (.obj R (oW x))) :
  c.cell? ⟨R,0,none⟩=some (.int .i64 x.H)/\c.cell? ⟨R,1,none⟩=some (.string ⟨x.text.toArray⟩)/\c.cell? ⟨R,2,none⟩=some (.int .i64 x.w)/\c.cell? ⟨R,3,none⟩=some (.int .i64 x.fin)/\c.cell? ⟨R,4,none⟩=some (.int .i64 x.n)/\c.cell? ⟨R,5,none⟩=some (.int .i64 x.e)/\(∀i,c.frozen? ⟨R,i,none⟩=false)/\R<c.heap.size:=dY (j.w _ (Yh b))
def aB{d:Nat->Prop}{c g h:Nat}{e:List UInt8}{l m:ac}{b:List Th}{k a:World}{i:Nat}{args:Array Value}{v:Value}{Q:Ending->World->Prop}
  (j:U (aE d c e g l b k a)) (n:bu (gU d b) c e g l a->Calls Tryz.prog i args a (GP (gU d b) c e h m v a))
  (o:∀f,U (aE d c e h m b k f)->Q (.returned v) f):Calls Tryz.prog i args a Q:=
 (n j.j.a3).mono λ_ f ⟨p,r,q⟩=>p▸o f (Z (j.j.call ⟨r,q⟩))
def dW(b:List UInt8)(a:ac):ac:={ a with j:=a.j++b }
def bC(a:Int):List UInt8:=(Lib.itoa a)
def ei(e:List UInt8)(d c b:Int)(a:ac):(Int×Int)×ac:=if b<d\/c<b then ((0,0),bp 8 a.s.x.w a)else ((b,a.s.x.w),aJ e a)
def bO(a:ac):df:=a.F.getD (bA a a.s.x.text).toNat gW
def aW(d:List UInt8)(c b:Int)(a:ac):(Int×Int)×ac:=
 if a.s.e≠0 then ((0,0),a)
 else if a.s.x.H=3 then ei d c b a.s.x.n a
 else if ay a 2 [84,82,85,69]=true then ei d c b 1 a
 else if ay a 2 [70,65,76,83,69]=true then ei d c b 0 a
 else if a.s.x.H=1 then
  if bA a a.s.x.text<0\/(bO a).bb≠0 then ((0,0),bp 7 a.s.x.w a)else ei d c b (bO a).n a
 else ((0,0),dd a)
def iJ(b:List UInt8)(a:ac):(Int×List UInt8)×ac:=
 if ay a 2 [104,121,112,101,114]=true then ((3,[117,110,115,105,103,110,101,100,32,104,121,112,101,114]),aJ b a)
 else if ay a 2 [105,110,116]=true then ((1,[117,110,115,105,103,110,101,100]),aJ b a)
 else ((1,[117,110,115,105,103,110,101,100]),a)
def nB(b:List UInt8)(a:Int):be:=⟨14,0,-1,[],[],0,b,a⟩
def ci(b:List UInt8)(a:ac):(Int×List UInt8)×ac:=
 if a.s.e≠0 then ((0,[]),a)
 else if a.s.x.H=1 then (((aJ b a).y.length,a.s.x.text),bK (nB a.s.x.text a.s.x.w) (aJ b a))
 else if a.s.x.H=2/\a.s.x.text=[105,110,116]then ((0,[105,110,116]),aJ b a)
 else if a.s.x.H=2/\a.s.x.text=[104,121,112,101,114]then ((2,[104,121,112,101,114]),aJ b a)
 else if a.s.x.H=2/\a.s.x.text=[98,111,111,108]then ((4,[98,111,111,108]),aJ b a)
 else if a.s.x.H=2/\a.s.x.text=[117,110,115,105,103,110,101,100]then iJ b (aJ b a)
 else ((0,[]),dd a)
def bq(a:List UInt8)(e:Bool)(d:ac):Int×ac:=
 if e=true then
  let b:=aW a 1 1000 (ab a 4 [91] d)
  (b.1.1,ab a 4 [93] b.2)
 else
  let c:=ab a 4 [60] d
  if ay c 4 [62]=true then (4294967295,ab a 4 [62] c)
  else
   let b:=aW a 0 4294967295 c
   (b.1.1,ab a 4 [62] b.2)
def bW(c:List UInt8)(b:List (List UInt8))(all:Bool)(d:ac):ef×ac:=
 let a:=cK c d
 if a.2.s.e=0/\(if all=true then decide (0<=bA a.2 a.1.text)else b.contains a.1.text)=true then (a.1,bp 6 a.1.w a.2)else a
structure jh where
 r:Int
 d5:List UInt8
 fA:List UInt8
 x:ef
def ek(a b:Int):be:=⟨a,b,0,[],[],0,[],0⟩
def dI(a b c:Int):be:=⟨a,b,c,[],[],0,[],0⟩
def gt(c:List UInt8)(e:List (List UInt8))(all f:Bool)(d:ac):jh×ac:=
 let b:=bW c e all (aJ c d)
 if ay b.2 4 [91]=true/\f=true then
  let a:=bq c true b.2
  (⟨a.2.y.length,d.s.x.text++[32],[91]++bC a.1++[93],b.1⟩,bK (ek 6 a.1) a.2)
 else
  let a:=bq c false b.2
  (⟨a.2.y.length,d.s.x.text++[32],[60]++bC a.1++[62],b.1⟩,bK (ek (if ay d 2 [115,116,114,105,110,103]=true then 8 else 7) a.1) a.2)
def gq(d:List UInt8)(e:List (List UInt8))(all:Bool)(f:ac):jh×ac:=
 let b:=ci d f
 if ay b.2 4 [42]=true then
  let a:=bW d e all (aJ d b.2)
  (⟨a.2.y.length,b.1.2++[32,42],[],a.1⟩,bK (dI 11 0 b.1.1) a.2)
 else
  let a:=bW d e all b.2
  if ay a.2 4 [91]=true then
   let c:=bq d true a.2
   (⟨c.2.y.length,b.1.2++[32],[91]++bC c.1++[93],a.1⟩,bK (dI 9 c.1 b.1.1) c.2)
  else if ay a.2 4 [60]=true then
   let c:=bq d false a.2
   (⟨c.2.y.length,b.1.2++[32],[60]++bC c.1++[62],a.1⟩,bK (dI 10 c.1 b.1.1) c.2)
  else (⟨b.1.1,b.1.2++[32],[],a.1⟩,a.2)
def bR(c:List UInt8)(b:List (List UInt8))(all:Bool)(a:ac):jh×ac:=
 if ay a 2 [111,112,97,113,117,101]=true\/ay a 2 [115,116,114,105,110,103]=true then gt c b all (ay a 2 [111,112,97,113,117,101]) a else gq c b all a
def fO(a:List UInt8)(d:ac):ac:=
 let b:=aH a 2 (ab a 2 [99,111,110,115,116] (ar d.a1 40 d))
 let v:=aW a (-2147483648) 4294967295 (ab a 4 [61] b.2)
 let c:=ab a 4 [59] v.2
 if c.s.e≠0 then c else dW ([99,111,110,115,116,32]++b.1.text++[32,61,32]++bC v.1.1++[59,10]) (dB b.1.text v.1.1 c)
def gi(b:List UInt8)(c:ac):ac:=
 let a:=bR b [] true (ab b 2 [116,121,112,101,100,101,102] c)
 if a.2.s.e≠0 then a.2
 else dW ([116,121,112,101,100,101,102,32]++a.1.d5++a.1.x.text++a.1.fA++[59,10]) (ab b 4 [59] { a.2 with F:=a.2.F++[⟨a.1.x.text,1,a.1.r,a.1.x.w⟩] })
def di(c:List UInt8):Nat->List Int->List UInt8->ac->Bool×List Int×List UInt8×ac
 |0,a,b,d=>(false,a,b,d)
 |k+1,a,b,d=>
  if d.s.e≠0 then (false,a,b,d)
  else
   let j:=ar a.length 12 d
   let f:=aH c 2 (ar j.a1 40 j)
   let v:=aW c (-2147483648) 2147483647 (ab c 4 [61] f.2)
   let g:=if v.2.s.e=0/\a.contains v.1.1=true then bp 6 v.1.2 v.2 else v.2
   if g.s.e≠0 then (true,a,b,g)
   else
    let h:=dB f.1.text v.1.1 g
    let i:=b++f.1.text++[32,61,32]++bC v.1.1
    if ay h 4 [44]=true then di c k (a++[v.1.1]) (i++[44,32]) (aJ c h)else (false,a++[v.1.1],i,h)
def gG(a:List UInt8)(e:ac):ac:=
 let c:=aH a 2 (ab a 2 [101,110,117,109] e)
 let b:=di a 13 [] ([101,110,117,109,32]++c.1.text++[32,123,32]) (ab a 4 [123] c.2)
 if b.1=true then b.2.2.2
 else
  let d:=ab a 4 [59] (ab a 4 [125] b.2.2.2)
  dW (b.2.2.1++[32,125,59,10]) (cY c.1.text d.y.length (bK ⟨5,0,0,b.2.1,[],0,[],0⟩ d))
def dJ(f:List UInt8):Nat->List Int->List (List UInt8)->List UInt8->ac->List Int×List UInt8×ac
 |0,b,_,d,c=>(b,d,c)
 |k+1,b,h,d,c=>
  if c.s.e≠0 then (b,d,c)
  else
   let a:=bR f h false (ar b.length 12 c)
   let g:=ab f 4 [59] a.2
   let i:=d++a.1.d5++a.1.x.text++a.1.fA++[59,32]
   if ay g 4 [125]=true then (b++[a.1.r],i,g)else dJ f k (b++[a.1.r]) (h++[a.1.x.text]) i g
def gx(a:List UInt8)(e:ac):ac:=
 let c:=aH a 2 (ab a 2 [115,116,114,117,99,116] e)
 let b:=dJ a 14 [] [] ([115,116,114,117,99,116,32]++c.1.text++[32,123,32]) (ab a 4 [123] c.2)
 let d:=ab a 4 [59] (ab a 4 [125] b.2.2)
 dW (b.2.1++[125,59,10]) (cY c.1.text d.y.length (bK ⟨12,0,0,[],b.1,0,[],0⟩ d))
def fF(b:ac)(a:Int):be:=b.y.getD a.toNat cT
def bS(b:List UInt8)(a:ac):(Int×List UInt8)×ac:=
 if a.s.e=0/\a.s.x.H=1 then
  if bA a a.s.x.text<0\/(bO a).bb≠1\/(fF a (bO a).n).H≠5 then ((0,[]),bp 7 a.s.x.w a)
  else (((bO a).n,a.s.x.text),aJ b a)
 else if a.s.e=0/\a.s.x.H=2/\(a.s.x.text=[105,110,116]\/a.s.x.text=[117,110,115,105,103,110,101,100]\/a.s.x.text=[98,111,111,108])then
  if a.s.x.text=[105,110,116]then ((0,[105,110,116]),aJ b a)
  else if a.s.x.text=[98,111,111,108]then ((4,[98,111,111,108]),aJ b a)
  else if ay (aJ b a) 2 [105,110,116]=true then ((1,[117,110,115,105,103,110,101,100]),aJ b (aJ b a))
  else ((1,[117,110,115,105,103,110,101,100]),aJ b a)
 else ((0,[]),dd a)
def cf(b:List UInt8)(c:List (List UInt8))(d:ac):(Int×List UInt8×List (List UInt8))×ac:=
 if ay d 2 [118,111,105,100]=true then ((-1,[118,111,105,100,59,32],c),ab b 4 [59] (aJ b d))
 else
  let a:=bR b c false d
  ((a.1.r,a.1.d5++a.1.x.text++a.1.fA++[59,32],c++[a.1.x.text]),ab b 4 [59] a.2)
def eS(of:Int):Int:=if of=1\/of=4 then 0 else -2147483648
def eR(of:Int):Int:=if of=1 then 4294967295 else if of=4 then 1 else 2147483647
def bU(t:List UInt8)(of:Int):Nat->List Int->List UInt8->ac->(List Int×List UInt8)×ac
 |0,a,c,b=>((a,c),b)
 |k+1,a,c,b=>
  if b.s.e≠0 then ((a,c),b)
  else
   let v:=aW t (eS of) (eR of) (ab t 2 [99,97,115,101] (ar a.length 12 b))
   let d:=if v.2.s.e=0/\4<of/\(fF v.2 of).b2.contains v.1.1=false then bp 8 v.1.2 v.2 else v.2
   let h:=if d.s.e=0/\a.contains v.1.1=true then bp 6 v.1.2 d else d
   let f:=ab t 4 [58] h
   let g:=c++[99,97,115,101,32]++bC v.1.1++[58,32]
   if ay f 2 [99,97,115,101]=true then bU t of k (a++[v.1.1]) g f else ((a++[v.1.1],g),f)
def jX(b:Nat)(c:Int)(a:List Int):List Int:=a++List.replicate (b-a.length) c
def dP(i:List UInt8)(of:Int):Nat->List Int->List Int->List (List UInt8)->List UInt8->ac->(List Int×List Int×List (List UInt8)×List UInt8)×ac
 |0,c,h,f,g,d=>((c,h,f,g),d)
 |k+1,c,h,f,g,d=>
  if d.s.e≠0 then ((c,h,f,g),d)
  else
   let b:=bU i of (14-c.length) c [] d
   let a:=cf i f b.2
   let l:=jX b.1.1.length a.1.1 h
   let j:=g++b.1.2++a.1.2.1
   if ay a.2 2 [99,97,115,101]=true then dP i of k b.1.1 l a.1.2.2 j a.2 else ((b.1.1,l,a.1.2.2,j),a.2)
def go(b:List UInt8)(d:List (List UInt8))(c:ac):(Int×List UInt8)×ac:=
 if ay c 2 [100,101,102,97,117,108,116]=true then
  let a:=cf b d (ab b 4 [58] (aJ b c))
  ((a.1.1,[100,101,102,97,117,108,116,58,32]++a.1.2.1),a.2)
 else ((-2,[]),c)
def fX(a:List UInt8)(h:ac):ac:=
 let f:=aH a 2 (ab a 2 [117,110,105,111,110] h)
 let c:=bS a (ab a 4 [40] (ab a 2 [115,119,105,116,99,104] f.2))
 let e:=cK a c.2
 let i:=ab a 4 [123] (ab a 4 [41] e.2)
 let b:=dP a c.1.1 14 [] [] [e.1.text] ([117,110,105,111,110,32]++f.1.text++[32,115,119,105,116,99,104,32,40]++c.1.2++[32]++e.1.text++[41,32,123,32]) i
 let d:=go a b.1.2.2.1 b.2
 let g:=ab a 4 [59] (ab a 4 [125] d.2)
 dW (b.1.2.2.2++d.1.2++[125,59,10]) (cY f.1.text g.y.length (bK ⟨13,0,c.1.1,b.1.1,b.1.2.1,d.1.1,[],0⟩ g))
def eC(b:List UInt8)(a:ac):(Int×List UInt8)×ac:=if ay a 2 [118,111,105,100]=true then ((-1,[118,111,105,100]),aJ b a)else ci b a
def bD(a:List UInt8)(b:List Int)(c:ac):Int×ac:=
 let v:=aW a 0 4294967295 (ab a 4 [61] c)
 (v.1.1,ab a 4 [59] (if v.2.s.e=0/\b.contains v.1.1=true then bp 6 v.1.2 v.2 else v.2))
def eZ(a:List UInt8):Nat->List bj->List (List UInt8)->List Int->List UInt8->ac->(List bj×List UInt8)×ac
 |0,c,_,_,f,d=>((c,f),d)
 |k+1,c,n,l,f,d=>
  if d.s.e≠0 then ((c,f),d)
  else
   let i:=eC a (ar c.length 8 d)
   let h:=bW a n false i.2
   let g:=eC a (ab a 4 [40] h.2)
   let b:=bD a l (ab a 4 [41] g.2)
   let m:=f++i.1.2++[32]++h.1.text++[40]++g.1.2++[41,32,61,32]++bC b.1++[59,32]
   let j:=c++[⟨0,0,b.1,g.1.1,i.1.1⟩]
   if ay b.2 4 [125]=true then ((j,m),b.2)else eZ a k j (n++[h.1.text]) (l++[b.1]) m b.2
structure sE where
 ca:List UInt8
 num:Int
 l:List bj
 j:List UInt8
def eG(a:List UInt8)(e:List (List UInt8))(f:List Int)(h:ac):sE×ac:=
 let d:=bW a e false (ab a 2 [118,101,114,115,105,111,110] h)
 let c:=eZ a 10 [] [] [] ([118,101,114,115,105,111,110,32]++d.1.text++[32,123,32]) (ab a 4 [123] d.2)
 let b:=bD a f (ab a 4 [125] c.2)
 (⟨d.1.text,b.1,c.1.1.map (λg=>{ g with d1:=b.1 }),c.1.2++[125,32,61,32]++bC b.1++[59,32]⟩,b.2)
def eq(h:List UInt8):Nat->List (List UInt8)->List Int->List bj->List UInt8->ac->(List bj×List UInt8)×ac
 |0,_,_,all,b,a=>((all,b),a)
 |k+1,f,c,all,b,a=>
  if a.s.e≠0 then ((all,b),a)
  else
   let v:=eG h f c (ar c.length 4 a)
   let d:=all++v.1.l
   let g:=b++v.1.j
   if ay v.2 4 [125]=true then ((d,g),v.2)else eq h k (f++[v.1.ca]) (c++[v.1.num]) d g v.2
def gu(b:List UInt8)(d:ac):ac:=
 let c:=aH b 2 (ab b 2 [112,114,111,103,114,97,109] (ar d.aa.length 4 d))
 let v:=eq b 6 [] [] [] ([112,114,111,103,114,97,109,32]++c.1.text++[32,123,32]) (ab b 4 [123] c.2)
 let e:=ab b 4 [125] v.2
 let a:=bD b e.aa e
 dW (v.1.2++[125,32,61,32]++bC a.1++[59,10]) { a.2 with aa:=a.2.aa++[a.1],ak:=a.2.ak++v.1.1.map (λf=>{ f with prog:=a.1 }) }
def bH(b:List UInt8)(a:ac):ac:=
 if ay a 2 [99,111,110,115,116]=true then fO b a
 else if ay a 2 [112,114,111,103,114,97,109]=true then gu b a
 else if a.s.x.H≠2\/(a.s.x.text≠[116,121,112,101,100,101,102]/\a.s.x.text≠[101,110,117,109]/\a.s.x.text≠[115,116,114,117,99,116]/\a.s.x.text≠[117,110,105,111,110])then dd a
 else
  let d:=ar a.ae 24 a
  let c:ac:={ d with ae:=d.ae+1 }
  if a.s.x.text=[116,121,112,101,100,101,102]then gi b c
  else if a.s.x.text=[101,110,117,109]then gG b c
  else if a.s.x.text=[115,116,114,117,99,116]then gx b c
  else fX b c
end Go.Proofs.YtjdhaegijjednaaGreatDoor
