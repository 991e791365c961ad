import Derived.Test.YtjdhaegijjednaaGreatDoorT1
import Derived.Laws.EntriesVeiled
import Derived.ChangeKeysEq
import Derived.Deep.AppendLies
set_option linter.all false
set_option maxRecDepth 100000
set_option maxHeartbeats 4000000
namespace Go.Proofs.YtjdhaegijjednaaGreatDoor
open Go.Proofs.Tryz
section
variable {h : Program} {c : Array Oper} {Q : Exit -> Act -> World -> Prop} {f : Region.Mode} {S : World -> Prop} {d : Nat} {j : List Nat} {g : Oper} {v : Value} {i : Nat} {e : Array Bool} {a : Act} {b : World}
def qB(_:List Nat)(a:Prop):Prop:=a
def bH(j:List Nat){a:Prop}(b:qB j a):a:=b
def bI{a:Prop}(b:a):qB [] a:=b
def bO(q:c[d]? = some g)(p:(Region.noSelect c&&Region.free f c e d&&(Region.ready f c e).contains d)=true)(n:∀l a b,Q (.panic l) (a.put g.dst v) b->Q (.panic l) a b)(r:Region.wanted g (yielded c a.tmps)=true)(o:S b)(s:∀k,S k->(execOp a.eval g).run h k=.ok (.value v) k)(m:qB j (wpAnyH h f c Q S i (e.setIfInBounds d true) (a.put g.dst v) b)):qB (d::j) (wpAnyH h f c Q S (i+1) e a b):=tk q p n r o s m
def Pq(p:c[d]? = some g)(k:(Region.noSelect c&&Region.free f c e d&&(Region.ready f c e).contains d)=true)(n:∀l a b,Q (.panic l) (a.put g.dst undef) b->Q (.panic l) a b)(q:Region.wanted g (yielded c a.tmps)=false)(o:S b)(m:qB j (wpAnyH h f c Q S i (e.setIfInBounds d true) (a.put g.dst undef) b)):qB (d::j) (wpAnyH h f c Q S (i+1) e a b):=by
 simp only[Bool.and_eq_true]at k;exact wpAnyH_take p k.1.1 k.1.2 k.2 n (Ya ⟨q,rfl⟩) o m
def cj(d:Nat)(m:Region.ready f c e=[d])(l:c[d]? = some g)
  (k:∀j:Act->World->Prop,Shut (∀a b,S b->(S b->wpAnyH h f c Q S i (e.setIfInBounds d true) a b)->j a b)->if Region.wanted g (yielded c a.tmps)=true then Oper.wp h g a b j Q else j (a.put g.dst undef) b) :
  wpAnyH h f c Q S (i+1) e a b:=wpAnyH_ready m (by simp) (AllReadyH.cons l k AllReadyH.nil)
def cP{j:Nat}{d:Oper}(m:Region.ready f c e=[])(l:c[j]? = some d)
  (k:∀g:Act->World->Prop,Shut (∀a b,Q .normal a b->g a b)->if Region.wanted d (yielded c a.tmps)=true then Oper.wp h d a b g Q else g (a.put d.dst undef) b) :
  wpAnyH h f c (pp h c Q j) S i e a b:=wpAnyH_done m (Jz l k) _
end
end Go.Proofs.YtjdhaegijjednaaGreatDoor
namespace Go.Proofs.YtjdhaegijjednaaGreatDoor
open Go.RowKit
open Go.Proofs.Tryz
section
variable {a g:Nat}{j:TypeId}{c:Int}{h:Array Value}{e:List UInt8}{d f:World}{b:ee}
structure lN where
 rv:Value
 nv:Value
 pv:Value
 b:List UInt8
 D:Int
 j:Int
 gv:Value
abbrev lw(e:List UInt8)(b:ee)(d c:Int)(a:lN):Obj:=.cells #[.string ⟨e.toArray⟩,.int .i64 b.f,.string ⟨b.text.toArray⟩,.int .i64 b.m,.int .i64 b.fin,.int .i64 b.n,.int .i64 b.e,a.rv,a.nv,a.pv,.string ⟨a.b.toArray⟩,.int .i64 d,.int .i64 c,.int .i64 a.D,.int .i64 a.j,a.gv] 114
def aR{a:Nat}{v:Value}(b:f.heap[g]? = some (.cells h j))(c:h[a]? = some v):f.cell? ⟨g,a,none⟩=some v:=by
 simp[World.cell?,b,c]
def cF(b:f.heap[g]? = some (.cells h j)):∀a,f.frozen? ⟨g,a,none⟩=false:=by
 intro a;simp[World.frozen?,b]
def OJ{d:ee}{h:Int}{g:lN}(j:f.heap[a]? = some (lw e b h c g)):((((((f.setCell ⟨a,1,none⟩ (.int .i64 d.f)).setCell ⟨a,2,none⟩ (.string ⟨d.text.toArray⟩)).setCell ⟨a,3,none⟩ (.int .i64 d.m)).setCell ⟨a,4,none⟩ (.int .i64 d.fin)).setCell ⟨a,5,none⟩ (.int .i64 d.n)).setCell ⟨a,6,none⟩ (.int .i64 d.e)).heap[a]? = some (lw e d h c g):=by
 have k:(f.setCell ⟨a,1,none⟩ (.int .i64 d.f)).heap[a]? = some (.cells #[.string ⟨e.toArray⟩,.int .i64 d.f,.string ⟨b.text.toArray⟩,.int .i64 b.m,.int .i64 b.fin,.int .i64 b.n,.int .i64 b.e,g.rv,g.nv,g.pv,.string ⟨g.b.toArray⟩,.int .i64 h,.int .i64 c,.int .i64 g.D,.int .i64 g.j,g.gv] 114):=bu (i:=1) j _;have l:((f.setCell ⟨a,1,none⟩ (.int .i64 d.f)).setCell ⟨a,2,none⟩ (.string ⟨d.text.toArray⟩)).heap[a]? = some (.cells #[.string ⟨e.toArray⟩,.int .i64 d.f,.string ⟨d.text.toArray⟩,.int .i64 b.m,.int .i64 b.fin,.int .i64 b.n,.int .i64 b.e,g.rv,g.nv,g.pv,.string ⟨g.b.toArray⟩,.int .i64 h,.int .i64 c,.int .i64 g.D,.int .i64 g.j,g.gv] 114):=bu (i:=2) k _;have m:(((f.setCell ⟨a,1,none⟩ (.int .i64 d.f)).setCell ⟨a,2,none⟩ (.string ⟨d.text.toArray⟩)).setCell ⟨a,3,none⟩ (.int .i64 d.m)).heap[a]? = some (.cells #[.string ⟨e.toArray⟩,.int .i64 d.f,.string ⟨d.text.toArray⟩,.int .i64 d.m,.int .i64 b.fin,.int .i64 b.n,.int .i64 b.e,g.rv,g.nv,g.pv,.string ⟨g.b.toArray⟩,.int .i64 h,.int .i64 c,.int .i64 g.D,.int .i64 g.j,g.gv] 114):=bu (i:=3) l _;have o:((((f.setCell ⟨a,1,none⟩ (.int .i64 d.f)).setCell ⟨a,2,none⟩ (.string ⟨d.text.toArray⟩)).setCell ⟨a,3,none⟩ (.int .i64 d.m)).setCell ⟨a,4,none⟩ (.int .i64 d.fin)).heap[a]? = some (.cells #[.string ⟨e.toArray⟩,.int .i64 d.f,.string ⟨d.text.toArray⟩,.int .i64 d.m,.int .i64 d.fin,.int .i64 b.n,.int .i64 b.e,g.rv,g.nv,g.pv,.string ⟨g.b.toArray⟩,.int .i64 h,.int .i64 c,.int .i64 g.D,.int .i64 g.j,g.gv] 114):=bu (i:=4) m _;have p:(((((f.setCell ⟨a,1,none⟩ (.int .i64 d.f)).setCell ⟨a,2,none⟩ (.string ⟨d.text.toArray⟩)).setCell ⟨a,3,none⟩ (.int .i64 d.m)).setCell ⟨a,4,none⟩ (.int .i64 d.fin)).setCell ⟨a,5,none⟩ (.int .i64 d.n)).heap[a]? = some (.cells #[.string ⟨e.toArray⟩,.int .i64 d.f,.string ⟨d.text.toArray⟩,.int .i64 d.m,.int .i64 d.fin,.int .i64 d.n,.int .i64 b.e,g.rv,g.nv,g.pv,.string ⟨g.b.toArray⟩,.int .i64 h,.int .i64 c,.int .i64 g.D,.int .i64 g.j,g.gv] 114):=bu (i:=5) o _;have q:((((((f.setCell ⟨a,1,none⟩ (.int .i64 d.f)).setCell ⟨a,2,none⟩ (.string ⟨d.text.toArray⟩)).setCell ⟨a,3,none⟩ (.int .i64 d.m)).setCell ⟨a,4,none⟩ (.int .i64 d.fin)).setCell ⟨a,5,none⟩ (.int .i64 d.n)).setCell ⟨a,6,none⟩ (.int .i64 d.e)).heap[a]? = some (.cells #[.string ⟨e.toArray⟩,.int .i64 d.f,.string ⟨d.text.toArray⟩,.int .i64 d.m,.int .i64 d.fin,.int .i64 d.n,.int .i64 d.e,g.rv,g.nv,g.pv,.string ⟨g.b.toArray⟩,.int .i64 h,.int .i64 c,.int .i64 g.D,.int .i64 g.j,g.gv] 114):=bu (i:=6) p _;exact q
def hl(a c d b:Int):Int×Int:=if a=0 then (d,b)else (a,c)
def uF{f:Int}{n:lN}(j:d.heap[a]? = some (lw e b f c n))(h g:Int) :
  Calls prog 51 #[.pointer (some ⟨a,0,none⟩),.int .i64 h,.int .i64 g] d λq o=>q=.returned (.tuple #[])/\o.heap[a]? = some (lw e b (hl f c h g).1 (hl f c h g).2 n)/\ai [a] d o:=by
 have s:d.cell? ⟨a,11,none⟩=some (.int .i64 f):=aR j rfl;have t:d.cell? ⟨a,12,none⟩=some (.int .i64 c):=aR j rfl;have v:=cF j;have w:=aj j;have m:=Z j;by_cases k:f=0
 .have l:U (hl f c h g=(h,g)):=Y9 k;subst k;go_in;go_wp2;go_end0;rw[l.b];have r:=bu (i:=11) m.b (.int .i64 h);refine⟨rfl,bu (i:=12) r (.int .i64 g),((ah [a] d).O (p:=⟨a,11,none⟩) (by simp) _).O (p:=⟨a,12,none⟩) (by simp) _⟩
 .have l:U (hl f c h g=(f,c)):=Y2 k;have u:(f==0)=false:=by rw[Yi];exact k
  go_in;go_wp2;go_end0;rw[l.b];exact⟨rfl,m.b,ah _ _⟩
def lT(b:ee)(a c:Int):Int×Int:=if b.f=5 then hl a c b.e b.m else hl a c 3 b.m
def uq{h:Int}{o:lN}(g:d.heap[a]? = some (lw e b h c o)) :
  Calls prog 84 #[.pointer (some ⟨a,0,none⟩)] d λm p=>m=.returned (.tuple #[])/\p.heap[a]? = some (lw e b (lT b h c).1 (lT b h c).2 o)/\ai [a] d p:=by
 have A:d.cell? ⟨a,1,none⟩=some (.int .i64 b.f):=aR g rfl;have B:d.cell? ⟨a,3,none⟩=some (.int .i64 b.m):=aR g rfl;have C:d.cell? ⟨a,6,none⟩=some (.int .i64 b.e):=aR g rfl;have E:=cF g;have F:=aj g;have x:d.drew.heap[a]? = some (lw e b h c o):=g;have r:=Z (uF x b.e b.m);have s:=Z (uF g 3 b.m);by_cases n:b.f=5
 .have l:U (lT b h c=hl h c b.e b.m):=Y9 n;have w:((b.f:Int)==5)=true:=by rw[n];rfl
  go_in;go_wp2_with fail;refine cR (λq=>q.cell? ⟨a,3,none⟩=some (.int .i64 b.m)/\q.cell? ⟨a,6,none⟩=some (.int .i64 b.e)) (L:=11) (by kernel_rfl) rfl (by kernel_rfl) (by kernel_rfl) ?_ (λD=>?_)
  .go_keep
  refine bH [0,1,2,3,4,5,6,7,8,9,10] ?_;iterate 11 (refine bO (v:=?_) rfl (by kernel_rfl) (λ_ _ _ g=>g) (by kernel_rfl) (by assumption) ?_ ?_;rotate_left;focus (intro f u;(try dsimp only at u);go_simp;(try with_reducible rfl));(try simp only[aK,aL,List.set]))
  refine bI ?_;refine cP (by kernel_rfl) rfl λz t=>?_;(go_simp;refine r.b.mono ?_;rintro m y ⟨rfl,j,k⟩;have i:=Z (Yp j (((ah [a] d).ae).a k));clear j k);refine t.out _ _ ?_;(try simp only[aK,aL,List.set]);go_wp2;refine bodyPost_ret (v:=.tuple #[]) (by simp[results,results84]) rfl ?_;rw[l.b];exact⟨rfl,i.b.1,i.b.2⟩
 .have l:U (lT b h c=hl h c 3 b.m):=Y2 n;have w:((b.f:Int)==5)=false:=by rw[Yi];omega
  go_in;go_wp2_with fail;refine s.b.mono ?_;rintro m y ⟨rfl,j,k⟩;have i:=Z (Yp j k);go_wp2;go_end0;rw[l.b];exact⟨rfl,i.b.1,i.b.2⟩
def vo{q:Int}{s:lN}(h:d.heap[a]? = some (lw e b q c s))(C:b.fin<=e.length)(B:e.length<=2000) :
  Calls prog 47 #[.pointer (some ⟨a,0,none⟩)] d λr t=>r=.returned (.tuple #[])/\t.heap[a]? = some (lw e (cQ e b.fin) q c s)/\ai [a] d t:=by
 have y:d.cell? ⟨a,0,none⟩=some (.string ⟨e.toArray⟩):=aR h rfl;have z:d.cell? ⟨a,4,none⟩=some (.int .i64 b.fin):=aR h rfl;have I:=cF h;have M:=aj h;have x:=Z (EW e b.fin C B d.drew);have m:=Z h;generalize cQ e b.fin=N at *
 go_in;go_wp2_with fail;refine cR (λu=>u.cell? ⟨a,0,none⟩=some (.string ⟨e.toArray⟩)/\u.cell? ⟨a,4,none⟩=some (.int .i64 b.fin)) (L:=13) (by kernel_rfl) rfl (by kernel_rfl) (by kernel_rfl) ?_ (λA=>?_)
 .go_keep
 refine bH [0,1,2,3,4,5,6,7,8,9] ?_;iterate 10 (refine bO (v:=?_) rfl (by kernel_rfl) (λ_ _ _ h=>h) (by kernel_rfl) (by assumption) ?_ ?_;rotate_left;focus (intro f k;(try dsimp only at k);go_simp;(try with_reducible rfl));(try simp only[aK,aL,List.set]))
 refine bI ?_;refine cj 10 (by kernel_rfl) rfl λw j=>?_;(go_simp;go_at_call 80;refine x.b.mono ?_;rintro r i ⟨rfl,l⟩;have g:i.heap[a]? = _:=(l.i _ (aj m.b) (by simp)).trans m.b;have y:i.cell? ⟨a,0,none⟩=some (.string ⟨e.toArray⟩):=aR g rfl;have D:i.cell? ⟨a,1,none⟩=some (.int .i64 b.f):=aR g rfl;have E:i.cell? ⟨a,2,none⟩=some (.string ⟨b.text.toArray⟩):=aR g rfl;have F:i.cell? ⟨a,3,none⟩=some (.int .i64 b.m):=aR g rfl;have z:i.cell? ⟨a,4,none⟩=some (.int .i64 b.fin):=aR g rfl;have G:i.cell? ⟨a,5,none⟩=some (.int .i64 b.n):=aR g rfl;have H:i.cell? ⟨a,6,none⟩=some (.int .i64 b.e):=aR g rfl;have J:=cF g;have K:=aj g;have o:=Z (Yp g ((((ah [] d).ae).a l)));clear g l);refine j.out _ _ ?_ (λA=>?_)
 .go_keep
 (try simp only[aK,aL,List.set]);refine bH [11,12] ?_;iterate 2 (refine bO (v:=?_) rfl (by kernel_rfl) (λ_ _ _ h=>h) (by kernel_rfl) (by assumption) ?_ ?_;rotate_left;focus (intro f k;(try dsimp only at k);go_simp;(try with_reducible rfl));(try simp only[aK,aL,List.set]))
 refine bI ?_;refine cP (by kernel_rfl) rfl λw j=>?_;go_simp;refine j.out _ _ ?_;(try simp only[aK,aL,List.set]);go_end0;exact⟨rfl,OJ o.b.1,(((((((o.b.2.l (by simp)).O (p:=⟨a,1,none⟩) (by simp) _).O (p:=⟨a,2,none⟩) (by simp) _).O (p:=⟨a,3,none⟩) (by simp) _).O (p:=⟨a,4,none⟩) (by simp) _).O (p:=⟨a,5,none⟩) (by simp) _).O (p:=⟨a,6,none⟩) (by simp) _)⟩
def hx(b:ee)(a:Int)(c:Nat)(d:List UInt8):Bool:=(a==0)&&((b.f==c)&&(b.text==d))
def xB{g:Int}{o:lN}(j:d.heap[a]? = some (lw e b g c o))(f:Nat)(h:List UInt8) :
  Calls prog 81 #[.pointer (some ⟨a,0,none⟩),.int .i64 f,.string ⟨h.toArray⟩] d λn p=>n=.returned (.bool (hx b g f h))/\p=d:=by
 have r:d.cell? ⟨a,11,none⟩=some (.int .i64 g):=aR j rfl;have q:d.cell? ⟨a,1,none⟩=some (.int .i64 b.f):=aR j rfl;have s:d.cell? ⟨a,2,none⟩=some (.string ⟨b.text.toArray⟩):=aR j rfl;have t:=cF j;have u:=aj j;by_cases k:g=0
 .subst k;by_cases l:b.f=f
  .have i:U (hx b 0 f h=(b.text==h)):=by show _=_;simp[hx,l]
   have m:((b.f:Int)==(f:Int))=true:=by rw[l];simp
   go_in;go_wp2;all_goals
    go_ret
    refine⟨ly ?_,rfl⟩
    rw[i.b]
    try (first|rfl|simp_all)
  .have i:U (hx b 0 f h=false):=by show _=_;simp[hx,l]
   have m:((b.f:Int)==(f:Int))=false:=by rw[Yi];omega
   go_in;go_wp2;go_ret;exact⟨by rw[i.b];rfl,rfl⟩
 .have i:U (hx b g f h=false):=by show _=_;simp[hx,k]
  have m:(g==0)=false:=by rw[Yi];exact k
  go_in;go_wp2;go_ret;exact⟨by rw[i.b];rfl,rfl⟩
end
section
variable {f b:Nat}{h:TypeId}{r q o m l j d0 d1 d2 d3 d4 d5:Value}{k:lN}{d:List UInt8}{c g:World}
def vm{a:Nat}(c:a<=d.length):(cQ d a).fin<=d.length:=by
 have f:=AN c;unfold cQ;cases b:Mar.cd (d.drop (dU d a)) (dU d a)with
 |error e=>simp
 |ok g=>
  have:=xu b;rw[YI]at this;simp only;omega
structure im where
 x:ee
 e:Int
 a:Int
def bZ:ee:=⟨0,[],0,0,0,0⟩
def pX(d:List UInt8)(a:im):im:={ a with x:=cQ d a.x.fin }
def jK(b:im):im:=⟨b.x,(lT b.x b.e b.a).1,(lT b.x b.e b.a).2⟩
def mA(d:List UInt8)(a:im)(b:Nat)(c:List UInt8):im:=if hx a.x a.e b c then pX d a else jK a
def ie(d:List UInt8)(a:im):ee×im:=if a.e≠0 then (bZ,a)else if a.x.f=1 then (a.x,pX d a)else (bZ,jK a)
abbrev lu(d:List UInt8)(b:im)(k:lN):Obj:=lw d b.x b.e b.a k
def zx(f:Nat)(d:List UInt8)(a:im)(k:lN)(v:Value)(c:World)(e:Ending)(b:World):Prop:=e=.returned v/\b.heap[f]? = some (lu d a k)/\ai [f] c b/\a.x.fin<=d.length
def Ef{a:im}(n:c.heap[f]? = some (lu d a k))(s:a.x.fin<=d.length)(t:d.length<=2000)(h:Nat)(i:List UInt8) :
  Calls prog 141 #[.pointer (some ⟨f,0,none⟩),.int .i64 h,.string ⟨i.toArray⟩] c (zx f d (mA d a h i) k (.tuple #[]) c):=by
 have b:=Z (xB n h i);have p:=Z (uq n);have q:=Z (vo n s t);clear n;cases g:hx a.x a.e h i with
 |true=>
  have o:U (mA d a h i=pX d a):=Y9 g;rw[g]at b;clear g p;go_in;go_wp2_with fail;refine b.b.mono ?_;rintro r u ⟨rfl,rfl⟩;go_wp2_with fail;refine q.b.mono ?_;rintro r w ⟨rfl,l,m⟩;have j:=Z (Yp l m);clear l m q b;go_wp2;go_end0;rw[o.b];exact⟨rfl,j.b.1,j.b.2,vm s⟩
 |false=>
  have o:U (mA d a h i=jK a):=Y2 (by rw[g];simp);rw[g]at b;clear g q;go_in;go_wp2_with fail;refine b.b.mono ?_;rintro r u ⟨rfl,rfl⟩;go_wp2_with fail;refine p.b.mono ?_;rintro r w ⟨rfl,l,m⟩;have j:=Z (Yp l m);clear l m p b;go_wp2;refine bodyPost_ret (v:=.tuple #[]) (by simp[results,results141]) rfl ?_;rw[o.b];exact⟨rfl,j.b.1,j.b.2,s⟩
def dX(a:g.heap[b]? = some (.cells #[r,q,o,m,l,j] h)) :
  g.cell? ⟨b,0,none⟩=some r/\g.cell? ⟨b,1,none⟩=some q/\g.cell? ⟨b,2,none⟩=some o/\g.cell? ⟨b,3,none⟩=some m/\g.cell? ⟨b,4,none⟩=some l/\g.cell? ⟨b,5,none⟩=some j/\(∀c,g.frozen? ⟨b,c,none⟩=false)/\b<g.heap.size:=by
 refine⟨?_,?_,?_,?_,?_,?_,?_,aj a⟩<;>simp[World.cell?,World.frozen?,a]
def tK(a:g.heap[b]? = some (.cells #[r,q,o,m,l,j] h)):((((((g.setCell ⟨b,0,none⟩ d0).setCell ⟨b,1,none⟩ d1).setCell ⟨b,2,none⟩ d2).setCell ⟨b,3,none⟩ d3).setCell ⟨b,4,none⟩ d4).setCell ⟨b,5,none⟩ d5).heap[b]? = some (.cells #[d0,d1,d2,d3,d4,d5] h):=by
 have c:(g.setCell ⟨b,0,none⟩ d0).heap[b]? = some (.cells #[d0,q,o,m,l,j] h):=bu (i:=0) a d0;have d:((g.setCell ⟨b,0,none⟩ d0).setCell ⟨b,1,none⟩ d1).heap[b]? = some (.cells #[d0,d1,o,m,l,j] h):=bu (i:=1) c d1;have e:(((g.setCell ⟨b,0,none⟩ d0).setCell ⟨b,1,none⟩ d1).setCell ⟨b,2,none⟩ d2).heap[b]? = some (.cells #[d0,d1,d2,m,l,j] h):=bu (i:=2) d d2;have f:((((g.setCell ⟨b,0,none⟩ d0).setCell ⟨b,1,none⟩ d1).setCell ⟨b,2,none⟩ d2).setCell ⟨b,3,none⟩ d3).heap[b]? = some (.cells #[d0,d1,d2,d3,l,j] h):=bu (i:=3) e d3;have k:(((((g.setCell ⟨b,0,none⟩ d0).setCell ⟨b,1,none⟩ d1).setCell ⟨b,2,none⟩ d2).setCell ⟨b,3,none⟩ d3).setCell ⟨b,4,none⟩ d4).heap[b]? = some (.cells #[d0,d1,d2,d3,d4,j] h):=bu (i:=4) f d4;have n:((((((g.setCell ⟨b,0,none⟩ d0).setCell ⟨b,1,none⟩ d1).setCell ⟨b,2,none⟩ d2).setCell ⟨b,3,none⟩ d3).setCell ⟨b,4,none⟩ d4).setCell ⟨b,5,none⟩ d5).heap[b]? = some (.cells #[d0,d1,d2,d3,d4,d5] h):=bu (i:=5) k d5;exact n
def BW{d:List Nat}(e:ai d c g)(a:c.heap.size<=b):ai d c ((((((g.setCell ⟨b,0,none⟩ d0).setCell ⟨b,1,none⟩ d1).setCell ⟨b,2,none⟩ d2).setCell ⟨b,3,none⟩ d3).setCell ⟨b,4,none⟩ d4).setCell ⟨b,5,none⟩ d5):=
 (((((e.bs (p:=⟨b,0,none⟩) a d0).bs (p:=⟨b,1,none⟩) a d1).bs (p:=⟨b,2,none⟩) a d2).bs (p:=⟨b,3,none⟩) a d3).bs (p:=⟨b,4,none⟩) a d4).bs (p:=⟨b,5,none⟩) a d5
def Cq{d:Obj}(c:g.heap[f]? = some d)(h:f≠b):((((((g.setCell ⟨b,0,none⟩ d0).setCell ⟨b,1,none⟩ d1).setCell ⟨b,2,none⟩ d2).setCell ⟨b,3,none⟩ d3).setCell ⟨b,4,none⟩ d4).setCell ⟨b,5,none⟩ d5).heap[f]? = some d:=by
 have a:=λ(g:World) i e (c:g.heap[f]? = some d)=>(Below.heap_setCell g ⟨b,i,none⟩ e f h).trans c;exact a _ _ _ (a _ _ _ (a _ _ _ (a _ _ _ (a _ _ _ (a _ _ _ c)))))
def Sl{a:im}(y:c.heap[f]? = some (lu d a k))(F:a.x.fin<=d.length)(a4:d.length<=2000) :
  Calls prog 152 #[.pointer (some ⟨f,0,none⟩)] c (zx f d (ie d a).2 k (.agg (dt (ie d a).1)) c):=by
 have a5:=aj y;have H:∀g,ai [] c (c.alloc g):=λg=>(ah [] c).d g;have h:∀g,(c.alloc g).heap[f]? = some (lu d a k):=λg=>(Below.heap_alloc _ _ _ a5).trans y;have q:∀g,(c.alloc g).cell? ⟨f,1,none⟩=some (.int .i64 a.x.f):=λg=>aR (h g) rfl;have o:∀g,(c.alloc g).cell? ⟨f,2,none⟩=some (.string ⟨a.x.text.toArray⟩):=λg=>aR (h g) rfl;have m:∀g,(c.alloc g).cell? ⟨f,3,none⟩=some (.int .i64 a.x.m):=λg=>aR (h g) rfl;have l:∀g,(c.alloc g).cell? ⟨f,4,none⟩=some (.int .i64 a.x.fin):=λg=>aR (h g) rfl;have j:∀g,(c.alloc g).cell? ⟨f,5,none⟩=some (.int .i64 a.x.n):=λg=>aR (h g) rfl;have c5:∀g,(c.alloc g).cell? ⟨f,6,none⟩=some (.int .i64 a.x.e):=λg=>aR (h g) rfl;have c4:∀g,(c.alloc g).cell? ⟨f,11,none⟩=some (.int .i64 a.e):=λg=>aR (h g) rfl;have S:=Z h;by_cases p:a.e=0
 .have a2:(a.e != 0)=false:=by rw[p];rfl
  by_cases A:a.x.f=1
  .have t:U (ie d a=(a.x,pX d a)):=by show _=_;unfold ie;rw[Y2 (by simpa using p),Y9 A]
   have a3:((a.x.f:Int) != 1)=false:=by rw[A];rfl
   have R:=Z (λ(B I:Obj)=>vo ((Below.heap_alloc (c.alloc B) I _ (by simp;omega)).trans (h B)) F a4);clear y h p A;go_in;go_wp2_with fail;refine(R.b _ _).mono ?_;rintro a1 s ⟨rfl,z,i⟩;have r:s.heap[c.heap.size]? = some (.cells #[.int .i64 0,.string ⟨#[]⟩,.int .i64 0,.int .i64 0,.int .i64 0,.int .i64 0] 112):=(i.i _ (by simp;omega) (by simp;omega)).trans ((Below.heap_alloc _ _ _ (by simp)).trans (aJ rfl));have w:s.heap[c.heap.size+1]? = some (.cells (dt a.x) 112):=(i.i _ (by simp) (by simp;omega)).trans (aJ (by simp));obtain⟨a6,a7,a8,a9,b0,b1,b2,b3⟩:=dX r;obtain⟨b4,b5,b6,b7,b8,b9,c0,c1⟩:=dX w;have G:=Z r;have u:=Z (Yp z (((((H _).l (by simp)).a ((ah [f] _).d _)).a i)));clear z i r w R;go_wp2;have E:=tK (d0:=.int .i64 a.x.f) (d1:=.string ⟨a.x.text.toArray⟩) (d2:=.int .i64 a.x.m) (d3:=.int .i64 a.x.fin) (d4:=.int .i64 a.x.n) (d5:=.int .i64 a.x.e) G.b;have D:=Cq (d0:=.int .i64 a.x.f) (d1:=.string ⟨a.x.text.toArray⟩) (d2:=.int .i64 a.x.m) (d3:=.int .i64 a.x.fin) (d4:=.int .i64 a.x.n) (d5:=.int .i64 a.x.e) u.b.1 (show f≠c.heap.size by omega);have C:=BW (b:=c.heap.size) (d0:=.int .i64 a.x.f) (d1:=.string ⟨a.x.text.toArray⟩) (d2:=.int .i64 a.x.m) (d3:=.int .i64 a.x.fin) (d4:=.int .i64 a.x.n) (d5:=.int .i64 a.x.e) u.b.2 (Y4 _);generalize ((((((s.setCell ⟨c.heap.size,0,none⟩ (.int .i64 a.x.f)).setCell ⟨c.heap.size,1,none⟩ (.string ⟨a.x.text.toArray⟩)).setCell ⟨c.heap.size,2,none⟩ (.int .i64 a.x.m)).setCell ⟨c.heap.size,3,none⟩ (.int .i64 a.x.fin)).setCell ⟨c.heap.size,4,none⟩ (.int .i64 a.x.n)).setCell ⟨c.heap.size,5,none⟩ (.int .i64 a.x.e))=a0 at E D C ⊢;obtain⟨J,K,L,M,N,O,c2,c3⟩:=dX E;refine bodyPost_ret (v:=.agg (dt a.x)) (by simp[results,results152,go_sem,J,K,L,M,N,O,bZ]) rfl ?_;rw[t.b];exact⟨rfl,D,C,vm F⟩
  .have t:U (ie d a=(bZ,jK a)):=by show _=_;unfold ie;rw[Y2 (by simpa using p),Y2 A]
   have a3:((a.x.f:Int) != 1)=true:=by simp;omega
   have P:=Z (λ(B I:Obj)=>uq ((Below.heap_alloc (c.alloc B) I _ (by simp;omega)).trans (h B)));clear y h p A;go_in;go_wp2_with fail;refine(P.b _ _).mono ?_;rintro a1 s ⟨rfl,z,i⟩;have r:s.heap[c.heap.size]? = some (.cells #[.int .i64 0,.string ⟨#[]⟩,.int .i64 0,.int .i64 0,.int .i64 0,.int .i64 0] 112):=(i.i _ (by simp;omega) (by simp;omega)).trans ((Below.heap_alloc _ _ _ (by simp)).trans (aJ rfl));have w:s.heap[c.heap.size+1]? = some (.cells (dt a.x) 112):=(i.i _ (by simp) (by simp;omega)).trans (aJ (by simp));obtain⟨a6,a7,a8,a9,b0,b1,b2,b3⟩:=dX r;obtain⟨b4,b5,b6,b7,b8,b9,c0,c1⟩:=dX w;have G:=Z r;have u:=Z (Yp z (((((H _).l (by simp)).a ((ah [f] _).d _)).a i)));clear z i r w P;go_wp2;have E:=tK (d0:=.int .i64 0) (d1:=.string ⟨#[]⟩) (d2:=.int .i64 0) (d3:=.int .i64 0) (d4:=.int .i64 0) (d5:=.int .i64 0) G.b;have D:=Cq (d0:=.int .i64 0) (d1:=.string ⟨#[]⟩) (d2:=.int .i64 0) (d3:=.int .i64 0) (d4:=.int .i64 0) (d5:=.int .i64 0) u.b.1 (show f≠c.heap.size by omega);have C:=BW (b:=c.heap.size) (d0:=.int .i64 0) (d1:=.string ⟨#[]⟩) (d2:=.int .i64 0) (d3:=.int .i64 0) (d4:=.int .i64 0) (d5:=.int .i64 0) u.b.2 (Y4 _);generalize ((((((s.setCell ⟨c.heap.size,0,none⟩ (.int .i64 0)).setCell ⟨c.heap.size,1,none⟩ (.string ⟨#[]⟩)).setCell ⟨c.heap.size,2,none⟩ (.int .i64 0)).setCell ⟨c.heap.size,3,none⟩ (.int .i64 0)).setCell ⟨c.heap.size,4,none⟩ (.int .i64 0)).setCell ⟨c.heap.size,5,none⟩ (.int .i64 0))=a0 at E D C ⊢;obtain⟨J,K,L,M,N,O,c2,c3⟩:=dX E;refine bodyPost_ret (v:=.agg (dt bZ)) (by simp[results,results152,go_sem,J,K,L,M,N,O,bZ]) rfl ?_;rw[t.b];exact⟨rfl,D,C,F⟩
 .have t:U (ie d a=(bZ,a)):=by show _=_;unfold ie;rw[Y9 p]
  have a2:(a.e != 0)=true:=by simpa using p
  clear y h p;go_in;go_wp2;refine bodyPost_ret (v:=.agg (dt bZ)) (by simp[results,results152,go_sem,bZ]) rfl ?_;rw[t.b];exact⟨rfl,S.b _,(H _).l (by simp),F⟩
end
section
variable {a:List (List UInt8)}{b:World}
def pf(b:World)(v:Value)(d g:Nat)(f:Nat->Value):Prop:=∃ad e,v=.slice ad d e/\∀a,a<d->∃c,ad=some ⟨c,0,none⟩/\b.cell? ⟨c,a*g,none⟩=some (f a)
def sY{v:Value}{a:List Int}(l:pf b v a.length 1 λi=>.int .i64 (a.getD i 0))(D:a.length<=1000000000)(d:Int) :
  Calls prog 149 #[v,.int .i64 d] b λq x=>q=.returned (.bool (a.contains d))/\x=b:=by
 obtain⟨ad,y,rfl,l⟩:=l;have p:=Z l;go_in;go_wp2;go_loopw [5] (λi w=>∃c:Nat,i=.int .i64 c/\c<=a.length/\U (∀f∈a.take c,f≠d)/\w=b) (λi _=>a.length-(intOf i).toNat)
 case atStart=>exact⟨0,rfl,by omega,(by intro f e;simp at e),rfl⟩
 case round=>
  obtain⟨c,rfl,B,m,rfl⟩:=hrel;rcases Yj c a.length with h|A
  .obtain⟨z,rfl,u⟩:=p.b c h;rw[Nat.mul_one,show a.getD c 0=a[c] by simp[h]]at u;have C:(0:Int)<=↑c:=by omega
   have s:(↑c:Int) < ↑a.length:=by omega
   by_cases j:a[c]=d
   .have r:(a[c]==d)=true:=by simp[j]
    have k:U (a.contains d=true):=by show _=_;simp;rw[<-j];exact Yy h
    go_wp2;go_ret;exact⟨by rw[k.b];rfl,rfl⟩
   .have r:(a[c]==d)=false:=by simpa using j
    have o:U (∀f∈a.take (c+1),f≠d):=by
     intro f e;rw[Yt h,Yn]at e;rcases e with e|e
     .exact m.b f e
     .simp at e;rw[e];exact j
    go_wp2;exact⟨⟨c+1,by go_num,h,o,trivial⟩,by simp[intOf];omega⟩
  .have t:c=a.length:=by omega
   subst t;have k:U (a.contains d=false):=by
    have:=m.b;rw[YG]at this;show _=_;simp;intro g;exact this d g rfl
   have s:¬((a.length:Int)<(a.length:Int)):=by omega
   have g:d ∉ a:=by have:=k.b;simpa using this
   have n:=Z g;go_wp2;go_ret;refine⟨ly ?_,rfl⟩;have g:=n.b;simp[g]
def IC{v:Value}(l:pf b v a.length 1 λi=>.string ⟨(a.getD i []).toArray⟩)(D:a.length<=1000000000)(d:List UInt8) :
  Calls prog 257 #[v,.string ⟨d.toArray⟩] b λr w=>r=.returned (.bool (a.contains d))/\w=b:=by
 obtain⟨ad,x,rfl,l⟩:=l;have q:=Z l;go_in;go_wp2;go_loopw [5] (λi u=>∃c:Nat,i=.int .i64 c/\c<=a.length/\U (∀f∈a.take c,f≠d)/\u=b) (λi _=>a.length-(intOf i).toNat)
 case atStart=>exact⟨0,rfl,by omega,(by intro f e;simp at e),rfl⟩
 case round=>
  obtain⟨c,rfl,B,m,rfl⟩:=hrel;rcases Yj c a.length with h|A
  .obtain⟨y,rfl,n⟩:=q.b c h;rw[Nat.mul_one,show a.getD c []=a[c] by simp[h]]at n;have C:(0:Int)<=↑c:=by omega
   have s:(↑c:Int) < ↑a.length:=by omega
   by_cases j:a[c]=d
   .have k:U (a.contains d=true):=by show _=_;simp;rw[<-j];exact Yy h
    rw[j]at n;go_wp2;go_ret;exact⟨by rw[k.b];rfl,rfl⟩
   .have p:U (∀f∈a.take (c+1),f≠d):=by
     intro f e;rw[Yt h,Yn]at e;rcases e with e|e
     .exact m.b f e
     .simp at e;rw[e];exact j
    have z:(a[c]==d)=false:=by simpa using j
    generalize a[c]=E at *
    go_wp2;exact⟨⟨c+1,by go_num,h,p,trivial⟩,by simp[intOf];omega⟩
  .have t:c=a.length:=by omega
   subst t;have k:U (a.contains d=false):=by
    have:=m.b;rw[YG]at this;show _=_;simp;intro g;exact this d g rfl
   have s:¬((a.length:Int)<(a.length:Int)):=by omega
   have g:d ∉ a:=by have:=k.b;simpa using this
   have o:=Z g;go_wp2;go_ret;refine⟨ly ?_,rfl⟩;have g:=o.b;simp[g]
def lb(a:List (List UInt8))(b:List UInt8):Int:=if a.contains b then (a.idxOf b:Int)else -1
def Ia{v:Value}(n:pf b v a.length 4 λi=>.string ⟨(a.getD i []).toArray⟩)(E:a.length<=1000000000)(d:List UInt8) :
  Calls prog 90 #[v,.string ⟨d.toArray⟩] b λk x=>k=.returned (.int .i64 (lb a d))/\x=b:=by
 obtain⟨ad,y,rfl,n⟩:=n;have q:=Z n;go_in;go_wp2;go_loopw [5] (λi w=>∃c:Nat,i=.int .i64 c/\c<=a.length/\U (∀g∈a.take c,g≠d)/\w=b) (λi _=>a.length-(intOf i).toNat)
 case atStart=>exact⟨0,rfl,by omega,(by intro g e;simp at e),rfl⟩
 case round=>
  obtain⟨c,rfl,C,j,rfl⟩:=hrel;rcases Yj c a.length with f|B
  .obtain⟨z,rfl,o⟩:=q.b c f;rw[show a.getD c []=a[c] by simp[f]]at o;have D:(0:Int)<=↑c:=by omega
   have s:(↑c:Int) < ↑a.length:=by omega
   by_cases h:a[c]=d
   .have m:U (lb a d=c):=by
     show _=_;have r:a.contains d=true:=by simp;rw[<-h];exact Yy f
     unfold lb;rw[Y9 r];congr 1;have k:a=a.take c++d::a.drop (c+1):=by
      rw[<-h,<-Yk f,List.take_append_drop]
     rw[k,List.idxOf_append];have u:d ∉ a.take c:=λl=>j.b d l rfl;rw[Y2 u];simp;omega
    rw[h]at o;go_wp2;go_ret;exact⟨by rw[m.b];rfl,rfl⟩
   .have p:U (∀g∈a.take (c+1),g≠d):=by
     intro g e;rw[Yt f,Yn]at e;rcases e with e|e
     .exact j.b g e
     .simp at e;rw[e];exact h
    have A:(a[c]==d)=false:=by simpa using h
    generalize a[c]=F at *
    go_wp2;exact⟨⟨c+1,by go_num,f,p,trivial⟩,by simp[intOf];omega⟩
  .have t:c=a.length:=by omega
   subst t;have m:U (lb a d = -1):=by
    have:=j.b;rw[YG]at this;show _=_;unfold lb;rw[Y2];simp;intro l;exact this d l rfl
   have s:¬((a.length:Int)<(a.length:Int)):=by omega
   go_wp2;go_ret;exact⟨by rw[m.b];rfl,rfl⟩
end
end Go.Proofs.YtjdhaegijjednaaGreatDoor
namespace Go.Proofs.YtjdhaegijjednaaGreatDoor
open Go.RowKit
open Go.Lib (decDigits)
open Go.Proofs.Tryz
def sL{a:Nat}(b:a<10):decDigits a=[UInt8.ofNat (48+a)]:=by rw[Lib.decDigits,dif_pos b]
def Aj{a:Nat}(b:¬a<10):decDigits a=decDigits (a / 10)++decDigits (a % 10):=by
 rw[Lib.decDigits,dif_neg b,sL (Nat.mod_lt a (by omega))]
def sM:∀(b a:Nat),a<10 ^ (b+1)->(decDigits a).length<=b+1:=by
 intro b;induction b with
 |zero=>intro a c;rw[sL (by omega)];simp
 |succ b e=>
  intro a c;by_cases d:a<10
  .rw[sL d];simp
  .rw[Aj d,Yq,sL (Nat.mod_lt a (by omega))];have:=e (a / 10) (by rw[Nat.pow_succ]at c;omega);simp;omega
def hQ(a b:List UInt8):(⟨a.toArray⟩:ByteArray)++(⟨b.toArray⟩:ByteArray)=⟨(a++b).toArray⟩:=by
 apply ByteArray.ext;simp[ByteArray.data_append]
def Aq:∀(a:Nat),a<=10000000000->∀(b:World),Calls prog 144 #[.int .i64 a] b λd s=>d=.returned (.string ⟨(decDigits a).toArray⟩)/\ai [] b s:=by
 intro a;induction a using Nat.strongRecOn with
 |_ a g=>
  intro A b;have D:¬((a:Int)<0):=by omega
  by_cases e:a<10
  .have c:U (decDigits a=[UInt8.ofNat (48+a)]):=sL e;have r:¬((9:Int)<(a:Int)):=by omega
   have x:IntKind.u8.wrap (48+(a:Int))=48+(a:Int):=by rw[IntKind.wrap_u8];omega
   have m:U (∀b:World,(convert 97 9 (.slice (some ⟨b.heap.size,0,none⟩) 1 1)).run prog (b.alloc (.cells #[.int .u8 (48+(a:Int))] 5))=.ok (.string ⟨#[UInt8.ofNat (48+a)]⟩) (b.alloc (.cells #[.int .u8 (48+(a:Int))] 5))):=by
    intro b;refine run_convert_bytes_back (b.alloc _) 97 9 5 ⟨b.heap.size,0,none⟩ 1 [UInt8.ofNat (48+a)] underlying97 underlying5 underlying9 λo f=>?_;have n:o=0:=by simp at f;omega
    subst n;have l:(⟨b.heap.size,0,none⟩:Addr).add 0=⟨b.heap.size,0,none⟩:=by unfold Addr.add;split<;>simp_all
    rw[l,aR (aJ rfl) rfl];simp;omega
   have y:=m.b b;go_in;go_wp2;go_ret;refine⟨?_,(ah _ _).d _⟩;rw[c.b];simp
  .have c:U (decDigits a=decDigits (a / 10)++decDigits (a % 10)):=Aj e;have j:=Z (g (a / 10) (by omega) (by omega));have k:=Z (g (a % 10) (by omega) (by omega));have r:(9:Int)<(a:Int):=by omega
   have v:(a:Int).tdiv 10=((a / 10:Nat):Int):=by
    rw[Int.tdiv_eq_ediv_of_nonneg (by omega)];rfl
   have w:(a:Int).tmod 10=((a % 10:Nat):Int):=by
    rw[Int.tmod_eq_emod_of_nonneg (by omega)];rfl
   have B:=sM 10 (a / 10) (by omega);have C:=sM 10 (a % 10) (by omega);have z:¬(9223372036854775807<(decDigits (a / 10)).length+(decDigits (a % 10)).length):=by omega
   have f:=hQ (decDigits (a / 10)) (decDigits (a % 10));generalize decDigits (a / 10)=t at *
   generalize decDigits (a % 10)=u at *
   go_in;go_wp2_with fail;refine(j.b _).mono ?_;rintro d E ⟨rfl,p⟩;have h:=Z p;go_wp2_with fail;refine(k.b _).mono ?_;rintro d F ⟨rfl,q⟩;have i:=Z (h.b.a q);go_wp2;go_ret;exact⟨by rw[c.b];rfl,i.b⟩
def jo(b:Int)(m:-10000000000<=b)(n:b<=10000000000)(d:World):Calls prog 144 #[.int .i64 b] d λe k=>e=.returned (.string ⟨(Lib.itoa b).toArray⟩)/\ai [] d k:=by
 by_cases f:b<0
 .obtain⟨a,rfl⟩:∃a:Nat,b = -(a:Int):=⟨b.natAbs,by omega⟩;have c:U (Lib.itoa (-(a:Int))=45::decDigits a):=by
   show _=_;unfold Lib.itoa;rw[Y9 f,Int.natAbs_neg,Int.natAbs_natCast]
  have i:=Z (Aq a (by omega));have l:IntKind.i64.wrap (a:Int)=a:=by rw[IntKind.wrap_i64];omega
  have q:=sM 10 a (by omega);have o:=hQ [45] (decDigits a);generalize decDigits a=g at *
  go_in;go_wp2_with fail;refine(i.b _).mono ?_;rintro e r ⟨rfl,j⟩;have h:=Z j;have p:¬(9223372036854775807<1+g.length):=by omega
  go_wp2;go_ret;exact⟨by rw[c.b];rfl,h.b⟩
 .obtain⟨a,rfl⟩:∃a:Nat,b=(a:Int):=⟨b.toNat,by omega⟩;have c:Lib.itoa (a:Int)=decDigits a:=by
   unfold Lib.itoa;rw[Y2 f,Int.toNat_natCast]
  rw[c];exact Aq a (by omega) d
end Go.Proofs.YtjdhaegijjednaaGreatDoor
namespace Go.Proofs.YtjdhaegijjednaaGreatDoor
open Go.RowKit
open Go.MapKept
open Go.Proofs.Tryz
section
variable {c:Ad}{h:List Nat}{a:dE}{b:List aF}{g:List UInt8×Nat}{i:Value}{t:List (List UInt8)}{d e:World}{f j:St}
def IQ:(prog.info? 242).map (λa=>(a.zero,a.size,a.bytes))=some (some (.agg #[.string ⟨#[]⟩,.int .i64 0,.nilIface]),3,40):=by kernel_rfl
def iY(c:ByteArray)(a:dE):PX (List aF×List (List UInt8)) Unit:=λb f=>match dY c (aS a.q a.bx) b.2 f with
 |.ok (d,g,h)=>av (lift (bU c [59])) (λ_=>cG ()) (b.1++[d],g) h
 |.error e=>.error e
def vY{c:ByteArray}{e:List (List UInt8)}{g:St}{d:aF}(h:dY c (aS a.q a.bx) t f=.ok (d,e,g)) :
  iY c a (b,t) f=av (lift (bU c [59])) (λ_=>cG ()) (b++[d],e) g:=by simp only[iY,h]
def yK{d:ByteArray}{c:Mar.M}(e:dY d (aS a.q a.bx) t f=.error c):iY d a (b,t) f=.error c:=by simp only[iY,e]
def vX(c:Ad)(k:ByteArray)(e:World)(a:dE)(g:List UInt8×Nat)(j:Nat)(h:List Nat)(b:List aF×List (List UInt8))(f:St)(d:World):Prop:=b.1.length=j/\∃i,jH c k e a g b.1 h b.2 i f d
def jH.ck{m:ByteArray}(l:jH c m e a g b h t i f d):∃ad j,i=.slice ad b.length j:=by
 rcases l.row.2 with⟨rfl,k⟩|⟨o,j,n,rfl,_⟩
 .exact⟨none,0,by rw[k]⟩
 .exact⟨_,_,rfl⟩
def jH.aZ{m:ByteArray}(n:Rd c m j e)(l:jH c m e a g b h t i f d):cT (c.v h) a.q:=by
 obtain⟨p,r,s,u⟩:=n.K;have k:=l.C a.q (by simp[dE.bk]);have o:=l.E _ k;refine⟨Yf _ k,?_,?_,?_,?_⟩<;>simp only[Ad.v]<;>omega
def bL{a:Nat}{b:Value}{c:TypeId}(d:e.heap[a]? = some (.cells #[b] c)):e.cell? ⟨a,0,none⟩=some b:=by simp[World.cell?,d]
def Co(a:aF):∀d∈hk a,d.oneCell'=true:=by
 intro d b;simp only[Yg,List.not_mem_nil,or_false]at b;rcases b with rfl|rfl|rfl
 .rfl
 .rfl
 .cases a.k<;>rfl
def Qo{J:ByteArray}{b2:Nat}(F:Rd c J j e)(h1:b2<1000)(m:vX c J e a g b2 h (b,t) f d) :
  Calls prog 196 #[.pointer (some ⟨a.db,0,none⟩),.pointer (some ⟨a.rb,0,none⟩),.pointer (some ⟨a.cb,0,none⟩)] d (jE c e (vX c J e a g (b2+1)) (iY J a (b,t) f)):=by
 obtain⟨b0,i,k⟩:=m;dsimp only at b0 k;have d2:=Z b0;have g9:b.length<1000:=by omega
 clear b0;obtain⟨ad,w,rfl⟩:=k.ck;obtain⟨f3,e3,e9,f0,f1⟩:=info_parts IQ;have y:=Z k;obtain⟨h5,h6,h7,h0⟩:=dS k.I;have j1:=bL k.vr;have j0:=bL k.vd;have f7:=bL k.vc;have a4:Below d.heap.size d d.drew:=(Below.refl _ _).drew;have d1:=Z (Am (cC c h) (wZ (k.aZ F)) (k.rd.t a4) (show (aS a.q a.bx).I t d.drew from k.aH.h (br [] a4) (by simp)) (k.cl.h (br [] a4) (by simp)));have e8:=k.H;simp only[dE.bk,List.nodup_cons,Yg,List.not_mem_nil,or_false,not_or]at e8;have i8:a.rb≠a.D:=by omega
 have i7:a.db≠a.D:=by omega
 have i6:a.cb≠a.D:=by omega
 have a1:∀l,ai [c.S,a.q] d.drew l->(∀u,(l.alloc u).ownsRow e.heap.size 242 3 (.slice ad b.length w) b.length (b.flatMap hk))/\
   l.heap[a.D]? = some (.cells #[.string ⟨g.1.toArray⟩,.int .i64 g.2,.slice ad b.length w] 353)/\e.heap.size<=l.heap.size/\
   l.heap[a.rb]? = some (.cells #[.pointer (some ⟨c.R,0,none⟩)] 145)/\l.heap[a.db]? = some (.cells #[.pointer (some ⟨a.D,0,none⟩)] 229)/\l.heap[a.cb]? = some (.cells #[(aS a.q a.bx).v] 341):=by
  intro l p;have x:=((ah _ d).ae).a p;obtain⟨h8,h9,i0,i1⟩:=F.K;have E:∀o∈a.bk,o≠a.q->o ∉ [c.S,a.q]:=λo a2 h3=>by have:=k.E _ (k.C o a2);simp;omega
  refine⟨λu=>aX (aX k.row x ?_) ((ah [] l).d u) (by simp),(x.i _ (aj k.I) (E _ (by simp[dE.bk]) (by omega))).trans k.I,Yz k.B.F x.F,
   (x.i _ (aj k.vr) (E _ (by simp[dE.bk]) (by omega))).trans k.vr,(x.i _ (aj k.vd) (E _ (by simp[dE.bk]) (by omega))).trans k.vd,(x.i _ (aj k.vc) (E _ (by simp[dE.bk]) (by omega))).trans k.vc⟩
  intro B a7;have b9:=k.G B a7;have g7:=k.E _ b9.1;have g8:B≠a.q:=λA=>b9.2 (by rw[A];simp[dE.bk]);simp;omega
 have c9:=Z a1;have c1:∀l u r,ai [c.S,a.q] d.drew l->(l.alloc u).grownBy r (Value.slice ad b.length w).ownBlock->r.heap[a.D]? = some (.cells #[.string ⟨g.1.toArray⟩,.int .i64 g.2,.slice ad b.length w] 353)/\
   r.heap[a.rb]? = some (.cells #[.pointer (some ⟨c.R,0,none⟩)] 145)/\r.heap[a.db]? = some (.cells #[.pointer (some ⟨a.D,0,none⟩)] 229)/\r.heap[a.cb]? = some (.cells #[(aS a.q a.bx).v] 341):=by
  intro l u r p a7;obtain⟨_,d7,_,d8,d9,e0⟩:=a1 l p;have H:∀o∈a.bk,∀b3,l.heap[o]? = some b3->r.heap[o]? = some b3:=λo a2 b3 m=>by
   have e4:=aj m;exact(a7.block _ (by simp;omega) (λA=>(k.G _ A.symm).2 a2)).trans ((((ah [] l).d u).i _ e4 (by simp)).trans m)
  exact⟨H _ (by simp[dE.bk]) _ d7,H _ (by simp[dE.bk]) _ d8,H _ (by simp[dE.bk]) _ d9,H _ (by simp[dE.bk]) _ e0⟩
 have d0:=Z c1;have e5:b.length+1<=maxLen:=by unfold maxLen;omega
 have e6:(b.length+1)*40<=140737488355328:=by omega
 have f2:(Value.agg #[.string ⟨#[]⟩,.int .i64 0,.nilIface]).cells.size=3:=by decide
 clear k a1 c1;dsimp only[cM.v,aS]at f7;go_in;go_wp2_with fail;refine cR (λK=>K.cell? ⟨a.db,0,none⟩=some (.pointer (some ⟨a.D,0,none⟩))/\K.cell? ⟨a.rb,0,none⟩=some (.pointer (some ⟨c.R,0,none⟩))/\K.cell? ⟨a.cb,0,none⟩=some (.func (.func 251) #[] #[.pointer (some ⟨a.bx,0,none⟩)])/\K.cell? ⟨a.D,2,none⟩=some (.slice ad b.length w)) (L:=12) (by kernel_rfl) rfl (by kernel_rfl) (by kernel_rfl) ?_ (λP=>?_)
 .go_keep
 refine bH [0,1,2,3,4,5,6] ?_;iterate 7 (refine bO (v:=?_) rfl (by kernel_rfl) (λ_ _ _ m=>m) (by rfl) (by assumption) ?_ ?_;rotate_left;focus (intro e a0;(try dsimp only at a0);go_simp;(try with_reducible rfl));(try simp only[aK,aL,List.set]))
 refine bI ?_;refine cj 7 (by kernel_rfl) rfl λs n=>?_;(go_simp;go_at_call 191;refine d1.b.mono ?_;rintro A l ⟨p,⟨C,f6,j4,G,rfl,c7,c4⟩|⟨d6,G,o,a3,rfl,a6⟩⟩;rotate_left;exact aq (lH ((y.b.B.ba (((ah _ d).ae).a p) (by intro i5 k;simp[aS]at k ⊢;rcases k with m|m;exact Y8 (Ya (Y8 m));exact Ya (by have:=y.b.E _ (y.b.C a.q (by simp[dE.bk]));omega)))) y.b.B (yK G) a3 a6);obtain⟨c5,a5,h4,O,N,M⟩:=c9.b l p;obtain⟨f8,f9,g0,e1⟩:=dS a5;have e7:=aj a5;have h2:=Nat.ne_of_lt e7;have f4:=bL O;have d4:=bL N;have b7:=bL M;dsimp only[cM.v,aS]at b7;have i4:=aj O;have i3:=aj N;have i2:=aj M;dsimp only[iN]);refine n.out _ _ ?_ (λP=>?_)
 .go_keep
 clear n s;(try simp only[aK,aL,List.set]);refine cj 8 (by kernel_rfl) rfl λs n=>?_;go_simp;refine n.out _ _ ?_ (λP=>?_)
 .go_keep
 clear n s;(try simp only[aK,aL,List.set]);refine cj 9 (by kernel_rfl) rfl λs n=>?_;(refine step_append_lies _ (by rfl) _ _ _ (by rfl) e.heap.size 242 f3 _ 3 40 underlying351 e3 e9 f0 f1 f2 (by omega) (.slice ad b.length w) b.length (b.flatMap hk) (by rfl) (c5 _) ⟨l.heap.size,0,none⟩ 1 1 (hk C) (by rfl) (by rfl) (World.news_of_block (cs:=(hk C).toArray) (t:=242) (fr:=(0,0)) (heap_alloc_new l _)) (Co C) (by omega) e5 e6 (by simp;omega) (l.heap.size+1) (by simp) ?_;intro B g6 r c6 a8 c0 c3;obtain⟨c2,b6,b5,b4⟩:=d0.b l _ r p a8;obtain⟨g1,g2,g3,e2⟩:=dS c2;have f5:=bL b6;have d5:=bL b5;have b8:=bL b4;dsimp only[cM.v,aS]at b8);refine n.out _ _ ?_ (λP=>?_)
 .go_keep
 clear n s;(try simp only[aK,aL,List.set]);refine bH [10,11] ?_;iterate 2 (refine bO (v:=?_) rfl (by kernel_rfl) (λ_ _ _ m=>m) (by rfl) (by assumption) ?_ ?_;rotate_left;focus (intro e a0;(try dsimp only at a0);go_simp;(try with_reducible rfl));(try simp only[aK,aL,List.set]))
 refine bI ?_;refine cP (by kernel_rfl) rfl λs n=>?_;go_simp;refine n.out _ _ ?_;clear n s;(try simp only[aK,aL,List.set]);have z:=Z (Fl F y.b (((ah _ d).ae).a p) c7 c4 ((Below.refl l.heap.size l).alloc (Y4 _) _) c6 a8 (by simpa using c0) c3);have i9:=bL z.b.vr;clear p c7 c4 c6 a8 c0 c3 c2 b6 b5 b4 g1 g2 g3 e2 f5 d5 b8 a5 O N M f8 f9 g0 e1 c5 f4 d4 b7;go_wp2_with fail;refine(ff (cC c (B::h)) _ z.b.rd).mono ?_;rintro A j2 ⟨a9,⟨j3,g4,b1,rfl,c8⟩|⟨d6,b1,g5,a3,rfl,a6⟩⟩;rotate_left
 .exact aq (lH (z.b.B.a (a9.l (by simp))) z.b.B ((vY G).trans (bl (ci b1))) a3 a6)
 have d3:=Z (z.b.bd F a9 c8);clear a9 c8;go_wp2;go_end0;exact Y8 ⟨B::h,(b++[C],f6),g4,(vY G).trans (aE (aW b1)),rfl,by simp[d2.b],_,d3.b⟩
end
section
variable {a d:Ad}{w:World}{b e:St}{c:Type}
def JD:∀a:List aF,(a.flatMap hk).length=a.length*3:=by
 intro a;induction a with
 |nil=>rfl
 |cons c a b=>simp only[YD,Yq,YC,b];simp;omega
def jH.fin{l:ByteArray}{m:World}{d:dE}{c:List UInt8×Nat}{h:List aF}{u:List Nat}{E:List (List UInt8)}{t:Value}(k:Rd a l e w)(g:jH a l w d c h u E t b m)(I:h.length<=12)
  {s:Except Mar.M (ao×St)} (r:s=.ok (.struct c.1 c.2 h,b)):fV [a.R,a.S,a.N] a l w s (.returned (.pointer (some ⟨d.D,0,none⟩))) m:=by
 have p:∀i,w.heap.size<=i->i ∉ a.X:=λi F B=>by have:=k.al _ B;omega
 have q:m.heap[d.D]? = some (.cells #[.string ⟨c.1.toArray⟩,.int .i64 c.2,t] 353)/\d.D ∉ a.X:=⟨g.I,p _ (g.E _ (g.C _ (by simp[dE.bk])))⟩;refine⟨g.B,Y8 ⟨.struct c.1 c.2 h,b,d.D,?_⟩⟩;rcases g.row.2 with⟨rfl,v⟩|⟨j,n,o,rfl,x,y,z,G,H,A⟩
 .have:h=[]:=Yv.1 v;subst this;refine⟨[(d.D,.cells #[.string ⟨c.1.toArray⟩,.int .i64 c.2,.slice none 0 0] 353)],r,rfl,jk k.C g.rd,⟨.slice none 0 0,Yb,Y8 ⟨rfl,rfl,rfl⟩⟩,?_⟩;intro C f;simp only[Yc]at f;subst f;exact q
 .refine⟨[(d.D,.cells #[.string ⟨c.1.toArray⟩,.int .i64 c.2,.slice (some ⟨j,0,none⟩) h.length n] 353),(j,.cells o 242)],r,rfl,jk k.C g.rd,⟨_,Yb,Ya ⟨j,n,o,rfl,⟨z,by omega⟩,by simp,?_⟩⟩,?_⟩
  .rw[JD];exact A
  .intro C f;rcases Yg.1 f with rfl|f
   .exact q
   .simp only[Yc]at f;subst f;exact⟨y,p _ x⟩
def Qp(args:Array Value)(a:World):(callFunc 196 args).run prog a=.ok (.enter 196 args) a:=by
 kernel_rfl
def Pz{g:ByteArray}(i:Rd a g e w)(c:dE)(l:List UInt8×Nat):uh (List aF×List (List UInt8)) a g w 12 where
 f:=196
 i1:=#[.pointer (some ⟨c.db,0,none⟩),.pointer (some ⟨c.rb,0,none⟩),.pointer (some ⟨c.cb,0,none⟩)]
 af:=iY g c
 J:=vX a g w c l
 e0:=Qp
 rd:=by rintro _ _ _ _ _ ⟨_,_,d⟩;exact d.rd
 B:=by rintro _ _ _ _ _ ⟨_,_,d⟩;exact d.B
 bd:=by rintro _ _ _ _ _ _ _ ⟨h,m,d⟩ j k;exact⟨h,m,d.bd i j k⟩
 call:=by
  intro o n p b q j h
  exact Qo i (by omega) h
def hZ(d:PX c Unit)(e:c):PM c:=λb=>match d e b with
 |.ok (_,f,g)=>.ok (f,g)
 |.error a=>.error a
def oC{a:PX c Unit}{d e:c}{f:St}(g:a d b=.ok ((),e,f)):hZ a d b=.ok (e,f):=by simp only[hZ,g]
def tI{d:PX c Unit}{e:c}{a:Mar.M}(f:d e b=.error a):hZ d e b=.error a:=by simp only[hZ,f]
def iZ(a:ByteArray)(c:Nat):PM ao:=au (iy c) λ_=>au (gp a) λb=>au (hZ (eu a 12 (iY a ⟨0,0,0,0,0,0⟩)) ([],[])) λd=>au (bU a [59]) λ_=>bS (.struct b.1 b.2 d.1)
def LH(g:eF d a){e:ByteArray}(c:Nat)(f:Rd d e b w) :
  Calls prog 190 #[.pointer (some ⟨a.R,0,none⟩),.int .i64 c] w (dC [a.R] d e w (iy c b) oM):=by
 have:=vj c f;rw[g.1]at this;exact this
def BQ(c:eF d a){e:ByteArray}(f:Rd d e b w) :
  Calls prog 185 #[.pointer (some ⟨a.R,0,none⟩),.func (.func 186) #[.pointer (some ⟨a.R,0,none⟩)] #[]] w (dC [a.S,a.N] d e w (gp e b) fQ):=by
 have:=tp f;rw[c.1,c.2.1,c.2.2.1]at this;exact this
def Rd.j0{h:ByteArray}{e:World}{q:Nat}(f:Rd a h b w)(g:Below w.heap.size w e)(j:w.heap.size<=q)(i:q<e.heap.size):Rd (a.aa q) h b e:=by
 have c:=f.t g;obtain⟨k,l,m,n⟩:=c.C;refine⟨c.me,c.sc,(f.nm.aa j).t g,⟨Y5 _ k,Y5 _ l,Y5 _ m,Y5 _ n⟩,?_,c.pr,c.np,c.gl,c.dn,c.aP⟩;intro o d;rcases Yg.1 d with rfl|d
 .exact i
 .exact c.al o d
def Qq{s:ByteArray}(z:Nat)(k:Rd a s b w) :
  Calls prog 122 #[.pointer (some ⟨a.R,0,none⟩),.int .i64 z] w (fV [a.R,a.S,a.N] a s w (iZ s z b)):=by
 have e7:=jq;have d4:=k.G (.cells #[.pointer (some ⟨a.R,0,none⟩)] 145);have G:=aJ (w:=w) (o:=.cells #[.pointer (some ⟨a.R,0,none⟩)] 145) rfl;obtain⟨f2,f3,f4,f5⟩:=k.K;have e3:=bL G;go_in;go_wp2_with fail;refine(LH (eG a _) z d4).mono ?_;rintro u e2 ⟨C,⟨f9,g4,m,rfl,d5⟩|⟨x,m,n,h,rfl,i⟩⟩;rotate_left
 .exact aq (dx (((ah _ w).d _).a (C.l (by simp))) ((ah [] w).d _) (bj m) h i)
 have A:ai [a.R,a.S,a.N] w e2:=((ah _ w).d _).a (C.l (by simp));have H:=(C.i _ (aj G) (by simp;omega)).trans G;have e4:=bL H;go_wp2_with fail;refine(BQ (eG a _) d5).mono ?_;rintro u c ⟨D,⟨d,b2,r,rfl,d6⟩|⟨x,r,n,h,rfl,i⟩⟩;rotate_left
 .exact aq (dx (A.a (D.l (by simp))) A ((as m).trans (bj r)) h i)
 have M:=A.a (D.l (M':=[a.R,a.S,a.N]) (by simp));have a8:=(D.i _ (aj H) (by simp;omega)).trans H;have d1:=aj a8;dsimp only[fQ];go_wp2_with fail;obtain⟨g,l⟩:∃g,g=(c.alloc (.cells #[.string ⟨d.1.toArray⟩,.int .i64 d.2,.slice none 0 0] 353)).alloc (.cells #[.pointer (some ⟨c.heap.size,0,none⟩)] 229):=⟨_,rfl⟩;rw[<-l];have F:(c.alloc (.cells #[.string ⟨d.1.toArray⟩,.int .i64 d.2,.slice none 0 0] 353)).heap.size=c.heap.size+1:=by simp
 have a7:=(d6.G (.cells #[.string ⟨d.1.toArray⟩,.int .i64 d.2,.slice none 0 0] 353)).G (.cells #[.pointer (some ⟨c.heap.size,0,none⟩)] 229);rw[F,<-l]at a7;have e9:g.heap.size=c.heap.size+2:=by rw[l];simp
 have a3:ai [] c g:=by rw[l];exact((ah [] c).d _).d _
 have J:g.heap[c.heap.size]? = some (.cells #[.string ⟨d.1.toArray⟩,.int .i64 d.2,.slice none 0 0] 353):=by
  rw[l];exact(((ah [] _).d _).i _ (by rw[F];omega) (by simp)).trans (aJ rfl)
 have a1:g.heap[c.heap.size+1]? = some (.cells #[.pointer (some ⟨c.heap.size,0,none⟩)] 229):=by
  rw[l];exact aJ F.symm
 have a9:=(a3.i _ d1 (by simp)).trans a8;have c4:=M.a (a3.l (M':=[a.R,a.S,a.N]) (by simp));refine(uo _).mono ?_;rintro u e ⟨f,j,rfl,d3,e6,e8,L,a0,b1⟩;have d0:f<e.heap.size:=by
  obtain⟨_,_,_,E⟩:=id L;exact aj E
 have d2:=aj b1;have d7:=a7.j0 a0 d3 d0;have q:ai [] g e:=br [] a0;have f1:=q.F;have b0:=(q.i _ (aj a9) (by simp)).trans a9;have K:=(q.i _ (aj J) (by simp)).trans J;have a2:=(q.i _ (aj a1) (by simp)).trans a1;have c5:=c4.a (q.l (M':=[a.R,a.S,a.N]) (by simp));have p:=(ah [] e).d (.cells #[(aS f j).v] 341);have f0:=M.F;have B:jH a s w ⟨c.heap.size,w.heap.size,c.heap.size+1,e.heap.size,f,j⟩ d [] [e.heap.size,f,c.heap.size+1,c.heap.size,w.heap.size] [] (.slice none 0 0) b2 (e.alloc (.cells #[(aS f j).v] 341)):=by
  have d9:=(p.i _ (aj b0) (by simp)).trans b0;have c2:=(p.i _ (aj K) (by simp)).trans K;have c7:=(p.i _ (aj a2) (by simp)).trans a2;refine⟨c5.d _,d7.G _,?_,?_,?_,?_,?_,?_,c2,d9,c7,aJ rfl,⟨rfl,Y8 ⟨rfl,rfl⟩⟩⟩
  .intro n c6;simp[dE.bk]at c6 ⊢;omega
  .simp[dE.bk];omega
  .intro g3 e0;simp at e0;omega
  .intro e5 c8;cases c8
  .have c3:dp f [] e:=L;exact c3.h p (by simp)
  .intro f6 a6;simp only[aS,Yc]at a6;subst a6;refine⟨(p.i _ d2 (by simp)).trans b1,?_⟩;simp[Ad.v];refine⟨by omega,by omega,by omega,by omega,by omega,?_⟩;intro E;have:=k.al _ E;omega
 have b7:=bL B.vr;have b9:=bL B.vd;have b4:=Z B;dsimp only[cM.v,aS]at b7 b9 ⊢;go_wp2_with fail;have b3:vX a s w ⟨c.heap.size,w.heap.size,c.heap.size+1,e.heap.size,f,j⟩ d 0 [e.heap.size,f,c.heap.size+1,c.heap.size,w.heap.size] ([],[]) b2 (e.alloc (.cells #[(aS f j).v] 341)):=⟨rfl,_,b4.b⟩;refine(wP 12 (Pz k ⟨c.heap.size,w.heap.size,c.heap.size+1,e.heap.size,f,j⟩ d) (by omega) b3).mono ?_;rintro u g0 (⟨b6,⟨c1,f8⟩,g5,y,rfl,e1,a4,c9,f7,O⟩|⟨x,y,a4,n,h,rfl,i⟩);rotate_left
 .exact aq ⟨a4,Ya ⟨x,(as m).trans ((as r).trans (bj (tI y))),n,h,rfl,i⟩⟩
 have b8:=bL O.vr;have t:=Z O;dsimp only at b8;go_wp2_with fail;refine(ff (cC a b6) _ t.b.rd).mono ?_;rintro u g1 ⟨a5,⟨g2,g6,I,rfl,d8⟩|⟨x,I,n,h,rfl,i⟩⟩;rotate_left
 .exact aq (dx (t.b.B.a (a5.l (by simp))) t.b.B ((as m).trans ((as r).trans ((as (oC y)).trans (bj I)))) h i)
 have P:=t.b.bd k a5 d8;have c0:=bL P.vd;have b5:=Z P;dsimp only at c0;go_wp2;go_ret;exact b5.b.fin k (by have:c1.length=e1:=c9;omega) ((as m).trans ((as r).trans ((as (oC y)).trans (as I))))
end
def iw(a:Mar.am):PM (List (List UInt8×Nat×Int)):=λb=>
 match ay b.g a.text with
 |some (some (.enum _ _ c))=>.ok (c,b)
 |_=>.error ⟨7,a.m⟩
def DF(a:World):(Instr.typeAssert .nilIface 157 227 true).run prog a=.ok (.tuple #[.pointer none,.bool false]) a:=by kernel_rfl
def QC(a:Value)(b:World):(Instr.typeAssert (.iface 227 a) 157 227 true).run prog b=.ok (.tuple #[a,.bool true]) b:=by kernel_rfl
def QB(c:ao)(g:Value)(d:World)(e:∀b a v,c≠.enum b a v):(Instr.typeAssert (.iface (cD c) g) 157 227 true).run prog d=.ok (.tuple #[.pointer none,.bool false]) d:=by
 cases c with
 |enum b a v=>exact absurd rfl (e b a v)
 |typedef c=>kernel_rfl
 |const b a f=>kernel_rfl
 |struct b a f=>kernel_rfl
 |union b a j h=>kernel_rfl
 |prog b a k i=>kernel_rfl
def EF(d:Ad)(m:ByteArray)(c:World)(j:St)(i:Except Mar.M (List (List UInt8×Nat×Int)×St))(g:Ending)(a:World):Prop:=
 Below c.heap.size c a/\((∃l k h e f,i=.ok (h,j)/\g=.returned (.pointer (some ⟨e,0,none⟩))/\Rd d m j a/\dw f e (.enum l k h)/\bm d.X f a)\/(∃b,i=.error b/\fe c b.no b.m g a))
def HA{g:Ad}{A:ByteArray}{k:St}(a:Mar.am){w:World}(r:Rd g A k w) :
  Calls prog 253 #[.pointer (some ⟨g.R,0,none⟩),cq a] w (EF g A w k (iw a k)):=by
 have m:=((Below.refl w.heap.size w).alloc (Y4 _) (.cells #[.int .i64 a.f,.string ⟨a.text.toArray⟩,.int .i64 a.n,.int .i64 a.m] 154)).drew;obtain⟨L,M,O,P,S,a0⟩:=r.r;have a1:=r.K.1;have p:=r.t m;have key:(∃v,(Instr.lookup 148 (.map (some g.N)) (.string ⟨a.text.toArray⟩) false).run prog ((w.alloc (.cells #[.int .i64 a.f,.string ⟨a.text.toArray⟩,.int .i64 a.n,.int .i64 a.m] 154)).drew)=.ok v ((w.alloc (.cells #[.int .i64 a.f,.string ⟨a.text.toArray⟩,.int .i64 a.n,.int .i64 a.m] 154)).drew)/\
    (∀n,(Instr.typeAssert v 157 227 true).run prog n=.ok (.tuple #[.pointer none,.bool false]) n)/\iw a k=.error ⟨7,a.m⟩)\/
   (∃(h:Nat) (c:List UInt8) (b:Nat) (j:List (List UInt8×Nat×Int)) (i:List (Nat×Obj)),(Instr.lookup 148 (.map (some g.N)) (.string ⟨a.text.toArray⟩) false).run prog ((w.alloc (.cells #[.int .i64 a.f,.string ⟨a.text.toArray⟩,.int .i64 a.n,.int .i64 a.m] 154)).drew)=.ok (.iface 227 (.pointer (some ⟨h,0,none⟩))) ((w.alloc (.cells #[.int .i64 a.f,.string ⟨a.text.toArray⟩,.int .i64 a.n,.int .i64 a.m] 154)).drew)/\
    bm g.X i ((w.alloc (.cells #[.int .i64 a.f,.string ⟨a.text.toArray⟩,.int .i64 a.n,.int .i64 a.m] 154)).drew)/\dw i h (.enum c b j)/\iw a k=.ok (j,k)):=by
  rcases vh p.nm a.text false with⟨d,e⟩|⟨I,v,i,d,F,y,e⟩
  .simp only[Ye,if_false]at e
   exact Y8 ⟨_,e,DF,by simp only[iw,d]⟩
  .simp only[Ye,if_false]at e
   cases I with
   |none=>
    have H:v=.nilIface:=y;subst H;exact Y8 ⟨_,e,DF,by simp only[iw,d]⟩
   |some o=>
    obtain⟨h,rfl,E⟩:=y;by_cases s:∃c b f,o=.enum c b f
    .obtain⟨c,b,f,rfl⟩:=s;exact Ya ⟨h,c,b,f,i,e,F,E,by simp only[iw,d]⟩
    .refine Y8 ⟨_,e,λn=>QB o _ n (λc b f u=>s ⟨c,b,f,u⟩),?_⟩;cases o with
     |enum c b f=>exact absurd ⟨c,b,f,rfl⟩ s
     |typedef o=>simp only[iw,d]
     |const c b j=>simp only[iw,d]
     |struct c b j=>simp only[iw,d]
     |union c b a2 K=>simp only[iw,d]
     |prog c b a3 f=>simp only[iw,d]
 rcases key with⟨v,e,G,l⟩|⟨h,c,b,j,i,e,z,x,l⟩
 .have q:=Z l;have t:=Z m;clear l p m;dsimp only[cq];go_in;go_wp2;go_region;go_wp2_with (go_at_call 70;refine(gL _ _ _).mono ?_;rintro u a4 ⟨rfl,rfl⟩);refine aq ⟨?_,Ya ⟨⟨7,a.m⟩,q.b,w.heap.size+1,by omega,rfl,aJ (w:=w.alloc _) (by simp)⟩⟩;exact(((Below.refl w.heap.size w).alloc (Y4 _) _).alloc (by simp) _).drew
 .have q:=Z l;have G:=λJ=>QC J;have t:=Z p;have B:=Z m;have D:=Z z;have C:=Z x;clear l p m z x;dsimp only[cq];go_in;go_wp2;go_region;go_wp2;go_ret;exact⟨B.b,Y8 ⟨c,b,j,h,i,q.b,rfl,t.b,C.b,D.b⟩⟩
section
variable {i:Nat}{a:List (List UInt8×Nat×Int)}{b:Int}{c:World}
def jT(a:List (List UInt8×Nat×Int))(b:Int):Bool:=a.any λc=>c.2.2==b
def IA(c:i<a.length)(d:a[i].2.2=b):jT a b=true:=by
 unfold jT;rw[List.any_eq_true];exact⟨a[i],Yy c,by simp[d]⟩
def IB(d:∀i (c:i<a.length),a[i].2.2≠b):jT a b=false:=by
 unfold jT;rw[List.any_eq_false];intro f e;obtain⟨i,c,rfl⟩:=List.getElem_of_mem e;simp;exact d i c
def CI{e:Nat}{b:Array Value}{g:TypeId}{a:List Value}(j:c.heap[e]? = some (.cells b g))(k:b.toList.take a.length=a)(f:i<a.length):c.cell? ⟨e,i,none⟩=some a[i]:=by
 have h:b.toList[i]? = some a[i]:=by
  have d:(b.toList.take a.length)[i]? = some a[i]:=by rw[k];simp[f]
  rw[List.getElem?_take_of_lt f]at d;exact d
 have d:b[i]? = some a[i]:=by simpa using h
 simp[World.cell?,j,d]
def EO{y:List Nat}{o:List (Nat×Obj)}{n z:Nat}{P:List UInt8}(b:Int)(G:dw o n (.enum P z a))(j:bm y o c) :
  Calls prog 254 #[.pointer (some ⟨n,0,none⟩),.int .i64 b] c λA R=>A=.returned (.bool (jT a b))/\R=c:=by
 obtain⟨b6,t,E,a8,N,F⟩:=G;obtain⟨b2,b3,b4,_⟩:=dS (j _ E).1;rcases N with⟨rfl,C,_⟩|⟨B,a0,a1,rfl,⟨a2,a9⟩,I,O⟩
 .have L:a=[]:=Yv.1 C;subst L;go_in;go_wp2;go_loopw [12] (λi m=>i=.int .i64 0/\m=c) (λ_ _=>0)
  case atStart=>exact⟨rfl,rfl⟩
  case round=>
   obtain⟨rfl,rfl⟩:=hrel;go_wp2;go_ret;exact⟨rfl,rfl⟩
 .have J:=(j _ I).1;have M:∀i (f:i<a.length),∃l:Nat,c.cell? ⟨B,i,none⟩=some (.pointer (some ⟨l,0,none⟩))/\c.cell? ⟨l,2,none⟩=some (.int .i64 a[i].2.2):=by
   intro i f;have q:i<t.length:=by omega
   have p:=CI J O (i:=i) (by simpa using q);rw[List.getElem_map]at p;have D:=(j _ (F i f q)).1;obtain⟨_,_,S,_⟩:=dS D;exact⟨t[i],p,S⟩
  have w:=Z M;go_in;go_wp2;go_loopw [12,6] (λi b5 m=>∃d:Nat,i=.int .i64 d/\m=c/\d<=a.length/\∀e (k:e<a.length),e<d->a[e].2.2≠b) (λi _ _=>a.length-(intOf i).toNat)
  case atStart=>exact⟨0,rfl,rfl,by omega,by intro e k h;omega⟩
  case round=>
   obtain⟨d,rfl,rfl,a7,s⟩:=hrel;rcases Yj d a.length with r|a3
   .obtain⟨l,b0,b1⟩:=w.b d r;have a4:(0:Int)<=↑d:=by omega
    have a5:(↑d:Int) < ↑a.length:=by omega
    have v:=Z s;by_cases g:a[d].2.2=b
    .have H:(a[d].2.2==b)=true:=by simp[g]
     have x:=Z (IA r g);go_wp2;go_ret;exact⟨by rw[x.b];rfl,rfl⟩
    .have H:(a[d].2.2==b)=false:=by simpa using g
     go_wp2;refine⟨⟨d+1,by go_num,trivial,by omega,?_⟩,by simp[intOf];omega⟩;intro e k a6;rcases Yj e d with h|h
     .exact v.b e k h
     .have:e=d:=by omega
      subst this;exact g
   .have K:d=a.length:=by omega
    subst K;have u:=Z (IB λi f=>s i f f);go_wp2;go_ret;exact⟨by rw[u.b];rfl,rfl⟩
end
section
variable {c:Ad}{d:Nat}{e:Except Mar.M ((Ty×(Int->Bool))×St)}{w b:World}{a:Mar.am}
def iW(c:ByteArray)(a:Mar.am):PM (Ty×(Int->Bool)):=
 if((a.f:Int)==1)then au (iw a) λb=>bS (.named a.text a.m,jT b)
 else if a.text==[105,110,116]then bS (.plain 0,di (-2147483648) 2147483647)
 else if a.text==[117,110,115,105,103,110,101,100]then au (cZ c [105,110,116]) λ_=>bS (.plain 1,di 0 4294967295)
 else if a.text==[98,111,111,108]then bS (.plain 4,di 0 1)
 else fj 3 a.m
def nA(a:ByteArray):PM (Ty×(Int->Bool)):=au (next a) (iW a)
def Df{d:ByteArray}(b:((a.f:Int)==1)=true):iW d a=au (iw a) λc=>bS (.named a.text a.m,jT c):=by unfold iW;rw[Y9 b]
def Pn{d:ByteArray}(b:((a.f:Int)==1)=false)(c:(a.text==[105,110,116])=true):iW d a=bS (.plain 0,di (-2147483648) 2147483647):=by unfold iW;simp only[b,c,Ye,if_false,if_true]
def Dg{b:ByteArray}(c:((a.f:Int)==1)=false)(d:(a.text==[105,110,116])=false)(e:(a.text==[117,110,115,105,103,110,101,100])=true) :
  iW b a=au (cZ b [105,110,116]) λ_=>bS (.plain 1,di 0 4294967295):=by unfold iW;simp only[c,d,e,Ye,if_false,if_true]
def Po{f:ByteArray}(b:((a.f:Int)==1)=false)(c:(a.text==[105,110,116])=false)(d:(a.text==[117,110,115,105,103,110,101,100])=false)(e:(a.text==[98,111,111,108])=true) :
  iW f a=bS (.plain 4,di 0 1):=by unfold iW;simp only[b,c,d,e,Ye,if_false,if_true]
def Pp{f:ByteArray}(b:((a.f:Int)==1)=false)(c:(a.text==[105,110,116])=false)(d:(a.text==[117,110,115,105,103,110,101,100])=false)(e:(a.text==[98,111,111,108])=false) :
  iW f a=fj 3 a.m:=by unfold iW;simp only[b,c,d,e,Ye,if_false]
def ub(c:Ad)(h:ByteArray)(w:World)(e:Except Mar.M ((Ty×(Int->Bool))×St))(f:Ending)(b:World):Prop:=
 ai [c.S] w b/\((∃d g v,e=.ok (d,g)/\f=.returned (.tuple #[bW d.1,v])/\Rd c h g b/\gx c.X v d.2 b)\/(∃a,e=.error a/\fe w a.no a.m f b))
def uc{d:ByteArray}{ty:Ty}{p:Int->Bool}{a:St}{v:Value}
  (h:ai [c.S] w b) (i:e=.ok ((ty,p),a)) (f:Rd c d a b) (g:gx c.X v p b):ub c d w e (.returned (.tuple #[bW ty,v])) b:=⟨h,Y8 ⟨(ty,p),a,v,i,rfl,f,g⟩⟩
def ud{M':List Nat}{k:ByteArray}{w1:World}{f:Mar.M}
  (h:ai [c.S] w b) (i:ai M' w w1) (j:e=.error f) (a:w1.heap.size<=d) (g:b.heap[d]? = some (.cells #[.int .i64 f.no,.int .i64 f.m] 179)) :
  ub c k w e (.panicked [{ v:=.iface 143 (.pointer (some ⟨d,0,none⟩)),recovered:=false }]) b:=⟨h,Ya ⟨f,j,d,Yz i.F a,rfl,g⟩⟩
def EP(args:Array Value)(a:World):(callFunc 254 args).run prog a=.ok (.enter 254 args) a:=by kernel_rfl
def If{c:List Nat}{a:List (Nat×Obj)}{f:Nat}{k:List UInt8}{e:List (List UInt8×Nat×Int)}(h:dw a d (.enum k f e))(i:bm c a w) :
  gx c (.func (.func 254) #[.pointer (some ⟨d,0,none⟩)] #[]) (jT e) w:=by
 refine⟨a,_,_,_,rfl,i,EP,λl g j=>?_⟩;refine(EO j h g).mono ?_;rintro m b ⟨rfl,rfl⟩;exact⟨rfl,Below.refl _ _⟩
def jN{c e a b:Value}{f:TypeId}(g:w.heap[d]? = some (.cells #[c,e,a,b] f)) :
  w.cell? ⟨d,0,none⟩=some c/\w.cell? ⟨d,1,none⟩=some e/\w.cell? ⟨d,2,none⟩=some a/\w.cell? ⟨d,3,none⟩=some b:=by
 refine⟨?_,?_,?_,?_⟩<;>simp[World.cell?,g]
def OF{y:ByteArray}{G:St}(z:Rd c y G w) :
  Calls prog 197 #[.pointer (some ⟨c.R,0,none⟩)] w (ub c y w (nA y G)):=by
 have b4:=jq;obtain⟨a8,a9,b0,b1,b2,b3⟩:=z.r;have H:=Z (pY z);go_in;go_wp2_with fail;refine H.b.mono ?_;rintro j h ⟨B,⟨a,c9,u,rfl,D⟩|⟨r,u,d,k,rfl,l⟩⟩;rotate_left
 .exact aq (ud B (ah [] _) (bj u) k l)
 have f:=Z B;have g:=Z u;have i:=Z (D.t ((Below.refl _ _).alloc (Y4 _) (.cells #[.int .i64 a.f,.string ⟨a.text.toArray⟩,.int .i64 a.n,.int .i64 a.m] 154)));have P:=aJ (w:=h) (o:=.cells #[.int .i64 a.f,.string ⟨a.text.toArray⟩,.int .i64 a.n,.int .i64 a.m] 154) rfl;have q:=Z P;have a4:=Z D.al;dsimp only[cq];go_wp2_with (first
  |(go_at_call 70;refine(gL _ _ _).mono ?_;rintro j b ⟨rfl,rfl⟩)
  |(go_at_call 189;refine(qv _ _ _).mono ?_;rintro j a2 ⟨c1,rfl,e,s⟩)
  |(go_at_call 192;refine(sA _ i.b).mono ?_;rintro j a1 ⟨C,⟨a3,d0,v,rfl,E⟩|⟨r,v,d,k,rfl,l⟩⟩))
 .have A:((a.f:Int)==1)=true:=‹_›;obtain⟨c5,c6,c7,c8⟩:=jN q.b;have O:=aj q.b;go_region_held2 (λb=>b.cell? ⟨h.heap.size,0,none⟩=some (.int .i64 a.f)/\b.cell? ⟨h.heap.size,1,none⟩=some (.string ⟨a.text.toArray⟩)/\b.cell? ⟨h.heap.size,2,none⟩=some (.int .i64 a.n)/\b.cell? ⟨h.heap.size,3,none⟩=some (.int .i64 a.m)) (go_keep)
   (first
    |(go_at_call 243;refine(yY a _).mono ?_;rintro j a1 ⟨rfl,m⟩;have t:=(m.block _ O).trans q.b;obtain⟨c2,c3,a3,c4⟩:=jN t;have N:=aj t;have J:=Z ((i.b.t (Below.refl _ _).drew).t m);have p:=Z ((f.b.d _).ae.a (br _ m));clear m)
    |(go_at_call 253;refine(HA a J.b).mono ?_;rintro j a2 ⟨e,⟨c0,a5,b5,a6,a7,x,rfl,F,L,M⟩|⟨r,x,d,k,rfl,l⟩⟩;rotate_left;exact aq (ud (p.b.a (br _ e)) p.b ((as g.b).trans (by rw[Df A];exact bj x)) k l);have a0:=(e.block _ N).trans t;obtain⟨b6,b7,b8,b9⟩:=jN a0;have I:=Z (p.b.a (br _ e));have K:=Z F;clear e F))
  all_goals
   go_wp2
   go_ret2
   exact uc (ty:=.named a.text a.m) I.b ((as g.b).trans (by rw[Df A];exact as x)) K.b (If L M)
 .go_ret2;exact uc (ty:=.plain 0) ((f.b.d _).a (br _ e)) ((as g.b).trans (by rw[Pn ‹_› ‹_›];rfl)) (i.b.t e) (s _ i.b.al)
 .go_ret2;exact uc (ty:=.plain 1) (((f.b.d _).a C).a (br _ e)) ((as g.b).trans (by rw[Dg ‹_› ‹_› ‹_›];exact as v)) (E.t e) (s _ E.al)
 .exact aq (ud ((f.b.d _).a C) (f.b.d _) ((as g.b).trans (by rw[Dg ‹_› ‹_› ‹_›];exact bj v)) k l)
 .go_ret2;exact uc (ty:=.plain 4) ((f.b.d _).a (br _ e)) ((as g.b).trans (by rw[Po ‹_› ‹_› ‹_› ‹_›];rfl)) (i.b.t e) (s _ i.b.al)
 .exact aq (ud (M':=[c.S]) (w1:=h) (f:=⟨3,a.m⟩) ((f.b.d _).d _) f.b ((as g.b).trans (by rw[Pp ‹_› ‹_› ‹_› ‹_›];rfl)) (by omega) (aJ (by simp)))
end
section
variable {a:Ad}{e:List Nat}{b:List Int}{g c:Nat}{l:List (Int×Int)}{h:Int->Bool}{i:Value}{j p d:World}{o q r:St}
def AW:(prog.info? 2).map (λa=>(a.zero,a.size,a.bytes))=some (some (.int .i64 0),1,8):=by kernel_rfl
def hj(a:ByteArray)(h:Int->Bool):Nat->List Int->PX (List (Int×Int)) (List Int)
 |0,_=>lift (fj 0 0)
 |k+1,b=>av (lift (bU a [99,97,115,101])) λd l=>av (lift (ei l.length 12 d.m)) (λ_=>av (fR a h) λc=>av (lift (bU a [58])) λ_=>
   av (lift (gc a [99,97,115,101])) λe=>if e then hj a h k (b++[c])else cG (b++[c])) l
def cases(a:ByteArray)(h:Int->Bool):PX (List (Int×Int)) (List Int):=hj a h 13 []
def gx.aN{a:List Nat}{v:Value}{b:Option Nat}(i:gx a v h j)(r:j.grownBy p b)(s:∀c,b=some c->c∈a)(q:b=some g\/g=j.heap.size):gx (g::a) v h p:=by
 obtain⟨e,f,w,u,k,l,m,n⟩:=i;exact⟨e,f,w,u,k,l.aN r s q,m,λd o=>n d (o.a9 λ_ t=>Y5 _ t)⟩
structure ih(a:Ad)(text:ByteArray)(d:World)(c:Nat)(v:Value)(h:Int->Bool)(b:List Int)(e:List Nat)(l:List (Int×Int))(i:Value)(o:St)(j:World):Prop where
 B:ai [a.S,c] d j
 rd:Rd (a.v e) text o j
 E:∀y∈e,d.heap.size<=y
 G:∀g,i.ownBlock=some g->g∈e
 a0:cN c l j
 e7:gx (a.v e).X v h j
 row:j.ownsRow d.heap.size 2 1 i b.length (b.map λn=>Value.int .i64 n)
def ih.ck{n:ByteArray}{v:Value}(m:ih a n d c v h b e l i o j):∃ad f,i=.slice ad b.length f:=by
 rcases m.row.2 with⟨rfl,k⟩|⟨g,f,p,rfl,_⟩
 .exact⟨none,0,by rw[k]⟩
 .exact⟨_,_,rfl⟩
def ih.aZ{g:ByteArray}{v:Value}(f:cT a c)(_m:ih a g d c v h b e l i o j):cT (a.v e) c:=
 ⟨Ym _ f.1,f.2.1,f.2.2.1,f.2.2.2.1,f.2.2.2.2⟩
def ih.bd{m:ByteArray}{v:Value}(t:Rd a m r d)(w:cT a c)(f:ih a m d c v h b e l i o j)(k:ai [a.S] j p)(n:Rd (a.v e) m q p) :
  ih a m d c v h b e l i q p:=by
 obtain⟨x,y,z,A⟩:=t.K;refine⟨f.B.a (k.l (by simp)),n,f.E,f.G,f.a0.h k (by simp;exact w.2.2.1),f.e7.h k (by intro B s;simp only[Yc]at s;subst s;exact n.C.2.1),aX f.row k ?_⟩;intro g u;have:=f.E _ (f.G g u);simp;omega
def ih.t{k:ByteArray}{v:Value}(m:ih a k d c v h b e l i o j)(g:Below j.heap.size j p):ih a k d c v h b e l i o p:=by
 have f:=br [] g;exact⟨m.B.a (f.l (by simp)),m.rd.t g,m.E,m.G,m.a0.h f (by simp),m.e7.h f (by simp),aX m.row f (by simp)⟩
def Eu{t:ByteArray}{p u w:World}{C:Nat}{v:Value}{M:List (Int×Int)}{n:Int}(E:Rd a t r d)(J:cT a c)
  (m:ih a t d c v h b e l i o j) (G:ai [a.S,c] j p) (K:Rd (a.v e) t q p) (P:cN c M p) (k:Below p.heap.size p u)
  (I:w.ownsRow d.heap.size 2 1 (.slice (some ⟨g,0,none⟩) (b.length+1) C) (b.length+1) ((b.map λn=>Value.int .i64 n)++[.int .i64 n]))
  (x:u.grownBy w i.ownBlock) (F:i.ownBlock=some g\/g=u.heap.size) (O:g<w.heap.size) :
  ih a t d c v h (b++[n]) (g::e) M (.slice (some ⟨g,0,none⟩) (b.length+1) C) q w:=by
 obtain⟨R,_⟩:=gH I (g:=g) rfl;have s:∀f,i.ownBlock=some f->d.heap.size<=f/\f∈(a.v e).X:=λf k=>⟨m.E _ (m.G f k),Yf _ (m.G f k)⟩;have H:=eJ x;have y:ai [] p u:=br _ k;have a2:=E.al _ J.1;have N:∀B∈[a.S,c],B∈(a.v e).X:=by
  intro a3 L;simp at L;rcases L with rfl|rfl
  .exact K.C.2.1
  .exact Ym _ J.1
 refine⟨?_,qM E (cC a e) (K.t k) x s F O,?_,?_,?_,?_,?_⟩
 .refine((m.B.a G).ba y (by simp)).ba H ?_;intro B z;exact Ya (s B (by simpa using z)).1
 .intro a0 A;rcases Yg.1 A with rfl|A
  .exact R
  .exact m.E a0 A
 .intro a1 D;simp only[Value.ownBlock,Yu]at D;subst D;exact Yb
 .refine(P.h y (by simp)).h H ?_;intro z;have:=(s c (by simpa using z)).1;omega
 .exact((m.e7.h G N).h y (by simp)).aN x (λf k=>(s f k).2) F
 .simpa using I
def mD(a:Ad)(m:ByteArray)(d:World)(c:Nat)(k:Except Mar.M (List Int×List (Int×Int)×St))(h:Ending)(e:World):Prop:=
 ai [a.S,c] d e/\((∃b j q i g,k=.ok (b,j,q)/\h=.returned i/\Rd a m q e/\cN c j e/\fv g 2 i b.length (b.map λl=>Value.int .i64 l)/\bm a.X g e)\/(∃f,k=.error f/\fe d f.no f.m h e))
def sk{M':List Nat}{m:ByteArray}{w1 e:World}{g:Except Mar.M (List Int×List (Int×Int)×St)}{f:Mar.M}{b:Nat}
  (j:ai [a.S,c] d e) (k:ai M' d w1) (l:g=.error f) (h:w1.heap.size<=b) (i:e.heap[b]? = some (.cells #[.int .i64 f.no,.int .i64 f.m] 179)) :
  mD a m d c g (.panicked [{ v:=.iface 143 (.pointer (some ⟨b,0,none⟩)),recovered:=false }]) e:=⟨j,Ya ⟨f,l,b,Yz k.F h,rfl,i⟩⟩
def ih.fin{p:ByteArray}{v:Value}(n:Rd a p r d)(f:ih a p d c v h b e l i o j)(G:b.length<=12)
  {u:Except Mar.M (List Int×List (Int×Int)×St)} (t:u=.ok (b,l,o)):mD a p d c u (.returned i) j:=by
 have x:∀m,d.heap.size<=m->m ∉ a.X:=λm D C=>by have:=n.al _ C;omega
 refine⟨f.B,Y8 ⟨b,l,o,i,?_⟩⟩;rcases f.row.2 with⟨rfl,y⟩|⟨g,w,q,rfl,z,A,B,E,F,s⟩
 .have:b=[]:=Yv.1 y;subst this;exact⟨[],t,rfl,jk n.C f.rd,f.a0,Y8 ⟨rfl,rfl,rfl⟩,by intro h k;cases k⟩
 .refine⟨[(g,.cells q 2)],t,rfl,jk n.C f.rd,f.a0,Ya ⟨g,w,q,rfl,⟨B,by omega⟩,by simp,?_⟩,?_⟩
  .rw[Nat.mul_one]at s;rw[YU];exact s
  .intro h k;simp only[Yc]at k;subst k;exact⟨A,x _ z⟩
end
section
variable {cs:List Int}{b:List (Int×Int)}{a:Int->Bool}{c:Nat}{d:World}{g:Mar.am}{e f:St}
def uP:Value->Nat
 |.slice _ a _=>a
 |_=>0
def wX(b:ByteArray)(a:Int->Bool)(d:Nat)(cs:List Int):PX (List (Int×Int)) (List Int):=av (fR b a) λc=>av (lift (bU b [58])) λ_=>
   av (lift (gc b [99,97,115,101])) λe=>if e then hj b a d (cs++[c])else cG (cs++[c])
def wT{d:ByteArray}{g:Nat}{c:Mar.M}(f:bU d [99,97,115,101] e=.error c):hj d a (g+1) cs b e=.error c:=by
 simp only[hj];exact bl (ci f)
def wU{c:ByteArray}{i:Nat}(d:bU c [99,97,115,101] e=.ok (g,f))(h:12<=b.length):hj c a (i+1) cs b e=.error ⟨5,g.m⟩:=by
 simp only[hj];exact(aE (aW d)).trans (bl (ci (show ei b.length 12 g.m f=_ from Y9 h)))
def wV{c:ByteArray}{d:Nat}(h:bU c [99,97,115,101] e=.ok (g,f))(i:¬12<=b.length):hj c a (d+1) cs b e=wX c a d cs b f:=by
 simp only[hj];exact(aE (aW h)).trans (aE (aW (show ei b.length 12 g.m f=_ from Y2 i)))
def yj{j:ByteArray}{i:List (Int×Int)}{m:St}{l:Int}(d:fR j a b e=.ok (l,i,m)):i.length=b.length+1:=by
 unfold fR at d;cases h:hG j a e with
 |error k=>rw[bl (ci h)]at d;cases d
 |ok c=>
  obtain⟨c,f⟩:=c;rw[aE (aW h)]at d;cases g:ky c.1 c.2 b ⟨6,c.2⟩with
  |error k=>rw[bl (rM g)]at d;cases d
  |ok n=>
   rw[aE (rN g)]at d;simp only[cG]at d;cases d
   unfold ky at g;split at g<;>cases g;simp
def Cj(f:cN c b d)(e:TypeId):(Builtin.len_ #[149] e #[.map (some c)]).run prog d=.ok (.int .i64 b.length) d:=by
 have g:d.heap[c]? = some (.map (b.mapIdx λh a=>(⟨.int .i64 a.1,.int .i64 a.2,h⟩:MapEntry)).toArray b.length):=f;have:=run_len_map (P:=prog) d 149 e c _ _ (by kernel_rfl) g;rw[this];simp[goInt]
def FY{g:Ad}{f:ByteArray}{v:Value}{i:List (Int×Int)}(n:Rd g f e d)(b3:gx g.X v a d)(s:cT g c)(c0:cN c i d) :
  Calls prog 199 #[.pointer (some ⟨g.R,0,none⟩),.map (some c),v] d (mD g f d c (cases f a i e)):=by
 obtain⟨d2,b5,c8,c9,d0⟩:=info_parts AW;have a8:U (ih g f d c v a [] [] i (.slice none 0 0) e d):=⟨ah _ _,n,by simp,(by intro r J;cases J),c0,b3,⟨rfl,Y8 ⟨rfl,rfl⟩⟩⟩;go_in;go_wp2;go_loopw [7,8] (λM q d3=>∃(F:Bool) (cs:List Int) (o:List Nat) (b:List (Int×Int)) (G:St),q=.bool F/\cs.length<=12/\cs.length<=b.length/\U (ih g f d c v a cs o b M G d3)/\
   U (cases f a i e=(if F then hj f a (13-cs.length) cs else cG cs) b G)) (λM _ _=>13-uP M)
 case atStart=>exact⟨true,[],[],i,e,rfl,by simp,by simp,a8,rfl⟩
 case round=>
  obtain⟨F,cs,o,b,G,rfl,b8,a2,p,N⟩:=hrel;obtain⟨ad,O,rfl⟩:=p.b.ck;cases F with
  |false=>
   go_wp2;go_ret;exact p.b.fin n b8 N.b
  |true=>
   have H:U (cases f a i e=hj f a ((12-cs.length)+1) cs b G):=by
    have I:=N.b;rw[show 13-cs.length=(12-cs.length)+1 by omega]at I;exact I
   go_wp2_with fail;refine(ff (cC g o) _ p.b.rd).mono ?_;rintro w d5 ⟨a0,⟨x,d7,D,rfl,c5⟩|⟨B,D,q,k,rfl,l⟩⟩;rotate_left
   .exact(show bodyPost prog Tryz.f199 (mD g f d c (cases f a i e)) (Exit.panic _) _ d5 from aq (sk (p.b.B.a (a0.l (by simp))) p.b.B (H.b.trans (wT D)) k l))
   have h:=Z ((p.b.bd n s a0 c5).t ((Below.refl _ _).alloc (Y4 _) (.cells #[.int .i64 x.f,.string ⟨x.text.toArray⟩,.int .i64 x.n,.int .i64 x.m] 154)));have e2:=Cj h.b.a0;dsimp only[cq];go_wp2_with fail;by_cases P:12<=b.length
   .refine(qg _ _ _ _ (by omega)).mono ?_;rintro w a4 ⟨⟨q,k,rfl,l⟩,b2⟩;exact(show bodyPost prog Tryz.f199 (mD g f d c (cases f a i e)) (Exit.panic _) _ a4 from aq (sk (f:=⟨5,x.m⟩) (h.b.B.a (br _ b2)) h.b.B (H.b.trans (wU D P)) k l))
   refine(qh _ _ _ _ (by omega)).mono ?_;rintro w a4 ⟨rfl,rfl⟩;have y:U (cases f a i e=wX f a (12-cs.length) cs b d7):=H.b.trans (wV D P);go_wp2_with fail;refine(Cd (cC g o) h.b.rd h.b.e7 (h.b.aZ s) h.b.a0).mono ?_;rintro w m ⟨C,⟨j,a3,e6,u,rfl,c6,c1⟩|⟨B,u,q,k,rfl,l⟩⟩;rotate_left
   .exact(show bodyPost prog Tryz.f199 (mD g f d c (cases f a i e)) (Exit.panic _) _ m from aq (sk (h.b.B.a C) h.b.B (y.b.trans (bl u)) k l))
   dsimp only[hU];have c2:∀L,(m.alloc L).ownsRow d.heap.size 2 1 (.slice ad cs.length O) cs.length (cs.map λj=>Value.int .i64 j):=by
    intro L;refine aX (aX h.b.row C ?_) ((ah [] m).d L) (by simp);intro r J;have I:=h.b.E _ (h.b.G r J);have d9:=n.al _ s.1;have e0:=n.K.2.1;simp;omega
   have e3:d.heap.size<=m.heap.size:=Yz h.b.B.F C.F;have b6:cs.length+1<=maxLen:=by unfold maxLen;omega
   have b7:(cs.length+1)*8<=140737488355328:=by omega
   have d1:(Value.int .i64 0).cells.size=1:=rfl;have e1:=yj u;have b0:=Z a2;go_wp2_with (first
    |(at_builtin;refine wpList_append_lies _ (by rfl) _ _ _ (by rfl) d.heap.size 2 d2 _ 1 8 underlying245 b5 c8 c9 d0 d1 (by omega) (.slice ad cs.length O) cs.length (cs.map λj=>Value.int .i64 j) (by rfl) (c2 _) ⟨m.heap.size,0,none⟩ 1 1 [.int .i64 j] (by rfl) (by rfl) (World.news_of_block (cs:=#[.int .i64 j]) (t:=2) (fr:=(0,0)) (heap_alloc_new m _)) (by simp[Value.oneCell']) (by omega) b6 b7 (by simp;omega) (m.heap.size+1) (by simp) ?_;intro r d8 e4 c3 b4 b1 b9))
   have z:=Z (Eu n s h.b C c6 c1 ((Below.refl m.heap.size m).alloc (Y4 _) _) c3 b4 (by simpa using b1) b9);refine(ff (cC g (r::o)) _ z.b.rd).mono ?_;rintro w d6 ⟨a1,⟨e5,e7,E,rfl,c7⟩|⟨B,E,q,k,rfl,l⟩⟩;rotate_left
   .exact(show bodyPost prog Tryz.f199 (mD g f d c (cases f a i e)) (Exit.panic _) _ d6 from aq (sk (z.b.B.a (a1.l (by simp))) z.b.B (y.b.trans ((aE u).trans (bl (ci E)))) k l))
   have A:=Z (z.b.bd n s a1 c7);dsimp only[cq];go_wp2_with fail;refine(vQ (cC g (r::o)) _ A.b.rd).mono ?_;rintro w d4 ⟨S,⟨a5,a6,K,rfl,c4⟩|⟨B,K,q,k,rfl,l⟩⟩;rotate_left
   .exact(show bodyPost prog Tryz.f199 (mD g f d c (cases f a i e)) (Exit.panic _) _ d4 from aq (sk (A.b.B.a (S.l (by simp))) A.b.B (y.b.trans ((aE u).trans ((aE (aW E)).trans (bl (ci K))))) k l))
   have a9:=Z (A.b.bd n s S c4);have a2:=b0.b;have a7:U (cases f a i e=(if a5=true then hj f a (13-(cs++[j]).length) (cs++[j])else cG (cs++[j])) a3 a6):=by
    refine y.b.trans ((aE u).trans ((aE (aW E)).trans ((aE (aW K)).trans ?_)));have:13-(cs++[j]).length=12-cs.length:=by simp
    rw[this]
   go_wp2;exact⟨⟨a5,cs++[j],r::o,a3,a6,rfl,by simp;omega,by simp;omega,a9,a7⟩,by simp[uP];omega⟩
end
section
variable {B:Mar.M}{D I C:Type}
def IN:(prog.info? 363).map (λa=>(a.zero,a.size,a.bytes))=some (some (.agg #[.slice none 0 0,.string ⟨#[]⟩,.int .i64 0,.nilIface]),4,64):=by kernel_rfl
def hn(c:PX C D):PX (C×I) D:=λa e=>match c a.1 e with
 |.ok (b,E,x)=>.ok (b,(E,a.2),x)
 |.error B=>.error B
def kF(c:PX I D):PX (C×I) D:=λa e=>match c a.2 e with
 |.ok (b,E,x)=>.ok (b,(a.1,E),x)
 |.error B=>.error B
def rG{b:PX C D}{p E:C}{q:I}{e x:St}{a:D}(c:b p e=.ok (a,E,x)):hn b (p,q) e=.ok (a,(E,q),x):=by simp only[hn,c]
def rF{a:PX C D}{p:C}{q:I}{e:St}(b:a p e=.error B):hn a (p,q) e=.error B:=by simp only[hn,b]
def vy{b:PX I D}{p:C}{q G:I}{e x:St}{a:D}(c:b q e=.ok (a,G,x)):kF b (p,q) e=.ok (a,(p,G),x):=by simp only[kF,c]
def vx{a:PX I D}{p:C}{q:I}{e:St}(b:a q e=.error B):kF a (p,q) e=.error B:=by simp only[kF,b]
abbrev eU:=List (List UInt8)×List (Int×Int)
abbrev gu:=List (List Int×aF)
def kX(a:ByteArray)(b:gu):PX eU gu:=av (lift (cZ a [100,101,102,97,117,108,116])) λd=>if d then
  av (lift (bU a [58])) λ_=>av (hn (iu a (aS 0 0))) λc=>cG (b++[([],c)])else cG b
def ht(a:ByteArray)(f:Int->Bool):Nat->gu->PX eU gu
 |0,_=>lift (fj 0 0)
 |k+1,d=>av (kF (cases a f)) λb=>av (hn (iu a (aS 0 0))) λc=>av (lift (gc a [99,97,115,101])) λe=>if e then ht a f k (d++[(b,c)])else kX a (d++[(b,c)])
def fE(b:PX C D)(p:C):PM (D×C):=λe=>match b p e with
 |.ok (a,E,x)=>.ok ((a,E),x)
 |.error B=>.error B
def qi{b:PX C D}{p E:C}{e x:St}{a:D}(c:b p e=.ok (a,E,x)):fE b p e=.ok ((a,E),x):=by simp only[fE,c]
def nz{a:PX C D}{p:C}{e:St}(b:a p e=.error B):fE a p e=.error B:=by simp only[fE,b]
def oJ(a:ByteArray)(j:List UInt8×Nat)(z:aF)(b:gu):PM ao:=au (bU a [125]) λ_=>au (bU a [59]) λ_=>bS (.union j.1 j.2 z b)
def kM(a:ByteArray)(j:List UInt8×Nat)(z:aF)(b:gu×eU):PM ao:=oJ a j z b.1
def rY(a:ByteArray)(j:List UInt8×Nat)(o:Ty×(Int->Bool))(b:(List UInt8×Nat)×List (List UInt8)):PM ao:=
 au (bU a [41]) λ_=>au (bU a [123]) λ_=>au (fE (ht a o.2 13 []) (b.2,[])) (kM a j ⟨b.1.1,b.1.2,o.1⟩)
def qq(a:ByteArray)(j:List UInt8×Nat)(o:Ty×(Int->Bool)):PM ao:=au (fE (name a (aS 0 0)) []) (rY a j o)
def oL(a:ByteArray)(j:List UInt8×Nat):PM ao:=au (bU a [115,119,105,116,99,104]) λ_=>au (bU a [40]) λ_=>au (nA a) (qq a j)
def dP(a:ByteArray)(b:Nat):PM ao:=au (iy b) λ_=>au (gp a) (oL a)
def FV{a:ByteArray}{f:Int->Bool}:∀(d:Nat) (h:List Int) (q:List (Int×Int)) (e:St) (g:List Int) (G:List (Int×Int)) (x:St),hj a f d h q e=.ok (g,G,x)->q.length<G.length/\G.length<=12:=by
 intro d;induction d with
 |zero=>intro h q e g G x b;simp only[hj]at b;cases b
 |succ d r=>
  intro h q e g G x b;cases i:bU a [99,97,115,101] e with
  |error B=>rw[wT i]at b;cases b
  |ok o=>
   obtain⟨o,s⟩:=o;by_cases n:12<=q.length
   .rw[wU i n]at b;cases b
   .rw[wV i n]at b;unfold wX at b;cases k:fR a f q s with
    |error B=>rw[bl k]at b;cases b
    |ok c=>
     obtain⟨j,w,t⟩:=c;rw[aE k]at b;have v:=yj k;cases l:bU a [58] t with
     |error B=>rw[bl (ci l)]at b;cases b
     |ok p=>
      obtain⟨p,u⟩:=p;rw[aE (aW l)]at b;cases m:gc a [99,97,115,101] u with
      |error B=>rw[bl (ci m)]at b;cases b
      |ok c=>
       obtain⟨c,y⟩:=c;rw[aE (aW m)]at b;cases c with
       |true=>
        have:=r _ _ _ _ _ _ b;omega
       |false=>
        simp only[Ye,if_false,cG]at b
        cases b
        omega
def fv.l{w b:List (Nat×Obj)}{c:TypeId}{v:Value}{j:Nat}{d:List Value}(n:∀f∈w,f∈b)(a:fv w c v j d):fv b c v j d:=by
 rcases a with a|⟨h,e,g,i,k,l,m⟩
 .exact Y8 a
 .exact Ya ⟨h,e,g,i,k,n _ l,m⟩
def bm.bv{b:List Nat}{w c:List (Nat×Obj)}{r:World}(d:bm b w r)(e:bm b c r):bm b (w++c) r:=by
 intro f a;rcases Yn.1 a with a|a
 .exact d f a
 .exact e f a
abbrev iM(f:(List Int×aF)×Value):List Value:=f.2::hk f.1.2
structure fX(c:Ad)(a:ByteArray)(r:World)(l o F nq:Nat)(v:Value)(f:Int->Bool)(j:List UInt8×Nat)(z:aF)(n:gu)(u:List Value)(w:List (Nat×Obj))(s:List Nat)(p:List (List UInt8))(q:List (Int×Int))(A:Value)(e:St)(t:World):Prop where
 B:ai [c.R,c.S,c.N] r t
 rd:Rd (c.v s) a e t
 C:∀b∈[l,o,nq],b∈s
 H:l≠o/\l≠nq/\o≠nq
 E:∀y∈s,r.heap.size<=y
 G:∀g,A.ownBlock=some g->g∈s/\g ∉ [l,o,nq]
 aH:dp o p t
 cl:bm (c.v s).X (aS o F).bs t
 a0:cN nq q t
 e7:gx (c.v s).X v f t
 I:t.heap[l]? = some (.cells #[.string ⟨j.1.toArray⟩,.int .i64 j.2,.string ⟨z.t.toArray⟩,.int .i64 z.m,bW z.k,A] 358)
 row:t.ownsRow r.heap.size 363 4 A n.length ((n.zip u).flatMap iM)
 ak:u.length=n.length
 c5:bm (c.v s).X w t
 cr:∀i (h:i<n.length) (h':i<u.length),fv w 2 u[i] n[i].1.length (n[i].1.map λj=>Value.int .i64 j)
section
variable {c : Ad} {a : ByteArray} {r t H : World} {l o F nq : Nat} {v : Value} {f : Int -> Bool} {j : List UInt8 × Nat} {z : aF} {n : gu} {u : List Value} {w : List (Nat × Obj)} {s : List Nat} {p E : List (List UInt8)} {q G : List (Int × Int)} {A : Value} {e x J : St}
def fX.ck(g:fX c a r l o F nq v f j z n u w s p q A e t):∃ad b,A=.slice ad n.length b:=by
 rcases g.row.2 with⟨rfl,d⟩|⟨i,b,h,rfl,_⟩
 .exact⟨none,0,by rw[d]⟩
 .exact⟨_,_,rfl⟩
def fX.aZ(h:Rd c a J r)(d:fX c a r l o F nq v f j z n u w s p q A e t){b:Nat}(g:b∈[l,o,nq]):cT (c.v s) b:=by
 obtain⟨k,m,x,y⟩:=h.K;have i:=d.E _ (d.C b g);refine⟨Yf _ (d.C b g),?_,?_,?_,?_⟩<;>simp only[Ad.v]<;>omega
def fX.a4{m:List Nat}(I:Rd c a J r)(b:fX c a r l o F nq v f j z n u w s p q A e t)(i:ai m t H)(k:∀d∈m,d=c.S\/d=o\/d=nq)(C:Rd (c.v s) a x H)(M:dp o E H)(L:cN nq G H) :
  fX c a r l o F nq v f j z n u w s E G A x H:=by
 obtain⟨a0,a1,a2,a3⟩:=I.K;obtain⟨N,O,P⟩:=b.H;have a4:=b.E _ (b.C l (by simp));have B:∀d∈m,d∈(c.v s).X:=by
  intro d h;rcases k d h with rfl|rfl|rfl
  .exact C.C.2.1
  .exact Yf _ (b.C _ (by simp))
  .exact Yf _ (b.C _ (by simp))
 refine⟨b.B.ba i ?_,C,b.C,b.H,b.E,b.G,M,b.cl.h i B,L,b.e7.h i B,(i.i _ (aj b.I) ?_).trans b.I,aX b.row i ?_,b.ak,b.c5.h i B,b.cr⟩
 .intro d h;rcases k d h with rfl|rfl|rfl
  .exact Y8 (by simp)
  .exact Ya (b.E _ (b.C _ (by simp)))
  .exact Ya (b.E _ (b.C _ (by simp)))
 .intro h;rcases k _ h with g|g|g<;>omega
 .intro D K h;have y:=b.G D K;have R:=b.E _ y.1;rcases k _ h with g|g|g
  .omega
  .exact y.2 (by rw[g];simp)
  .exact y.2 (by rw[g];simp)
def fX.bd(g:Rd c a J r)(b:fX c a r l o F nq v f j z n u w s p q A e t)(d:ai [c.S] t H)(h:Rd (c.v s) a x H):fX c a r l o F nq v f j z n u w s p q A x H:=by
 have i:=g.K.2.1;have m:=b.E _ (b.C o (by simp));have k:=b.E _ (b.C nq (by simp));exact b.a4 g d (by simp) h (b.aH.h d (by simp;omega)) (b.a0.h d (by simp;omega))
def fX.t(d:Rd c a J r)(m:fX c a r l o F nq v f j z n u w s p q A e t)(b:Below t.heap.size t H):fX c a r l o F nq v f j z n u w s p q A e H:=
 m.a4 d (br [] b) (by simp) (m.rd.t b) (m.aH.h (br [] b) (by simp)) (m.a0.h (br [] b) (by simp))
def zL{N B:World}{g I:Nat}{cv:Value}{cs:List Int}{d:aF}{bs':List (Nat×Obj)}(P:Rd c a J r)(h:fX c a r l o F nq v f j z n u w s p q A e t)(b5:bm (c.v s).X bs' t)(b4:fv bs' 2 cv cs.length (cs.map λj=>Value.int .i64 j))(i:Below t.heap.size t N)
  (a7:B.ownsRow r.heap.size 363 4 (.slice (some ⟨g,0,none⟩) (n.length+1) I) (n.length+1) ((n.zip u).flatMap iM++iM ((cs,d),cv)))
  (C:N.grownBy B A.ownBlock) (H:A.ownBlock=some g\/g=N.heap.size) (b7:g<B.heap.size) :
  fX c a r l o F nq v f j z (n++[(cs,d)]) (u++[cv]) (w++bs') (g::s) p q (.slice (some ⟨g,0,none⟩) (n.length+1) I) e (B.setCell ⟨l,5,none⟩ (.slice (some ⟨g,0,none⟩) (n.length+1) I)):=by
 obtain⟨b8,_⟩:=gH a7 (g:=g) rfl;have m:=h.t P i;have b6:=b5.h (br [] i) (by simp);have E:l∈[l,o,nq]:=by simp
 have c0:o∈[l,o,nq]:=by simp
 have b9:nq∈[l,o,nq]:=by simp
 obtain⟨c2,c3,c4⟩:=h.H;have a9:∀b∈[l,o,nq],r.heap.size<=b:=λb i=>h.E _ (h.C b i);have a6:∀b∈[l,o,nq],b<N.heap.size:=λb i=>m.rd.al b (Yf _ (h.C b i));have c7:=C.size;have a4:g ∉ [l,o,nq]:=by
  rcases H with a5|a5
  .exact(h.G g a5).2
  .intro k;have:=a6 g k;omega
 have a1:∀b,A.ownBlock=some b->r.heap.size<=b/\b∈(c.v s).X:=λb i=>⟨h.E _ (h.G b i).1,Yf _ (h.G b i).1⟩;have M:=eJ C;have x:ai [l] B (B.setCell ⟨l,5,none⟩ (.slice (some ⟨g,0,none⟩) (n.length+1) I)):=(ah [l] B).O (by simp) _;have a3:∀b∈[l,o,nq],b ∉ A.ownBlock.toList:=by
  intro b i k;exact(h.G b (by simpa using k)).2 i
 have R:∀b,A.ownBlock=some b->b∈(c.v s).X:=λb i=>(a1 b i).2;have K:∀O∈[l],O∈(c.v (g::s)).X:=by
  intro O D;simp only[Yc]at D;subst D;exact Yf _ (Y5 _ (h.C _ E))
 refine⟨?_,?_,λb i=>Y5 _ (h.C b i),h.H,?_,?_,?_,?_,?_,?_,?_,?_,by simp[h.ak],?_,?_⟩
 .refine(m.B.ba M ?_).ba x ?_
  .intro a8 k;exact Ya (a1 a8 (by simpa using k)).1
  .intro a8 k;simp only[Yc]at k;subst k;exact Ya (a9 _ E)
 .exact P.ba (cC c (g::s)) (qM P (cC c s) m.rd C a1 H b7) x (by
   intro O D;exact⟨by simp only[Yc]at D;subst D;exact a9 _ E,K O D⟩)
 .intro c1 a2;rcases Yg.1 a2 with rfl|a2
  .exact b8
  .exact h.E c1 a2
 .intro b2 G;simp only[Value.ownBlock,Yu]at G;subst G;exact⟨Yb,a4⟩
 .exact(m.aH.h M (a3 _ c0)).h x (by simp;omega)
 .exact(m.cl.aN C R H).h x K
 .exact(m.a0.h M (a3 _ b9)).h x (by simp;omega)
 .exact(m.e7.aN C R H).h x K
 .exact bu (i:=5) ((M.i _ (a6 _ E) (a3 _ E)).trans m.I) _
 .have:=aX a7 x (by
   intro b2 G;simp only[Value.ownBlock,Yu]at G;subst G;intro k;simp only[Yc]at k;exact a4 (k▸E))
  rw[List.zip_append (by exact h.ak.symm),YK];simpa using this
 .exact((m.c5.bv b6).aN C R H).h x K
 .intro y b3 c5;by_cases L:y<n.length
  .have S:y<u.length:=by rw[h.ak];exact L
   rw[List.getElem_append_left L,List.getElem_append_left S];exact(h.cr y L S).l (λf a0=>Yf _ a0)
  .have S:y=n.length:=by simp at b3;omega
   have c6:¬y<u.length:=by rw[h.ak];exact L
   rw[List.getElem_append_right (by omega),List.getElem_append_right (by omega)];have b0:y-n.length=0:=by omega
   have b1:y-u.length=0:=by rw[h.ak];omega
   simp only[b0,b1,List.getElem_cons_zero];exact b4.l (λf a0=>Ym _ a0)
def JC:∀(a:List ((List Int×aF)×Value)),(a.flatMap iM).length=a.length*4:=by
 intro a;induction a with
 |nil=>rfl
 |cons c d b=>simp only[YD,Yq,YC,b];simp;omega
def fX.fin(k:Rd c a J r)(d:fX c a r l o F nq v f j z n u w s p q A e t)(P:n.length<=1000){G:Except Mar.M (ao×St)}(D:G=.ok (.union j.1 j.2 z n,e)):fV [c.R,c.S,c.N] c a r G (.returned (.pointer (some ⟨l,0,none⟩))) t:=by
 have y:∀h,r.heap.size<=h->h ∉ c.X:=λh a2 a0=>by have:=k.al _ a0;omega
 have E:bm c.X w t:=d.c5.a9 (λa5 a1=>Ym _ a1);have C:=Yp d.I (y _ (d.E _ (d.C l (by simp))));refine⟨d.B,Y8 ⟨.union j.1 j.2 z n,e,l,?_⟩⟩;rcases d.row.2 with⟨rfl,g⟩|⟨B,H,x,rfl,K,L,M,a3,a4,O⟩
 .have:n=[]:=Yv.1 g;subst this;refine⟨_::w,D,rfl,jk k.C d.rd,⟨.slice none 0 0,u,Yb,d.ak,Y8 ⟨rfl,rfl,rfl⟩,λm g i=>(d.cr m g i).l (λf b=>Y5 _ b)⟩,?_⟩;intro f b;rcases Yg.1 b with rfl|b
  .exact C
  .exact E f b
 .refine⟨_::(B,.cells x 363)::w,D,rfl,jk k.C d.rd,⟨_,u,Yb,d.ak,Ya ⟨B,H,x,rfl,⟨M,P⟩,by simp,?_⟩,λm g i=>(d.cr m g i).l (λf b=>Y5 _ (Y5 _ b))⟩,?_⟩
  .have I:((n.zip u).flatMap λf=>f.2::hk f.1.2).length=n.length*4:=by
    have:=JC (n.zip u);rw[List.length_zip,d.ak,Nat.min_self]at this;exact this
   rw[I];exact O
  .intro f b;rcases Yg.1 b with rfl|b
   .exact C
   .rcases Yg.1 b with rfl|b
    .exact⟨L,y _ K⟩
    .exact E f b
end
end
section
variable {b j:Ad}{e k bx nq d:Nat}{D:TypeId}{g:List Nat}{q t l w:Value}{z u:gu}{o:List (Nat×Obj)}{A:List Value}{m:List (Int×Int)}{r:List UInt8×Nat}{p:Int->Bool}{h:List (List UInt8)}{c s a:World}{B C:Type}{f n x:St}
def OG(e:eF j b){c:ByteArray}(d:Rd j c f a) :
  Calls prog 197 #[.pointer (some ⟨b.R,0,none⟩)] a (ub j c a (nA c f)):=by
 have:=OF d;rw[e.1]at this;exact this
def FZ(h:eF j b){c:ByteArray}{v:Value}{e:List (Int×Int)}(g:Rd j c f a)(i:gx j.X v p a)(l:cT j d)(k:cN d e a) :
  Calls prog 199 #[.pointer (some ⟨b.R,0,none⟩),.map (some d),v] a (mD j c a d (cases c p e f)):=by
 have:=FY g i l k;rw[h.1]at this;exact this
def wY(e:eF j b){c:ByteArray}(l:cT j d)(g:Rd j c f a)(k:dp d h a)(i:bm j.X (aS d bx).bs a) :
  Calls prog 185 #[.pointer (some ⟨b.R,0,none⟩),(aS d bx).v] a (jf [b.S,d] j c a (name c (aS 0 0) h f) fQ (dp d)):=by
 have:=yc (wZ (bx:=bx) l) g k i;rw[e.1,e.2.1]at this;exact this
def zP(e:eF j b){c:ByteArray}(l:cT j d)(g:Rd j c f a)(k:dp d h a)(i:bm j.X (aS d bx).bs a) :
  Calls prog 200 #[.pointer (some ⟨b.R,0,none⟩),(aS d bx).v] a (jf [b.S,d] j c a (iu c (aS 0 0) h f) iN (dp d)):=by
 have:=FD (wZ (bx:=bx) l) g k i;rw[e.1,e.2.1]at this;exact this
def ym(c:World)(nq:Nat):Nat:=match c.heap[nq]? with
 |some (.map a _)=>a.size
 |_=>0
def Ch(a:cN nq m c):ym c nq=m.length:=by
 have b:c.heap[nq]? = some (.map (m.mapIdx λd p=>(⟨.int .i64 p.1,.int .i64 p.2,d⟩:MapEntry)).toArray m.length):=a;unfold ym;rw[b];simp
structure jI(b:Ad)(text:ByteArray)(a:World)(e d bx:Nat)(v:Value)(p:Int->Bool)(cells:Array Value)(g:List Nat)(h:List (List UInt8))(f:St)(c:World):Prop where
 B:ai [b.R,b.S,b.N] a c
 rd:Rd (b.v g) text f c
 C:e∈g/\d∈g/\e≠d
 E:∀y∈g,a.heap.size<=y
 aH:dp d h c
 cl:bm (b.v g).X (aS d bx).bs c
 e7:gx (b.v g).X v p c
 I:c.heap[e]? = some (.cells cells 358)
def jI.a4{m:ByteArray}{v:Value}{r:Array Value}{w:List (List UInt8)}{o:List Nat}(z:Rd b m x a)(i:jI b m a e d bx v p r g h f c)(l:ai o c s)(q:∀j∈o,j=b.S\/j=d)(u:Rd (b.v g) m n s)(A:dp d w s) :
  jI b m a e d bx v p r g w n s:=by
 have B:=z.K.2.1;have C:=i.E _ i.C.1;have t:∀j∈o,j∈(b.v g).X:=by
  intro j k;rcases q j k with rfl|rfl
  .exact u.C.2.1
  .exact Yf _ i.C.2.1
 refine⟨i.B.ba l ?_,u,i.C,i.E,A,i.cl.h l t,i.e7.h l t,(l.i _ (aj i.I) ?_).trans i.I⟩
 .intro j k;rcases q j k with rfl|rfl
  .exact Y8 (by simp)
  .exact Ya (i.E _ i.C.2.1)
 .intro k;have:=i.C.2.2;rcases q _ k with y|y<;>omega
def jI.bd{j:ByteArray}{v:Value}{k:Array Value}(l:Rd b j x a)(i:jI b j a e d bx v p k g h f c)(m:ai [b.S] c s)(o:Rd (b.v g) j n s) :
  jI b j a e d bx v p k g h n s:=by
 have q:=l.K.2.1;have r:=i.E _ i.C.2.1;exact i.a4 l m (by simp) o (i.aH.h m (by simp;omega))
def jI.aZ{j:ByteArray}{v:Value}{k:Array Value}(l:Rd b j x a)(i:jI b j a e d bx v p k g h f c):cT (b.v g) d:=by
 obtain⟨n,o,q,r⟩:=l.K;have m:=i.E _ i.C.2.1;refine⟨Yf _ i.C.2.1,?_,?_,?_,?_⟩<;>simp only[Ad.v]<;>omega
def FS{e h b:Value}(c:a.heap[k]? = some (.cells #[e,h,q,t,l,b] D)) :
  a.cell? ⟨k,2,none⟩=some q/\a.cell? ⟨k,3,none⟩=some t/\a.cell? ⟨k,4,none⟩=some l/\∀d,a.frozen? ⟨k,d,none⟩=false:=by
 refine⟨?_,?_,?_,?_⟩<;>simp[World.cell?,World.frozen?,c]
def jI.bn{u:ByteArray}{v k z w:Value}(A:Rd b u x a)(j:jI b u a e d bx v p #[q,k,t,l,z,w] g h f c)(m y r:Value) :
  jI b u a e d bx v p #[q,k,m,y,r,w] g h f (((c.setCell ⟨e,2,none⟩ m).setCell ⟨e,3,none⟩ y).setCell ⟨e,4,none⟩ r):=by
 have n:ai [e] c (((c.setCell ⟨e,2,none⟩ m).setCell ⟨e,3,none⟩ y).setCell ⟨e,4,none⟩ r):=(((ah [e] c).O (p:=⟨e,2,none⟩) (by simp) _).O (p:=⟨e,3,none⟩) (by simp) _).O (p:=⟨e,4,none⟩) (by simp) _;have D:=j.E _ j.C.1;have s:∀m∈[e],m∈(b.v g).X:=by
  intro m o;simp only[Yc]at o;subst o;exact Yf _ j.C.1
 refine⟨j.B.ba n (by simp;omega),A.ba (cC b g) j.rd n (λm o=>⟨by simp only[Yc]at o;omega,s m o⟩),j.C,j.E,j.aH.h n (by have:=j.C.2.2;simp;omega),j.cl.h n s,j.e7.h n s,?_⟩;have B:=bu (i:=2) j.I m;have C:=bu (i:=3) B y;exact bu (i:=4) C r
def fX.hK{l:ByteArray}{v:Value}{k:aF}(j:fX b l a e d bx nq v p r k z A o g h m w f c)(i:Obj) :
  (c.alloc i).ownsRow a.heap.size 363 4 w z.length ((z.zip A).flatMap iM):=aX j.row ((ah [] c).d i) (by simp)
def fX.fF{t:ByteArray}{l:World}{v:Value}{i:aF}{k:Obj}(j:fX b t a e d bx nq v p r i z A o g h m w f c)(q:(c.alloc k).grownBy l w.ownBlock) :
  l.heap[e]? = some (.cells #[.string ⟨r.1.toArray⟩,.int .i64 r.2,.string ⟨i.t.toArray⟩,.int .i64 i.m,bW i.k,w] 358):=by
 have s:=aj j.I;exact(q.block _ (by simp;omega) (λn=>(j.G _ n.symm).2 (by simp))).trans ((((ah [] c).d k).i _ s (by simp)).trans j.I)
def Fu{n:ByteArray}{v:Value}{sel:aF}(L:Rd b n x a)(i:jI b n a e d bx v p #[.string ⟨r.1.toArray⟩,.int .i64 r.2,.string ⟨sel.t.toArray⟩,.int .i64 sel.m,bW sel.k,.slice none 0 0] g h f c) :
  fX b n a e d bx c.heap.size v p r sel [] [] [] (c.heap.size::g) h [] (.slice none 0 0) f (c.alloc (.map #[] 0)):=by
 have l:ai [] c (c.alloc (.map #[] 0)):=(ah [] c).d _;have F:=aj i.I;have N:d<c.heap.size:=i.rd.al _ (Yf _ i.C.2.1);have I:=i.B.F;have q:∀o,bm (b.v g).X o c->bm (b.v (c.heap.size::g)).X o (c.alloc (.map #[] 0)):=λo j=>(j.aa (Y4 _)).h l (by simp);refine⟨i.B.d _,i.rd.G _,?_,⟨i.C.2.2,by omega,by omega⟩,?_,(by intro K C;cases C),i.aH.h l (by simp),q _ i.cl,aJ rfl,?_,(l.i _ F (by simp)).trans i.I,⟨rfl,Y8 ⟨rfl,rfl⟩⟩,rfl,(by intro p D;cases D),(by intro M u;cases u)⟩
 .intro k j;simp at j;rcases j with rfl|rfl|rfl
  .exact Y5 _ i.C.1
  .exact Y5 _ i.C.2.1
  .exact Yb
 .intro J m;rcases Yg.1 m with rfl|m
  .exact I
  .exact i.E J m
 .obtain⟨o,t,H,G,w,y,z,A⟩:=i.e7;exact⟨o,t,H,G,w,q o y,z,λs B=>A s (B.a9 λ_ E=>Y5 _ E)⟩
def oa{e h b:Value}(c:a.heap[k]? = some (.cells #[e,h,q,t,l,b] D)) :
  a.cell? ⟨k,2,none⟩=some q/\a.cell? ⟨k,5,none⟩=some b/\∀d,a.frozen? ⟨k,d,none⟩=false:=by
 refine⟨?_,?_,?_⟩<;>simp[World.cell?,World.frozen?,c]
def zQ(a:ByteArray)(p:Int->Bool)(c:Nat)(u:gu)(b:List Int):PX eU gu:=av (hn (iu a (aS 0 0))) λl=>av (lift (gc a [99,97,115,101])) λd=>if d then ht a p c (u++[(b,l)])else kX a (u++[(b,l)])
def tJ{e:Type}{a b:PX e B}{c d:e}(g:a c f=b d n):fE a c f=fE b d n:=by simp only[fE,g]
def sE{b c:PM B}{a:B->PM C}(d:b f=c n):au b a f=au c a n:=by simp only[au,d]
def FG{a:ByteArray}{d:Nat}{b:List Int}{e:List (Int×Int)}{c:gu×eU->PM C}(g:cases a p m f=.ok (b,e,n)) :
  au (fE (ht a p (d+1) u) (h,m)) c f=au (fE (zQ a p d u b) (h,e)) c n:=by
 refine sE (tJ ?_);simp only[ht];exact aE (vy g)
def FF{b:ByteArray}{e:Nat}{a:Mar.M}{c:gu×eU->PM C}(d:cases b p m f=.error a) :
  au (fE (ht b p (e+1) u) (h,m)) c f=.error a:=by
 refine bj (nz ?_);simp only[ht];exact bl (vx d)
def Cn(b:List Int)(l:aF)(q:Option Addr)(k t:Nat):∀c∈iM ((b,l),.slice q k t),c.oneCell'=true:=by
 intro c a;rcases Yg.1 a with rfl|a
 .rfl
 .exact Co l c a
end
def RD{a:Ad}{b:ByteArray}{l:St}(k:Nat){w:World}(c:Rd a b l w) :
  Calls prog 123 #[.pointer (some ⟨a.R,0,none⟩),.int .i64 k] w (fV [a.R,a.S,a.N] a b w (dP b k l)):=by
 have q3:=jq;have q4:=jr;obtain⟨k2,i7,j9,k0,k1⟩:=info_parts IN;obtain⟨q8,q9,r0,r1⟩:=c.K;go_in;go_wp2_with fail;refine(vj k c).mono ?_;rintro t r3 ⟨i9,⟨r2,s1,e1,rfl,n4⟩|⟨s,e1,p,f,rfl,g⟩⟩;rotate_left
 .exact aq (dx (i9.l (by simp)) (ah [] _) (bj e1) f g)
 have f1:=i9.l (M':=[a.R,a.S,a.N]) (by simp);go_wp2_with fail;refine(tp n4).mono ?_;rintro t a4 ⟨j1,⟨n,p2,g9,rfl,n6⟩|⟨s,g9,p,f,rfl,g⟩⟩;rotate_left
 .exact aq (dx (f1.a (j1.l (by simp))) f1 ((as e1).trans (bj g9)) f g)
 have i2:=f1.a (j1.l (M':=[a.R,a.S,a.N]) (by simp));have c9:U (dP b k l=oL b n p2):=(as e1).trans (as g9);dsimp only[fQ];have q7:=i2.F;have n7:=n6.G (.cells #[.string ⟨n.1.toArray⟩,.int .i64 n.2,.string ⟨#[]⟩,.int .i64 0,.nilIface,.slice none 0 0] 358);have j5:=aJ (w:=a4) (o:=.cells #[.string ⟨n.1.toArray⟩,.int .i64 n.2,.string ⟨#[]⟩,.int .i64 0,.nilIface,.slice none 0 0] 358) rfl;have f2:=i2.d (.cells #[.string ⟨n.1.toArray⟩,.int .i64 n.2,.string ⟨#[]⟩,.int .i64 0,.nilIface,.slice none 0 0] 358);have g4:a4.heap.size ∉ [a.S]:=by simp;omega
 go_wp2_with fail;refine(ff (eG a _) _ n7).mono ?_;rintro t r4 ⟨f7,⟨r7,s2,c4,rfl,n8⟩|⟨s,c4,p,f,rfl,g⟩⟩;rotate_left
 .exact aq (dx (f2.a (f7.l (by simp))) f2 (c9.b.trans (bj c4)) f g)
 have j6:=(f7.i _ (aj j5) g4).trans j5;have f3:=f2.a (f7.l (M':=[a.R,a.S,a.N]) (by simp));go_wp2_with fail;refine(ff (eG a _) _ n8).mono ?_;rintro t a7 ⟨I,⟨r8,c6,A,rfl,c2⟩|⟨s,A,p,f,rfl,g⟩⟩;rotate_left
 .exact aq (dx (f3.a (I.l (by simp))) f3 (c9.b.trans ((as c4).trans (bj A))) f g)
 have j7:=(I.i _ (aj j6) g4).trans j6;have f4:=f3.a (I.l (M':=[a.R,a.S,a.N]) (by simp));go_wp2_with fail;refine(OG (eG a _) c2).mono ?_;rintro t q ⟨z,⟨⟨y,J⟩,b6,v,F,rfl,c3,i6⟩|⟨s,F,p,f,rfl,g⟩⟩;rotate_left
 .exact aq (dx (f4.a (z.l (by simp[Ad.aa]))) f4 (c9.b.trans ((as c4).trans ((as A).trans (bj F)))) f g)
 have j8:=(z.i _ (aj j7) g4).trans j7;have i3:=f4.a (z.l (M':=[a.R,a.S,a.N]) (by simp[Ad.aa]));have d0:U (dP b k l=qq b n (y,J) b6):=c9.b.trans ((as c4).trans ((as A).trans (as F)));have n0:=aj j8;dsimp only at i6 ⊢;obtain⟨e9,h2,i4⟩:∃e9 h2,bW y=.iface e9 h2:=by cases y<;>exact⟨_,_,rfl⟩
 rw[i4];go_wp2_with fail;refine(uo _).mono ?_;rintro t b5 ⟨a2,a5,rfl,j3,p9,q5,i1,i5,o1⟩;have m9:a2<b5.heap.size:=by
  obtain⟨_,_,_,g3⟩:=id i1;exact aj g3
 have G:U (jI a b w a4.heap.size a2 a5 v J #[.string ⟨n.1.toArray⟩,.int .i64 n.2,.string ⟨#[]⟩,.int .i64 0,.nilIface,.slice none 0 0] [a2,a4.heap.size] [] b6 b5):=by
  have f8:ai [] q b5:=br [] i5;have m3:∀P,bm (a.aa a4.heap.size).X P q->bm (a.v [a2,a4.heap.size]).X P b5:=λP d9=>(d9.aa j3).h f8 (by simp);refine⟨i3.a (f8.l (by simp)),c3.j0 i5 j3 m9,⟨by simp,by simp,by omega⟩,?_,i1,?_,?_,(f8.i _ n0 (by simp)).trans j8⟩
  .intro b3 o2;simp at o2;have:=i3.F;omega
  .intro p d9;simp only[aS,Yc]at d9;subst d9;refine⟨o1,?_⟩;simp[Ad.v];refine⟨by omega,by omega,?_⟩;intro g3;have:=c.al _ g3;omega
  .obtain⟨P,s,o6,o5,l8,l9,m0,m1⟩:=i6;exact⟨P,s,o6,o5,l8,m3 P l9,m0,λl3 m2=>m1 l3 (m2.a9 λ_ d=>Y5 _ d)⟩
 go_wp2_with fail;refine(wY (bx:=a5) (cC a _) (G.b.aZ c) G.b.rd G.b.aH G.b.cl).mono ?_;rintro t b1 ⟨a0,⟨j,k4,c7,C,rfl,b4,i8⟩|⟨s,C,p,f,rfl,g⟩⟩;rotate_left
 .refine aq (dx (G.b.B.ba a0 ?_) G.b.B (d0.b.trans (bj (nz C))) f g);intro b2 d;simp at d ⊢;rcases d with d|d
  .exact Y8 (Ya (Y8 d))
  .exact Ya (by have:=G.b.E _ G.b.C.2.1;omega)
 have d2:=Z ((G.b.a4 c a0 (by simp) b4 i8).bn c (.string ⟨j.1.toArray⟩) (.int .i64 j.2) (.iface e9 h2))
 obtain⟨p5,p6,p7,q1⟩:=FS (G.b.a4 c a0 (by simp) b4 i8).I;dsimp only[fQ];go_wp2_with fail;refine(ff (cC a _) _ d2.b.rd).mono ?_;rintro t r5 ⟨j2,⟨s0,s3,e2,rfl,n9⟩|⟨s,e2,p,f,rfl,g⟩⟩;rotate_left
 .exact aq (dx (d2.b.B.a (j2.l (by simp))) d2.b.B (d0.b.trans ((as (qi C)).trans (bj e2))) f g)
 have d3:=Z (d2.b.bd c j2 n9);go_wp2_with fail;refine(ff (cC a _) _ d3.b.rd).mono ?_;rintro t c5 ⟨j0,⟨r6,k6,g8,rfl,n5⟩|⟨s,g8,p,f,rfl,g⟩⟩;rotate_left
 .exact aq (dx (d3.b.B.a (j0.l (by simp))) d3.b.B (d0.b.trans ((as (qi C)).trans ((as e2).trans (bj g8)))) f g)
 have h9:=d3.b.bd c j0 n5;rw[<-i4]at h9;have l2:=Z (Fu (n:=n) (sel:=⟨j.1,j.2,y⟩) c h9);have k7:U (dP b k l=au (fE (ht b J 13 []) (k4,[])) (kM b n ⟨j.1,j.2,y⟩) k6):=d0.b.trans ((as (qi C)).trans ((as e2).trans (as g8)));go_wp2;go_loopw [10] (λp h1=>∃(b3:Bool) (e:gu) (d7:List Value) (P:List (Nat×Obj)) (H:List Nat) (a3:List (List UInt8)) (a6:List (Int×Int)) (k3:Value) (e5:St),p=.bool b3/\e.length<=a6.length/\a6.length<=12/\U (fX a b w a4.heap.size a2 a5 c5.heap.size v J n ⟨j.1,j.2,y⟩ e d7 P H a3 a6 k3 e5 h1)/\
   U (dP b k l=au (fE (if b3 then ht b J (13-e.length) e else kX b e) (a3,a6)) (kM b n ⟨j.1,j.2,y⟩) e5)) (λ_ h1=>13-ym h1 c5.heap.size)
 case atStart=>exact⟨true,[],[],[],_,k4,[],_,k6,rfl,by simp,by simp,l2,k7⟩
 case round=>
  obtain⟨b3,e,d7,P,H,a3,a6,k3,e5,rfl,q6,q2,r,c8⟩:=hrel;obtain⟨ad,b8,rfl⟩:=r.b.ck;cases b3 with
  |false=>
   go_wp2_with fail;refine(mN (cC a H) _ r.b.rd).mono ?_;rintro t a7 ⟨I,⟨h6,c6,A,rfl,c2⟩|⟨s,A,p,f,rfl,g⟩⟩;rotate_left
   .exact(show bodyPost prog Tryz.f123 (fV [a.R,a.S,a.N] a b w (dP b k l)) (Exit.panic _) _ a7 from aq (dx (r.b.B.a (I.l (by simp))) r.b.B (c8.b.trans (bj (nz (bl (ci A))))) f g))
   have D:=Z (r.b.bd c I c2);cases h6 with
   |false=>
    have K:U (dP b k l=oJ b n ⟨j.1,j.2,y⟩ e c6):=c8.b.trans (as (qi ((aE (aW A)).trans rfl)));go_wp2_with fail;refine(ff (cC a _) _ D.b.rd).mono ?_;rintro t h4 ⟨c0,⟨o7,p3,a1,rfl,g6⟩|⟨s,a1,p,f,rfl,g⟩⟩;rotate_left
    .exact(show bodyPost prog Tryz.f123 (fV [a.R,a.S,a.N] a b w (dP b k l)) (Exit.panic _) _ h4 from aq (dx (D.b.B.a (c0.l (by simp))) D.b.B (K.b.trans (bj a1)) f g))
    have O:=Z (D.b.bd c c0 g6);go_wp2_with fail;refine(ff (cC a _) _ O.b.rd).mono ?_;rintro t h5 ⟨c1,⟨o8,p4,b0,rfl,g7⟩|⟨s,b0,p,f,rfl,g⟩⟩;rotate_left
    .exact(show bodyPost prog Tryz.f123 (fV [a.R,a.S,a.N] a b w (dP b k l)) (Exit.panic _) _ h5 from aq (dx (O.b.B.a (c1.l (by simp))) O.b.B (K.b.trans ((as a1).trans (bj b0))) f g))
    have e8:=Z (O.b.bd c c1 g7);go_wp2;go_ret;exact e8.b.fin c (by omega) (K.b.trans ((as a1).trans (as b0)))
   |true=>
    have K:U (dP b k l=au (fE (av (lift (bU b [58])) λ_=>av (hn (iu b (aS 0 0))) λm=>cG (e++[([],m)])) (a3,a6)) (kM b n ⟨j.1,j.2,y⟩) c6):=c8.b.trans (sE (tJ (aE (aW A))));go_wp2_with fail;refine(ff (cC a H) _ D.b.rd).mono ?_;rintro t b1 ⟨a0,⟨r9,c7,C,rfl,b4⟩|⟨s,C,p,f,rfl,g⟩⟩;rotate_left
    .exact(show bodyPost prog Tryz.f123 (fV [a.R,a.S,a.N] a b w (dP b k l)) (Exit.panic _) _ b1 from aq (dx (D.b.B.a (a0.l (by simp))) D.b.B (K.b.trans (bj (nz (bl (ci C))))) f g))
    have b7:=Z (D.b.bd c a0 b4);have d1:U (dP b k l=au (fE (av (hn (iu b (aS 0 0))) λm=>cG (e++[([],m)])) (a3,a6)) (kM b n ⟨j.1,j.2,y⟩) c7):=K.b.trans (sE (tJ (aE (aW C))));have e0:Below b1.heap.size b1 b1.drew:=(Below.refl _ _).drew;obtain⟨o3,o4,m4⟩:=oa b7.b.I;have h:=Z (b7.b.t c e0);have e7:=Z (zP (bx:=a5) (cC a H) (h.b.aZ c (by simp)) h.b.rd h.b.aH h.b.cl);have h0:(Value.agg #[.slice none 0 0,.string ⟨#[]⟩,.int .i64 0,.nilIface]).cells.size=4:=by decide
    have f9:e.length+1<=maxLen:=by unfold maxLen;omega
    have g0:(e.length+1)*64<=140737488355328:=by omega
    go_wp2_with fail;refine cR (λh3=>h3.cell? ⟨a4.heap.size,5,none⟩=some (.slice ad e.length b8)) (L:=13) (by kernel_rfl) rfl (by kernel_rfl) (by kernel_rfl) ?_ (λa9=>?_)
    .go_keep
    refine bH [0,1,2,3,4,5,6] ?_;iterate 7 (refine bO (v:=?_) rfl (by kernel_rfl) (λ_ _ _ c=>c) (by rfl) (by assumption) ?_ ?_;rotate_left;focus (intro w E;(try dsimp only at E);go_simp;(try with_reducible rfl));(try simp only[aK,aL,List.set]))
    refine bI ?_;refine cj 7 (by kernel_rfl) rfl λa8 x=>?_;(go_simp;go_at_call 200;refine e7.b.mono ?_;rintro t q ⟨z,⟨m,e4,b6,F,rfl,c3,f6⟩|⟨s,F,p,f,rfl,g⟩⟩;rotate_left;exact(show bodyPost prog Tryz.f123 (fV [a.R,a.S,a.N] a b w (dP b k l)) (Exit.panic _) _ q from aq (dx (h.b.B.ba z (by intro b2 d;simp at d ⊢;rcases d with d|d;exact Y8 (Ya (Y8 d));exact Ya (by have:=h.b.E _ (h.b.C a2 (by simp));omega))) h.b.B (d1.b.trans (bj (nz (bl (rF F))))) f g));have B:=Z (h.b.a4 c z (by intro b2 d;simp at d;rcases d with rfl|rfl;exact Y8 rfl;exact Ya (Y8 rfl)) c3 f6 (h.b.a0.h z (by have:=h.b.H.2.2;have:=h.b.E _ (h.b.C c5.heap.size (by simp));simp[Ad.v];omega)));obtain⟨p0,p1,m6⟩:=oa B.b.I;have g1:=aj B.b.I;have n2:=Nat.ne_of_lt g1;have o0:=B.b.B.F;dsimp only[iN]);refine x.out _ _ ?_ (λa9=>?_)
    .go_keep
    (try simp only[aK,aL,List.set]);refine tk (i:=8) (v:=?_) rfl (by kernel_rfl) (λ_ _ _ c=>c) (by rfl) (by assumption) ?_ ?_;rotate_left
    .intro w E;(try dsimp only at E);go_simp;(try with_reducible rfl)
    (try simp only[aK,aL,List.set]);refine cj 9 (by kernel_rfl) rfl λa8 x=>?_;go_simp;refine x.out _ _ ?_ (λa9=>?_)
    .go_keep
    (try simp only[aK,aL,List.set]);refine cj 10 (by kernel_rfl) rfl λa8 x=>?_;(refine step_append_lies _ (by rfl) _ _ _ (by rfl) w.heap.size 363 k2 _ 4 64 underlying356 i7 j9 k0 k1 h0 (by omega) (.slice ad e.length b8) e.length ((e.zip d7).flatMap iM) (by rfl) (B.b.hK _) ⟨q.heap.size,0,none⟩ 1 1 (iM (([],m),.slice none 0 0)) (by rfl) (by rfl) (World.news_of_block (cs:=(iM (([],m),.slice none 0 0)).toArray) (t:=363) (fr:=(0,0)) (heap_alloc_new q _)) (Cn [] m none 0 0) (by omega) f9 g0 (by simp;omega) (q.heap.size+1) (by simp) ?_;intro d8 l7 b5 g5 b9 f5 g2;obtain⟨o9,h6,m5⟩:=oa (B.b.fF b9));refine x.out _ _ ?_ (λa9=>?_)
    .go_keep
    (try simp only[aK,aL,List.set]);refine bH [11,12] ?_;iterate 2 (refine bO (v:=?_) rfl (by kernel_rfl) (λ_ _ _ c=>c) (by rfl) (by assumption) ?_ ?_;rotate_left;focus (intro w E;(try dsimp only at E);go_simp;(try with_reducible rfl));(try simp only[aK,aL,List.set]))
    refine bI ?_;refine cP (by kernel_rfl) rfl λa8 x=>?_;go_simp;refine x.out _ _ ?_;(try simp only[aK,aL,List.set]);have M:=Z (zL (bs':=[]) (cs:=[]) (cv:=.slice none 0 0) (d:=m) c B.b (by intro J n3;cases n3) (Y8 ⟨rfl,rfl,rfl⟩) ((Below.refl q.heap.size q).alloc (Y4 _) _) g5 b9 (by simpa using f5) g2);have e6:U (dP b k l=oJ b n ⟨j.1,j.2,y⟩ (e++[([],m)]) b6):=d1.b.trans (as (qi ((aE (rG F)).trans rfl)));go_wp2_with fail;refine(ff (cC a _) _ M.b.rd).mono ?_;rintro t h4 ⟨c0,⟨o7,p3,a1,rfl,g6⟩|⟨s,a1,p,f,rfl,g⟩⟩;rotate_left
    .exact(show bodyPost prog Tryz.f123 (fV [a.R,a.S,a.N] a b w (dP b k l)) (Exit.panic _) _ h4 from aq (dx (M.b.B.a (c0.l (by simp))) M.b.B (e6.b.trans (bj a1)) f g))
    have O:=Z (M.b.bd c c0 g6);go_wp2_with fail;refine(ff (cC a _) _ O.b.rd).mono ?_;rintro t h5 ⟨c1,⟨o8,p4,b0,rfl,g7⟩|⟨s,b0,p,f,rfl,g⟩⟩;rotate_left
    .exact(show bodyPost prog Tryz.f123 (fV [a.R,a.S,a.N] a b w (dP b k l)) (Exit.panic _) _ h5 from aq (dx (O.b.B.a (c1.l (by simp))) O.b.B (e6.b.trans ((as a1).trans (bj b0))) f g))
    have e8:=Z (O.b.bd c c1 g7);go_wp2;go_ret;exact e8.b.fin c (by simp;omega) (e6.b.trans ((as a1).trans (as b0)))
  |true=>
   have h8:U (dP b k l=au (fE (ht b J ((12-e.length)+1) e) (a3,a6)) (kM b n ⟨j.1,j.2,y⟩) e5):=by
    have i0:=c8.b;rw[show 13-e.length=(12-e.length)+1 by omega]at i0;exact i0
   go_wp2_with fail;refine(FZ (cC a H) r.b.rd r.b.e7 (r.b.aZ c (by simp)) r.b.a0).mono ?_;rintro t a7 ⟨I,⟨u,e3,c6,f0,l5,A,rfl,c2,n1,j4,m7⟩|⟨s,A,p,f,rfl,g⟩⟩;rotate_left
   .exact(show bodyPost prog Tryz.f123 (fV [a.R,a.S,a.N] a b w (dP b k l)) (Exit.panic _) _ a7 from aq (dx (r.b.B.ba I (by intro b2 d;simp at d ⊢;rcases d with d|d;exact Y8 (Ya (Y8 d));exact Ya (by have:=r.b.E _ (r.b.C c5.heap.size (by simp));omega))) r.b.B (h8.b.trans (FF A)) f g))
   have q0:=FV _ _ _ _ _ _ _ A;have D:=Z (r.b.a4 c I (by intro b2 d;simp at d;rcases d with rfl|rfl;exact Y8 rfl;exact Ya (Ya rfl)) c2 (r.b.aH.h I (by have:=r.b.H.2.2;have:=r.b.E _ (r.b.C a2 (by simp));simp[Ad.v];omega)) n1);have l0:=Ch r.b.a0;have K:U (dP b k l=au (fE (zQ b J (12-e.length) e u) (a3,e3)) (kM b n ⟨j.1,j.2,y⟩) c6):=h8.b.trans (FG A);obtain⟨d4,d6,d5,rfl⟩:∃l4 p l6,f0=.slice l4 p l6:=by rcases j4 with⟨rfl,_⟩|⟨d8,b8,p8,rfl,_⟩<;>exact⟨_,_,_,rfl⟩
   have e0:Below a7.heap.size a7 a7.drew:=(Below.refl _ _).drew;obtain⟨o3,o4,m4⟩:=oa D.b.I;have h:=Z (D.b.t c e0);have e7:=Z (zP (bx:=a5) (cC a H) (h.b.aZ c (by simp)) h.b.rd h.b.aH h.b.cl);have h0:(Value.agg #[.slice none 0 0,.string ⟨#[]⟩,.int .i64 0,.nilIface]).cells.size=4:=by decide
   have f9:e.length+1<=maxLen:=by unfold maxLen;omega
   have g0:(e.length+1)*64<=140737488355328:=by omega
   have m8:∀q,ai [a.S,a2] a7.drew q->bm (a.v H).X l5 q:=λq z=>(m7.h (br [] e0) (by simp)).h z (by intro b2 d;simp at d;rcases d with rfl|rfl;exact h.b.rd.C.2.1;exact Yf _ (h.b.C _ (by simp)));have k8:=Z m8;have k9:=Z j4;go_wp2_with fail;refine cR (λh3=>h3.cell? ⟨a4.heap.size,5,none⟩=some (.slice ad e.length b8)) (L:=14) (by kernel_rfl) rfl (by kernel_rfl) (by kernel_rfl) ?_ (λa9=>?_)
   .go_keep
   refine bH [0,1,2,3,4,5,6,7] ?_;iterate 8 (refine bO (v:=?_) rfl (by kernel_rfl) (λ_ _ _ c=>c) (by rfl) (by assumption) ?_ ?_;rotate_left;focus (intro w E;(try dsimp only at E);go_simp;(try with_reducible rfl));(try simp only[aK,aL,List.set]))
   refine bI ?_;refine cj 8 (by kernel_rfl) rfl λa8 x=>?_;(go_simp;go_at_call 200;refine e7.b.mono ?_;rintro t q ⟨z,⟨m,e4,b6,F,rfl,c3,f6⟩|⟨s,F,p,f,rfl,g⟩⟩;rotate_left;exact(show bodyPost prog Tryz.f123 (fV [a.R,a.S,a.N] a b w (dP b k l)) (Exit.panic _) _ q from aq (dx (h.b.B.ba z (by intro b2 d;simp at d ⊢;rcases d with d|d;exact Y8 (Ya (Y8 d));exact Ya (by have:=h.b.E _ (h.b.C a2 (by simp));omega))) h.b.B (K.b.trans (bj (nz (bl (rF F))))) f g));have B:=Z (h.b.a4 c z (by intro b2 d;simp at d;rcases d with rfl|rfl;exact Y8 rfl;exact Ya (Y8 rfl)) c3 f6 (h.b.a0.h z (by have:=h.b.H.2.2;have:=h.b.E _ (h.b.C c5.heap.size (by simp));simp[Ad.v];omega)));obtain⟨p0,p1,m6⟩:=oa B.b.I;have g1:=aj B.b.I;have n2:=Nat.ne_of_lt g1;have o0:=B.b.B.F;dsimp only[iN]);refine x.out _ _ ?_ (λa9=>?_)
   .go_keep
   (try simp only[aK,aL,List.set]);refine tk (i:=9) (v:=?_) rfl (by kernel_rfl) (λ_ _ _ c=>c) (by rfl) (by assumption) ?_ ?_;rotate_left
   .intro w E;(try dsimp only at E);go_simp;(try with_reducible rfl)
   (try simp only[aK,aL,List.set]);refine cj 10 (by kernel_rfl) rfl λa8 x=>?_;go_simp;refine x.out _ _ ?_ (λa9=>?_)
   .go_keep
   (try simp only[aK,aL,List.set]);refine cj 11 (by kernel_rfl) rfl λa8 x=>?_;(refine step_append_lies _ (by rfl) _ _ _ (by rfl) w.heap.size 363 k2 _ 4 64 underlying356 i7 j9 k0 k1 h0 (by omega) (.slice ad e.length b8) e.length ((e.zip d7).flatMap iM) (by rfl) (B.b.hK _) ⟨q.heap.size,0,none⟩ 1 1 (iM ((u,m),.slice d4 d6 d5)) (by rfl) (by rfl) (World.news_of_block (cs:=(iM ((u,m),.slice d4 d6 d5)).toArray) (t:=363) (fr:=(0,0)) (heap_alloc_new q _)) (Cn u m d4 d6 d5) (by omega) f9 g0 (by simp;omega) (q.heap.size+1) (by simp) ?_;intro d8 l7 b5 g5 b9 f5 g2;obtain⟨o9,h6,m5⟩:=oa (B.b.fF b9));refine x.out _ _ ?_ (λa9=>?_)
   .go_keep
   (try simp only[aK,aL,List.set]);refine bH [12,13] ?_;iterate 2 (refine bO (v:=?_) rfl (by kernel_rfl) (λ_ _ _ c=>c) (by rfl) (by assumption) ?_ ?_;rotate_left;focus (intro w E;(try dsimp only at E);go_simp;(try with_reducible rfl));(try simp only[aK,aL,List.set]))
   refine bI ?_;refine cP (by kernel_rfl) rfl λa8 x=>?_;go_simp;refine x.out _ _ ?_;(try simp only[aK,aL,List.set]);have M:=Z (zL (cs:=u) (cv:=.slice d4 d6 d5) (d:=m) c B.b (k8.b q z) (k9.b) ((Below.refl q.heap.size q).alloc (Y4 _) _) g5 b9 (by simpa using f5) g2);have h7:U (dP b k l=au (fE (av (lift (gc b [99,97,115,101])) λb3=>if b3 then ht b J (12-e.length) (e++[(u,m)])else kX b (e++[(u,m)])) (e4,e3)) (kM b n ⟨j.1,j.2,y⟩) b6):=K.b.trans (sE (tJ (aE (rG F))))
   go_wp2_with fail;refine(vQ (cC a (d8::H)) _ M.b.rd).mono ?_;rintro t b1 ⟨a0,⟨k5,c7,C,rfl,b4⟩|⟨s,C,p,f,rfl,g⟩⟩;rotate_left
   .exact(show bodyPost prog Tryz.f123 (fV [a.R,a.S,a.N] a b w (dP b k l)) (Exit.panic _) _ b1 from aq (dx (M.b.B.a (a0.l (by simp))) M.b.B (h7.b.trans (bj (nz (bl (ci C))))) f g))
   have b7:=Z (M.b.bd c a0 b4);have d1:U (dP b k l=au (fE (if k5=true then ht b J (13-(e++[(u,m)]).length) (e++[(u,m)])else kX b (e++[(u,m)])) (e4,e3)) (kM b n ⟨j.1,j.2,y⟩) c7):=by
    refine h7.b.trans (sE (tJ ((aE (aW C)).trans ?_)));have:13-(e++[(u,m)]).length=12-e.length:=by simp
    rw[this]
   have l1:=Ch b7.b.a0;go_wp2;refine⟨⟨k5,e++[(u,m)],_,_,d8::H,e4,e3,_,c7,rfl,by simp;omega,by omega,b7,d1⟩,?_⟩;rw[l0,l1];omega
structure gM(a:Ad)(d:ByteArray)(b:World)(c bx nq:Nat)(n:List (Nat×Obj))(e:List Nat)(h:List (List UInt8))(g:List (Int×Int))(k:St)(j:World):Prop where
 B:ai [a.R,a.S,a.N,c,nq] b j
 rd:Rd (a.v e) d k j
 E:∀y∈e,b.heap.size<=y
 aH:dp c h j
 cl:bm (a.v e).X (aS c bx).bs j
 a0:cN nq g j
 I:∀p∈n,j.heap[p.1]? = some p.2/\p.1∈e
section
variable {a : Ad} {d : ByteArray} {b j l : World} {c bx nq : Nat} {n B' : List (Nat × Obj)} {e : List Nat} {h s : List (List UInt8)} {g r : List (Int × Int)} {k o q : St}
def cT.v{c:Nat}(b:cT a c)(e:List Nat):cT (a.v e) c:=⟨Ym _ b.1,b.2.1,b.2.2.1,b.2.2.2.1,b.2.2.2.2⟩
def gM.a4{t:List Nat}(u:Rd a d q b)(A:cT a c)(z:cT a nq)(i:gM a d b c bx nq n e h g k j)(w:ai t j l)(v:∀m∈t,m∈[a.R,a.S,a.N,c,nq])(p:Rd (a.v e) d o l)(E:dp c s l)(C:cN nq r l) :
  gM a d b c bx nq n e s r o l:=by
 obtain⟨G,H,I,J⟩:=u.K;have L:=u.al _ A.1;have K:=u.al _ z.1;have B:∀m∈t,m∈(a.v e).X:=by
  intro m f;have f:=v m f;simp at f;rcases f with rfl|rfl|rfl|rfl|rfl
  .exact p.C.1
  .exact p.C.2.1
  .exact p.C.2.2.1
  .exact Ym _ A.1
  .exact Ym _ z.1
 refine⟨i.B.a (w.l v),p,i.E,E,i.cl.h w B,C,?_⟩;intro F D;obtain⟨x,y⟩:=i.I F D;refine⟨(w.i _ (aj x) ?_).trans x,y⟩;intro f;have f:=v _ f;have:=i.E _ y;simp at f;omega
def gM.bd(r:Rd a d q b)(p:cT a c)(m:cT a nq)(i:gM a d b c bx nq n e h g k j)(f:ai [a.S] j l)(s:Rd (a.v e) d o l):gM a d b c bx nq n e h g o l:=
 i.a4 r p m f (by simp) s (i.aH.h f (by simp;exact p.2.2.1)) (i.a0.h f (by simp;exact m.2.2.1))
def gM.f7(r:Rd a d q b)(u:cT a c)(i:cT a nq)(t:c≠nq)(m:gM a d b c bx nq n e h g k j)(f:ai [a.S,c] j l)(v:Rd (a.v e) d o l)(w:dp c s l):gM a d b c bx nq n e s g o l:=
 m.a4 r u i f (by simp) v w (m.a0.h f (by simp;exact⟨i.2.2.1,λp=>t p.symm⟩))
def gM.m6(p:Rd a d q b)(i:cT a c)(t:cT a nq)(u:c≠nq)(m:gM a d b c bx nq n e h g k j)(f:ai [a.S,nq] j l)(v:Rd (a.v e) d o l)(s:cN nq r l):gM a d b c bx nq n e h r o l:=
 m.a4 p i t f (by simp) v (m.aH.h f (by simp;exact⟨i.2.2.1,u⟩)) s
def gM.d(m:gM a d b c bx nq n e h g k j)(o:Obj):gM a d b c bx nq ((j.heap.size,o)::n) (j.heap.size::e) h g k (j.alloc o):=by
 have f:ai [] j (j.alloc o):=(ah [] j).d _;refine⟨m.B.d _,m.rd.G _,?_,m.aH.h f (by simp),(m.cl.aa (Y4 _)).h f (by simp),m.a0.h f (by simp),?_⟩
 .intro s l;rcases Yg.1 l with rfl|l
  .exact m.B.F
  .exact m.E s l
 .intro r i;rcases Yg.1 i with rfl|i
  .exact⟨aJ rfl,Yb⟩
  .obtain⟨p,q⟩:=m.I r i;exact⟨(f.i _ (aj p) (by simp)).trans p,Y5 _ q⟩
def gM.bn{r:List Nat}(s:Rd a d q b)(x:cT a c)(w:cT a nq)(i:gM a d b c bx nq n e h g k j)(p:ai r j l)(o:∀m∈r,m∈e)(v:∀t∈B',l.heap[t.1]? = some t.2/\t.1∈e):gM a d b c bx nq B' e h g k l:=by
 have z:=s.al _ x.1;have y:=s.al _ w.1;have u:∀m∈r,m∈(a.v e).X:=λm f=>Yf _ (o m f);refine⟨i.B.ba p (λm f=>Ya (i.E _ (o m f))),s.ba (cC a e) i.rd p (λm f=>⟨i.E _ (o m f),u m f⟩),i.E,i.aH.h p ?_,i.cl.h p u,i.a0.h p ?_,v⟩
 .intro f;have:=i.E _ (o _ f);omega
 .intro f;have:=i.E _ (o _ f);omega
end
def jw(d:ByteArray):PX eU es:=av (lift (lB d)) λe=>av (hn (name d (aS 0 0))) λa=>av (lift (bU d [40])) λ_=>av (lift (lB d)) λb=>av (lift (bU d [41])) λ_=>
 av (kF (lZ d)) λc=>cG ⟨a.1,a.2,e,b,c⟩
abbrev kH(c:es):List Value:=ll c.t c.m++[bW c.cc,bW c.b3,.int .i64 c.num]
def wv{l:Type}(a:Ad)(d:ByteArray)(b:World)(c nq:Nat)(k:Except Mar.M (l×eU×St))(m:l->Value)(j:Ending)(e:World):Prop:=
 ai [a.R,a.S,a.N,c,nq] b e/\((∃i h g o,k=.ok (i,(h,g),o)/\j=.returned (m i)/\Rd a d o e/\dp c h e/\cN nq g e)\/(∃f,k=.error f/\fe b f.no f.m j e))
def qF{i:Type}{a:Ad}{M':List Nat}{d:ByteArray}{b w1 g:World}{c nq:Nat}{h:Except Mar.M (i×eU×St)}{j:i->Value}{f:Mar.M}{e:Nat}
  (m:ai [a.R,a.S,a.N,c,nq] b g) (n:ai M' b w1) (o:h=.error f) (k:w1.heap.size<=e) (l:g.heap[e]? = some (.cells #[.int .i64 f.no,.int .i64 f.m] 179)) :
  wv a d b c nq h j (.panicked [{ v:=.iface 143 (.pointer (some ⟨e,0,none⟩)),recovered:=false }]) g:=⟨m,Ya ⟨f,o,e,Yz n.F k,rfl,l⟩⟩
def CT{c a:Ad}(e:eF c a){d:ByteArray}{k:St}{b:World}(f:Rd c d k b) :
  Calls prog 269 #[.pointer (some ⟨a.R,0,none⟩)] b (dC [a.S] c d b (lB d k) bW):=by
 have:=ON f;rw[e.1,e.2.1]at this;exact this
def Az{e a:Ad}(f:eF e a){d:ByteArray}{k:St}{c:Nat}{g:List (Int×Int)}{b:World}(h:Rd e d k b)(j:cT e c)(i:cN c g b) :
  Calls prog 204 #[.pointer (some ⟨a.R,0,none⟩),.map (some c)] b (jf [a.S,c] e d b (lZ d g k) hU (cN c)):=by
 have:=Hs h j i;rw[f.1,f.2.1]at this;exact this
def fk(a:Ty):∃b v,bW a=.iface b v:=by cases a<;>exact⟨_,_,rfl⟩
def uv{a:Nat}{f h c d e:Value}{g:TypeId}{b:World}(i:b.heap[a]? = some (.cells #[f,h,c,d,e] g)) :
  b.cell? ⟨a,0,none⟩=some f/\b.cell? ⟨a,1,none⟩=some h/\b.cell? ⟨a,2,none⟩=some c/\b.cell? ⟨a,3,none⟩=some d/\b.cell? ⟨a,4,none⟩=some e/\∀j,b.frozen? ⟨a,j,none⟩=false:=by
 refine⟨?_,?_,?_,?_,?_,?_⟩<;>simp[World.cell?,World.frozen?,i]
def ME{a:Ad}{d:ByteArray}{k:St}{c bx nq:Nat}{h:List (List UInt8)}{g:List (Int×Int)}{b:World}(j:Rd a d k b)(o:cT a c)(n:cT a nq)(S:c≠nq)(d6:dp c h b)(c7:bm a.X (aS c bx).bs b)(c9:cN nq g b) :
  Calls prog 256 #[.pointer (some ⟨a.R,0,none⟩),(aS c bx).v,.map (some nq)] b (wv a d b c nq (jw d (h,g) k) λp=>.agg (kH p).toArray):=by
 have c4:gM a d b c bx nq [] [] h g k b:=⟨ah _ _,j,by simp,d6,c7,c9,by simp⟩;have D:=Z (c4.d (.cells #[.string ⟨#[]⟩,.int .i64 0,.nilIface,.nilIface,.int .i64 0] 446));go_in;go_wp2_with fail;refine(CT (cC a _) D.b.rd).mono ?_;rintro z e9 ⟨a6,⟨M,f4,K,rfl,d1⟩|⟨A,K,y,l,rfl,m⟩⟩;rotate_left
 .exact aq (qF (D.b.B.a (a6.l (by simp))) D.b.B (bl (ci K)) l m)
 have q:=Z (D.b.bd j o n a6 d1);obtain⟨J,N,a3⟩:=fk M;rw[a3];go_wp2_with fail;refine(wY (bx:=bx) (cC a _) (o.v _) q.b.rd q.b.aH q.b.cl).mono ?_;rintro z f ⟨P,⟨e,a2,e4,a0,rfl,b2,b3⟩|⟨A,a0,y,l,rfl,m⟩⟩;rotate_left
 .exact aq (qF (q.b.B.a (P.l (by simp))) q.b.B ((aE (aW K)).trans (bl (rF a0))) l m)
 have e8:b.heap.size<f.heap.size:=aj ((q.b.f7 j o n S P b2 b3).I (b.heap.size,.cells #[.string ⟨#[]⟩,.int .i64 0,.nilIface,.nilIface,.int .i64 0] 446) Yb).1;have E:=Z ((q.b.f7 j o n S P b2 b3).d (.cells #[.string ⟨e.1.toArray⟩,.int .i64 e.2,.iface J N,.nilIface,.int .i64 0] 446))
 have t:U (jw d (h,g) k=av (lift (bU d [40])) (λ_=>av (lift (lB d)) λx=>av (lift (bU d [41])) λ_=>av (kF (lZ d)) λr=>cG ⟨e.1,e.2,M,x,r⟩) (a2,g) e4):=(aE (aW K)).trans (aE (rG a0));dsimp only[fQ];go_wp2_with fail;refine(ff (cC a _) _ E.b.rd).mono ?_;rintro z f0 ⟨a7,⟨f2,f5,s,rfl,d2⟩|⟨A,s,y,l,rfl,m⟩⟩;rotate_left
 .exact aq (qF (E.b.B.a (a7.l (by simp))) E.b.B (t.b.trans (bl (ci s))) l m)
 have F:=Z (E.b.bd j o n a7 d2);go_wp2_with fail;refine(CT (cC a _) F.b.rd).mono ?_;rintro z c0 ⟨a8,⟨x,f6,B,rfl,d3⟩|⟨A,B,y,l,rfl,m⟩⟩;rotate_left
 .exact aq (qF (F.b.B.a (a8.l (by simp))) F.b.B (t.b.trans ((aE (aW s)).trans (bl (ci B)))) l m)
 have G:=F.b.bd j o n a8 d3;obtain⟨w,C,a4⟩:=fk x;rw[a4];obtain⟨b5,b6,b7,b8,b9,c8⟩:=uv (G.I (f.heap.size,_) Yb).1;have H:=Z (G.bn (B':=[(f.heap.size,.cells #[.string ⟨e.1.toArray⟩,.int .i64 e.2,.iface J N,.iface w C,.int .i64 0] 446),(b.heap.size,.cells #[.string ⟨#[]⟩,.int .i64 0,.nilIface,.nilIface,.int .i64 0] 446)]) j o n ((ah [f.heap.size] c0).O (p:=⟨f.heap.size,3,none⟩) (by simp) (.iface w C)) (by simp) (by
  intro p b1;simp only[Yg,List.not_mem_nil,or_false]at b1;rcases b1 with rfl|rfl
  .exact⟨bu (i:=3) (G.I (f.heap.size,_) Yb).1 _,by simp⟩
  .have a5:=(G.I (b.heap.size,.cells #[.string ⟨#[]⟩,.int .i64 0,.nilIface,.nilIface,.int .i64 0] 446) (Y5 _ Yb)).1;exact⟨(((ah [f.heap.size] c0).O (p:=⟨f.heap.size,3,none⟩) (by simp) (.iface w C)).i _ (aj a5) (by simp;omega)).trans a5,by simp⟩))
 go_wp2_with fail;refine(ff (cC a _) _ H.b.rd).mono ?_;rintro z f1 ⟨a9,⟨f3,f7,L,rfl,d4⟩|⟨A,L,y,l,rfl,m⟩⟩;rotate_left
 .exact aq (qF (H.b.B.a (a9.l (by simp))) H.b.B (t.b.trans ((aE (aW s)).trans ((aE (aW B)).trans (bl (ci L))))) l m)
 have u:=Z (H.b.bd j o n a9 d4);go_wp2_with fail;refine(Az (cC a _) u.b.rd (n.v _) u.b.a0).mono ?_;rintro z e3 ⟨b0,⟨r,b4,c1,a1,rfl,d5,d0⟩|⟨A,a1,y,l,rfl,m⟩⟩;rotate_left
 .exact aq (qF (u.b.B.a (b0.l (by simp))) u.b.B (t.b.trans ((aE (aW s)).trans ((aE (aW B)).trans ((aE (aW L)).trans (bl (vx a1)))))) l m)
 have O:=u.b.m6 j o n S b0 d5 d0;have c2:U (jw d (h,g) k=.ok (⟨e.1,e.2,M,x,r⟩,(a2,b4),c1)):=t.b.trans ((aE (aW s)).trans ((aE (aW B)).trans ((aE (aW L)).trans ((aE (vy a1)).trans rfl))));have c6:=(O.I (f.heap.size,_) Yb).1;have c5:=(O.I (b.heap.size,.cells #[.string ⟨#[]⟩,.int .i64 0,.nilIface,.nilIface,.int .i64 0] 446) (Y5 _ Yb)).1;obtain⟨b5,b6,b7,b8,b9,c8⟩:=uv c6;obtain⟨d8,d9,e0,e1,e2,e5⟩:=uv c5;have e6:¬f.heap.size=b.heap.size:=by omega
 have e7:¬b.heap.size=f.heap.size:=by omega
 have c3:=Z O;dsimp only[hU];go_wp2;have d7:=(((((ah [f.heap.size,b.heap.size] e3).O (p:=⟨f.heap.size,4,none⟩) (by simp) (.int .i64 r)).O (p:=⟨b.heap.size,0,none⟩) (by simp) (.string ⟨e.1.toArray⟩)).O (p:=⟨b.heap.size,1,none⟩) (by simp) (.int .i64 e.2)).O (p:=⟨b.heap.size,2,none⟩) (by simp) (.iface J N)).O (p:=⟨b.heap.size,3,none⟩) (by simp) (.iface w C) |>.O (p:=⟨b.heap.size,4,none⟩) (by simp) (.int .i64 r)
 have I:=c3.b.bn (B':=[]) j o n d7 (by simp) (by simp);refine bodyPost_ret (v:=.agg #[.string ⟨e.1.toArray⟩,.int .i64 e.2,.iface J N,.iface w C,.int .i64 r]) (by simp[results,results256,go_sem,d8,d9,e0,e1,e2,b5,b6,b7,b8,b9]) rfl ⟨I.B,Y8 ⟨⟨e.1,e.2,M,x,r⟩,a2,b4,c1,c2.b,?_,jk j.C I.rd,I.aH,I.a0⟩⟩
 rw[<-a3,<-a4]
structure eR(a:Ad)(l:ByteArray)(k:World)(s o:TypeId)(r c d nq:Nat)(h:List (Nat×Obj))(q:List UInt8×Nat)(jO:Nat)(n:List Value)(t:List (Nat×Obj))(f:List Nat)(v:List (List UInt8))(u:List (Int×Int))(j:Value)(w:St)(e:World):Prop where
 B:ai [a.R,a.S,a.N] k e
 rd:Rd (a.v f) l w e
 C:∀b∈c::d::nq::h.map (·.1),b∈f
 H:(c::d::nq::h.map (·.1)).Nodup
 E:∀y∈f,k.heap.size<=y
 G:∀g,j.ownBlock=some g->g∈f/\g ∉ c::d::nq::h.map (·.1)
 aH:dp d v e
 a0:cN nq u e
 I:e.heap[c]? = some (.cells #[.string ⟨q.1.toArray⟩,.int .i64 q.2,j,.int .i64 0] s)
 dz:∀p∈h,e.heap[p.1]? = some p.2
 row:e.ownsRow k.heap.size o r j jO n
 c5:bm (a.v f).X t e
section
variable {a : Ad} {l : ByteArray} {k e x : World} {s o : TypeId} {r c d nq : Nat} {h : List (Nat × Obj)} {q : List UInt8 × Nat} {jO : Nat} {n : List Value} {t : List (Nat × Obj)} {f : List Nat} {v C : List (List UInt8)} {u B : List (Int × Int)} {j : Value} {w A z : St}
def eR.ck(i:eR a l k s o r c d nq h q jO n t f v u j w e):∃ad b,j=.slice ad jO b:=by
 rcases i.row.2 with⟨rfl,g⟩|⟨p,b,m,rfl,_⟩
 .exact⟨none,0,by rw[g]⟩
 .exact⟨_,_,rfl⟩
def eR.aZ(i:Rd a l z k)(m:eR a l k s o r c d nq h q jO n t f v u j w e){b:Nat}(g:b∈f):cT (a.v f) b:=by
 obtain⟨x,y,A,B⟩:=i.K;have p:=m.E _ g;refine⟨Yf _ g,?_,?_,?_,?_⟩<;>simp only[Ad.v]<;>omega
def eR.bg(C:eR a l k s o r c d nq h q jO n t f v u j w e):c≠d/\c≠nq/\d≠nq/\(∀b∈h,b.1≠c/\b.1≠d/\b.1≠nq):=by
 have:=C.H;simp only[List.nodup_cons,Yg,not_or]at this;obtain⟨⟨m,p,x⟩,⟨y,z⟩,A,_⟩:=this;refine⟨m,p,y,λb B=>?_⟩;have i:b.1∈h.map (·.1):=YE.2 ⟨b,B,rfl⟩;exact⟨λg=>x (g▸i),λg=>z (g▸i),λg=>A (g▸i)⟩
def eR.a4{E:List Nat}(J:Rd a l z k)(b:eR a l k s o r c d nq h q jO n t f v u j w e)(y:ai E e x)(p:∀i∈E,i∈[a.R,a.S,a.N,d,nq])(D:Rd (a.v f) l A x)(P:dp d C x)(O:cN nq B x) :
  eR a l k s o r c d nq h q jO n t f C B j A x:=by
 obtain⟨a4,a5,a6,a7⟩:=J.K;obtain⟨a0,a1,a2,H⟩:=b.bg;have a8:=b.E _ (b.C c (by simp));have b0:=b.E _ (b.C d (by simp));have a9:=b.E _ (b.C nq (by simp));have L:∀i∈E,i∈(a.v f).X:=by
  intro i g;have g:=p i g;simp at g;rcases g with rfl|rfl|rfl|rfl|rfl
  .exact D.C.1
  .exact D.C.2.1
  .exact D.C.2.2.1
  .exact Yf _ (b.C _ (by simp))
  .exact Yf _ (b.C _ (by simp))
 refine⟨b.B.ba y ?_,D,b.C,b.H,b.E,b.G,P,O,(y.i _ (aj b.I) ?_).trans b.I,?_,aX b.row y ?_,b.c5.h y L⟩
 .intro i g;have g:=p i g;simp at g ⊢;omega
 .intro g;have g:=p _ g;simp at g;omega
 .intro G F;have m:=b.dz G F;refine(y.i _ (aj m) ?_).trans m;intro g;have g:=p _ g;have K:=b.E _ (b.C G.1 (by simp;exact Ya (Ya (Ya ⟨_,F⟩))));have a3:=H G F;simp at g;omega
 .intro I M g;have g:=p _ g;have m:=b.G I M;have K:=b.E _ m.1;simp at g m;omega
def eR.bd(i:Rd a l z k)(b:eR a l k s o r c d nq h q jO n t f v u j w e)(g:ai [a.S] e x)(m:Rd (a.v f) l A x):eR a l k s o r c d nq h q jO n t f v u j A x:=by
 have p:=i.K.2.1;have B:=b.E _ (b.C d (by simp));have y:=b.E _ (b.C nq (by simp));exact b.a4 i g (by simp) m (b.aH.h g (by simp;omega)) (b.a0.h g (by simp;omega))
def eR.t(g:Rd a l z k)(m:eR a l k s o r c d nq h q jO n t f v u j w e)(b:Below e.heap.size e x):eR a l k s o r c d nq h q jO n t f v u j w x:=
 m.a4 g (br [] b) (by simp) (m.rd.t b) (m.aH.h (br [] b) (by simp)) (m.a0.h (br [] b) (by simp))
def eR.hK(g:eR a l k s o r c d nq h q jO n t f v u j w e)(b:Obj):(e.alloc b).ownsRow k.heap.size o r j jO n:=aX g.row ((ah [] e).d b) (by simp)
def eR.fF{i:World}{g:Obj}(b:eR a l k s o r c d nq h q jO n t f v u j w e)(p:(e.alloc g).grownBy i j.ownBlock):i.heap[c]? = some (.cells #[.string ⟨q.1.toArray⟩,.int .i64 q.2,j,.int .i64 0] s):=by
 have x:=aj b.I;exact(p.block _ (by simp;omega) (λm=>(b.G _ m.symm).2 (by simp))).trans ((((ah [] e).d g).i _ x (by simp)).trans b.I)
def eR.h7{x:World}{m:Obj}(i:eR a l k s o r c d nq h q jO n t f v u j w e)(z:(e.alloc m).grownBy x j.ownBlock){p:Nat×Obj}(g:p∈h):x.heap[p.1]? = some p.2:=by
 have b:=i.dz p g;have A:=aj b;exact(z.block _ (by simp;omega) (λy=>(i.G _ y.symm).2 (by simp;exact Ya (Ya (Ya ⟨_,g⟩))))).trans ((((ah [] e).d m).i _ A (by simp)).trans b)
def zr{J B:World}{g G:Nat}{a5:List Value}{bs':List (Nat×Obj)}(L:Rd a l z k)(p:eR a l k s o r c d nq h q jO n t f v u j w e)(b0:bm (a.v f).X bs' e)(m:Below e.heap.size e J)
  (a3:B.ownsRow k.heap.size o r (.slice (some ⟨g,0,none⟩) (jO+1) G) (jO+1) (n++a5))
  (H:J.grownBy B j.ownBlock) (M:j.ownBlock=some g\/g=J.heap.size) (b3:g<B.heap.size) :
  eR a l k s o r c d nq h q (jO+1) (n++a5) (t++bs') (g::f) v u (.slice (some ⟨g,0,none⟩) (jO+1) G) w (B.setCell ⟨c,2,none⟩ (.slice (some ⟨g,0,none⟩) (jO+1) G)):=by
 obtain⟨b4,_⟩:=gH a3 (g:=g) rfl;have y:=p.t L m;have b1:=b0.h (br [] m) (by simp);obtain⟨b8,b9,c0,a7⟩:=p.bg;have D:c∈c::d::nq::h.map (·.1):=by simp
 have b6:d∈c::d::nq::h.map (·.1):=by simp
 have b5:nq∈c::d::nq::h.map (·.1):=by simp
 have a6:∀b∈c::d::nq::h.map (·.1),k.heap.size<=b:=λb m=>p.E _ (p.C b m);have N:∀b∈c::d::nq::h.map (·.1),b<J.heap.size:=λb m=>y.rd.al b (Yf _ (p.C b m));have c1:=H.size;have a0:g ∉ c::d::nq::h.map (·.1):=by
  rcases M with a1|a1
  .exact(p.G g a1).2
  .intro x;have:=N g x;omega
 have P:∀b,j.ownBlock=some b->k.heap.size<=b/\b∈(a.v f).X:=λb m=>⟨p.E _ (p.G b m).1,Yf _ (p.G b m).1⟩;have F:=eJ H;have A:ai [c] B (B.setCell ⟨c,2,none⟩ (.slice (some ⟨g,0,none⟩) (jO+1) G)):=(ah [c] B).O (by simp) _;have I:∀b∈c::d::nq::h.map (·.1),b ∉ j.ownBlock.toList:=by
  intro b m x;exact(p.G b (by simpa using x)).2 m
 have a9:∀b,j.ownBlock=some b->b∈(a.v f).X:=λb m=>(P b m).2;have a2:∀K∈[c],K∈(a.v (g::f)).X:=by
  intro K C;simp only[Yc]at C;subst C;exact Yf _ (Y5 _ (p.C _ D))
 refine⟨?_,?_,λb m=>Y5 _ (p.C b m),p.H,?_,?_,?_,?_,?_,?_,?_,?_⟩
 .refine(y.B.ba F ?_).ba A ?_
  .intro a4 x;exact Ya (P a4 (by simpa using x)).1
  .intro a4 x;simp only[Yc]at x;subst x;exact Ya (a6 _ D)
 .exact L.ba (cC a (g::f)) (qM L (cC a f) y.rd H P M b3) A (by
   intro K C;exact⟨by simp only[Yc]at C;subst C;exact a6 _ D,a2 K C⟩)
 .intro b7 R;rcases Yg.1 R with rfl|R
  .exact b4
  .exact p.E b7 R
 .intro a8 E;simp only[Value.ownBlock,Yu]at E;subst E;exact⟨Yb,a0⟩
 .exact(y.aH.h F (I _ b6)).h A (by simp;omega)
 .exact(y.a0.h F (I _ b5)).h A (by simp;omega)
 .exact bu (i:=2) ((F.i _ (N _ D) (I _ D)).trans y.I) _
 .intro S O;have x:S.1∈c::d::nq::h.map (·.1):=by simp;exact Ya (Ya (Ya ⟨_,O⟩))
  have b2:=N _ x;exact(A.i _ (by omega) (by simp;exact(a7 S O).1)).trans ((F.i _ b2 (I _ x)).trans (y.dz S O))
 .exact aX a3 A (by
   intro a8 E;simp only[Value.ownBlock,Yu]at E;subst E;intro x;simp only[Yc]at x;exact a0 (x▸D))
 .exact((y.c5.bv b1).aN H a9 M).h A a2
def eR.i6(z:eR a l k s o r c d nq h q jO n t f v u j w e)(G:jO<=1000)(B:n.length=jO*r)(H:jO=0->n=[]):∃i,fv i o j jO n/\∀b∈i,e.heap[b.1]? = some b.2/\k.heap.size<=b.1/\b.1≠c:=by
 rcases z.row.2 with⟨rfl,x⟩|⟨g,A,m,rfl,C,D,E,I,J,F⟩
 .exact⟨[],Y8 ⟨rfl,x,H x⟩,by simp⟩
 .refine⟨[(g,.cells m o)],Ya ⟨g,A,m,rfl,⟨E,G⟩,by simp,?_⟩,?_⟩
  .rw[B];exact F
  .intro b y;simp only[Yc]at y;subst y;exact⟨D,C,λp=>(z.G g rfl).2 (by simp only at p;rw[p];simp)⟩
end
section
variable {b:Ad}{c:List es}{e:eU}{a:World}{d:St}
def IV:(prog.info? 446).map (λa=>(a.zero,a.size,a.bytes))=some (some (.agg #[.string ⟨#[]⟩,.int .i64 0,.nilIface,.nilIface,.int .i64 0]),5,64):=by kernel_rfl
def jA(f:ByteArray):PX (List es×eU) Unit:=λa d=>match jw f a.2 d with
 |.ok (b,e,g)=>.ok ((),(a.1++[b],e),g)
 |.error c=>.error c
def Eb{f:ByteArray}{b:eU}{g:St}{a:es}(h:jw f e d=.ok (a,b,g)):jA f (c,e) d=.ok ((),(c++[a],b),g):=by simp only[jA,h]
def Ea{b:ByteArray}{a:Mar.M}(f:jw b e d=.error a):jA b (c,e) d=.error a:=by simp only[jA,f]
structure jJ where
 VB:Nat
 rb:Nat
 cb:Nat
 nb:Nat
 q:Nat
 nq:Nat
 bx:Nat
abbrev jJ.E(a:jJ):List (Nat×Obj):=[(a.cb,.cells #[(aS a.q a.bx).v] 341),(a.nb,.cells #[.map (some a.nq)] 149)]
def wm(b:Ad)(j:ByteArray)(a:World)(c:jJ)(h:List UInt8×Nat)(g:Nat)(f:List Nat)(e:List es×eU)(d:St)(k:World):Prop:=e.1.length=g/\
 ∃i,eR b j a 367 446 5 c.VB c.q c.nq c.E h e.1.length (e.1.flatMap kH) (aS c.q c.bx).bs f e.2.1 e.2.2 i d k
def MF{c:Ad}(j:eF c b){f:ByteArray}{e bx nq:Nat}{h:List (List UInt8)}{g:List (Int×Int)}(i:Rd c f d a)(o:cT c e)(m:cT c nq)(n:e≠nq)(p:dp e h a)(k:bm c.X (aS e bx).bs a)(l:cN nq g a) :
  Calls prog 256 #[.pointer (some ⟨b.R,0,none⟩),(aS e bx).v,.map (some nq)] a (wv c f a e nq (jw f (h,g) d) λq=>.agg (kH q).toArray):=by
 have:=ME i o m n p k l;rw[j.1]at this;exact this
def Mb(a:es):∀d∈kH a,d.oneCell'=true:=by
 intro d c;simp at c;rcases c with rfl|rfl|rfl|rfl|rfl
 .rfl
 .rfl
 .obtain⟨e,v,b⟩:=fk a.cc;rw[b];rfl
 .obtain⟨e,v,b⟩:=fk a.b3;rw[b];rfl
 .rfl
def sV{b:Nat}{h i e f:Value}{d:TypeId}(g:a.heap[b]? = some (.cells #[h,i,e,f] d)):∀c,a.frozen? ⟨b,c,none⟩=false:=by
 intro c;simp[World.frozen?,g]
def RT{u:ByteArray}{r:World}{f:jJ}{P:List UInt8×Nat}{D:Nat}{x:List Nat}{c9:St}(o:Rd b u c9 a)(O:a.heap[f.rb]? = some (.cells #[.pointer (some ⟨b.R,0,none⟩)] 145))(b8:f.rb ∉ [b.R,b.S,b.N])(J:D<1000)(n:wm b u a f P D x (c,e) d r) :
  Calls prog 255 #[.pointer (some ⟨f.VB,0,none⟩),.pointer (some ⟨f.rb,0,none⟩),.pointer (some ⟨f.cb,0,none⟩),.pointer (some ⟨f.nb,0,none⟩)] r (jE b a (wm b u a f P (D+1)) (jA u (c,e) d)):=by
 obtain⟨A,f1,k⟩:=n;obtain⟨c6,e0⟩:=e;dsimp only at A k;have a2:=Z A;have d7:c.length<1000:=by omega
 clear A;obtain⟨ad,H,rfl⟩:=k.ck;obtain⟨c4,b0,c0,c1,c2⟩:=info_parts IV;have M:=aj O;have B:=λ(v:World) (J:ai [b.R,b.S,b.N] a v)=>bL ((J.i _ M b8).trans O);have G:=Z B;obtain⟨f2,f3,f4,f5⟩:=jN k.I;have e8:=B _ k.B;have d2:=bL (k.dz (f.cb,.cells #[(aS f.q f.bx).v] 341) (by simp[jJ.E]));have e5:=bL (k.dz (f.nb,.cells #[.map (some f.nq)] 149) (by simp[jJ.E]));have a8:Below r.heap.size r r.drew:=(Below.refl _ _).drew;have h:=Z (k.t o a8);have a1:=Z (MF (bx:=f.bx) (cC b x) h.b.rd (h.b.aZ o (h.b.C f.q (by simp))) (h.b.aZ o (h.b.C f.nq (by simp))) h.b.bg.2.2.1 h.b.aH h.b.c5 h.b.a0);have b1:c.length+1<=maxLen:=by unfold maxLen;omega
 have b2:(c.length+1)*64<=140737488355328:=by omega
 have c3:(Value.agg #[.string ⟨#[]⟩,.int .i64 0,.nilIface,.nilIface,.int .i64 0]).cells.size=5:=by decide
 clear k B;go_in;go_wp2_with fail;refine cR (λw=>w.cell? ⟨f.VB,2,none⟩=some (.slice ad c.length H)/\w.cell? ⟨f.rb,0,none⟩=some (.pointer (some ⟨b.R,0,none⟩))/\w.cell? ⟨f.cb,0,none⟩=some (aS f.q f.bx).v/\w.cell? ⟨f.nb,0,none⟩=some (.map (some f.nq))) (L:=9) (by kernel_rfl) rfl (by kernel_rfl) (by kernel_rfl) ?_ (λy=>?_)
 .go_keep
 refine bH [0,1,2,3,4] ?_;iterate 5 (refine bO (v:=?_) rfl (by kernel_rfl) (λ_ _ _ n=>n) (by rfl) (by assumption) ?_ ?_;rotate_left;focus (intro a z;(try dsimp only at z);go_simp;(try with_reducible rfl));(try simp only[aK,aL,List.set]))
 refine bI ?_;refine cj 5 (by kernel_rfl) rfl λl j=>?_;(go_simp;go_at_call 256;refine a1.b.mono ?_;rintro d5 s ⟨K,⟨t,c7,c5,d0,C,rfl,b7,b9,b4⟩|⟨d6,C,d1,a7,rfl,a9⟩⟩;rotate_left;exact aq (lH (h.b.B.ba K (by intro F p;have:=h.b.E _ (h.b.C f.q (by simp));have:=h.b.E _ (h.b.C f.nq (by simp));simp[Ad.v]at p ⊢;omega)) h.b.B (Ea C) a7 a9);have g:=Z (h.b.a4 o K (by intro F p;simpa[Ad.v]using p) b7 b9 b4);obtain⟨f6,f7,f8,f9⟩:=jN g.b.I;have e9:=G.b _ g.b.B;have d3:=bL (g.b.dz (f.cb,.cells #[(aS f.q f.bx).v] 341) (by simp[jJ.E]));have e6:=bL (g.b.dz (f.nb,.cells #[.map (some f.nq)] 149) (by simp[jJ.E]));have e1:=aj g.b.I;have e4:=Yr M g.b.B.F;have e2:=aj (g.b.dz (f.cb,.cells #[(aS f.q f.bx).v] 341) (by simp[jJ.E]));have e3:=aj (g.b.dz (f.nb,.cells #[.map (some f.nq)] 149) (by simp[jJ.E]));have d9:=g.b.B.F;dsimp only[kH,ll,List.append_toArray,YX,YT]);refine j.out _ _ ?_ (λy=>?_)
 .go_keep
 clear j l;(try simp only[aK,aL,List.set]);refine cj 6 (by kernel_rfl) rfl λl j=>?_;go_simp;refine j.out _ _ ?_ (λy=>?_)
 .go_keep
 clear j l;(try simp only[aK,aL,List.set]);refine cj 7 (by kernel_rfl) rfl λl j=>?_;(refine step_append_lies _ (by rfl) _ _ _ (by rfl) a.heap.size 446 c4 _ 5 64 underlying365 b0 c0 c1 c2 c3 (by omega) (.slice ad c.length H) c.length (c.flatMap kH) (by rfl) (g.b.hK _) ⟨s.heap.size,0,none⟩ 1 1 (kH t) (by rfl) (by rfl) (World.news_of_block (cs:=(kH t).toArray) (t:=446) (fr:=(0,0)) (heap_alloc_new s _)) (Mb t) (by omega) b1 b2 (by simp;omega) (s.heap.size+1) (by simp) ?_;intro I a4 c8 b5 m a6 b3;obtain⟨g0,g1,g2,g3⟩:=jN (g.b.fF m);have d8:=sV (g.b.fF m);have d4:=bL (g.b.h7 m (p:=(f.cb,.cells #[(aS f.q f.bx).v] 341)) (by simp[jJ.E]));have e7:=bL (g.b.h7 m (p:=(f.nb,.cells #[.map (some f.nq)] 149)) (by simp[jJ.E]));have f0:c8.cell? ⟨f.rb,0,none⟩=some (.pointer (some ⟨b.R,0,none⟩)):=G.b _ (((g.b.B.d _)).ba (eJ m) (by intro F p;have a5:=g.b.G F (by simpa using p);exact Ya (g.b.E _ a5.1))));refine j.out _ _ ?_ (λy=>?_)
 .go_keep
 clear j l;(try simp only[aK,aL,List.set]);refine tk (i:=8) (v:=?_) rfl (by kernel_rfl) (λ_ _ _ n=>n) (by rfl) (by assumption) ?_ ?_;rotate_left
 .intro a z;(try dsimp only at z);go_simp;(try with_reducible rfl)
 (try simp only[aK,aL,List.set]);refine cP (by kernel_rfl) rfl λl j=>?_;go_simp;refine j.out _ _ ?_;clear j l;(try simp only[aK,aL,List.set]);have a3:=zr (bs':=[]) o g.b (by intro a0 b6;cases b6) ((Below.refl s.heap.size s).alloc (Y4 _) _) b5 m (by simpa using a6) b3;go_wp2;go_end0;refine Y8 ⟨I::x,(c++[t],(c7,c5)),d0,Eb C,rfl,by simp[a2.b],.slice (some ⟨I,0,none⟩) (c.length+1) a4,?_⟩;simpa using a3
end
section
variable {a:Ad}{nq b:Nat}{w:World}
def RU(args:Array Value)(a:World):(callFunc 255 args).run prog a=.ok (.enter 255 args) a:=by kernel_rfl
def Sa{d:ByteArray}{n:St}(g:Rd a d n w)(b:jJ)(j:w.heap[b.rb]? = some (.cells #[.pointer (some ⟨a.R,0,none⟩)] 145))(k:b.rb ∉ [a.R,a.S,a.N])(l:List UInt8×Nat):uh (List es×eU) a d w 8 where
 f:=255
 i1:=#[.pointer (some ⟨b.VB,0,none⟩),.pointer (some ⟨b.rb,0,none⟩),.pointer (some ⟨b.cb,0,none⟩),.pointer (some ⟨b.nb,0,none⟩)]
 af:=jA d
 J:=wm a d w b l
 e0:=RU
 rd:=by rintro _ _ _ _ _ ⟨_,_,c⟩;exact c.rd
 B:=by rintro _ _ _ _ _ ⟨_,_,c⟩;exact c.B
 bd:=by rintro _ _ _ _ _ _ _ ⟨e,m,c⟩ h i;exact⟨e,m,c.bd g h i⟩
 call:=by
  intro p o q s r h e
  exact RT g j k (by omega) e
def tU(a:ByteArray)(b:List UInt8×Nat):PX eU eH:=av (lift (hZ (eu a 8 (jA a)) ([],([],[])))) λd=>av (kF (lZ a)) λc=>cG ⟨b.1,b.2,d.1,c⟩
def jz(a:ByteArray):PX eU eH:=av (lift (bU a [118,101,114,115,105,111,110])) λ_=>av (hn (name a (aS 0 0))) (tU a)
def ww(a:Ad)(l:ByteArray)(w:World)(b nq:Nat)(h:Except Mar.M (eH×eU×St))(f:Ending)(c:World):Prop:=
 ai [a.R,a.S,a.N,b,nq] w c/\((∃v j g k i e,h=.ok (v,(j,g),k)/\f=.returned (.agg #[.string ⟨v.t.toArray⟩,.int .i64 v.m,i,.int .i64 v.num])/\Rd a l k c/\dp b j c/\cN nq g c/\fv e 446 i v.u.length (v.u.flatMap kH)/\bm a.X e c)\/(∃d,h=.error d/\fe w d.no d.m f c))
def uf{M':List Nat}{l:ByteArray}{w1 d:World}{e:Except Mar.M (eH×eU×St)}{f:Mar.M}{c:Nat}
  (i:ai [a.R,a.S,a.N,b,nq] w d) (j:ai M' w w1) (k:e=.error f) (g:w1.heap.size<=c) (h:d.heap[c]? = some (.cells #[.int .i64 f.no,.int .i64 f.m] 179)) :
  ww a l w b nq e (.panicked [{ v:=.iface 143 (.pointer (some ⟨c,0,none⟩)),recovered:=false }]) d:=⟨i,Ya ⟨f,k,c,Yz j.F g,rfl,h⟩⟩
def JE:∀a:List es,(a.flatMap kH).length=a.length*5:=by
 intro a;induction a with
 |nil=>rfl
 |cons c d b=>simp only[YD,Yq,YC,b];simp;omega
def RW{k:ByteArray}{I:St}{bx:Nat}{H:List (List UInt8)}{z:List (Int×Int)}(g:Rd a k I w)(n:cT a b)(t:cT a nq)(e0:b≠nq)(h1:dp b H w)(g2:bm a.X (aS b bx).bs w)(g5:cN nq z w) :
  Calls prog 203 #[.pointer (some ⟨a.R,0,none⟩),(aS b bx).v,.map (some nq)] w (ww a k w b nq (jz k (H,z) I)):=by
 have k2:=jq;have k3:=jr;have d0:gM a k w b bx nq [] [] H z I w:=⟨ah _ _,g,by simp,h1,g2,g5,by simp⟩;have e8:(w.alloc (.cells #[.pointer (some ⟨a.R,0,none⟩)] 145)).heap.size=w.heap.size+1:=by simp
 have L:=(d0.d (.cells #[.pointer (some ⟨a.R,0,none⟩)] 145)).d (.cells #[.string ⟨#[]⟩,.int .i64 0,.slice none 0 0,.int .i64 0] 367);rw[e8]at L;have A:=Z L;have i3:=bL (L.I (w.heap.size,.cells #[.pointer (some ⟨a.R,0,none⟩)] 145) (by simp)).1;clear d0 L e8;go_in;go_wp2_with fail;refine(ff (cC a _) _ A.b.rd).mono ?_;rintro O l2 ⟨b5,⟨l3,l5,D,rfl,e3⟩|⟨a8,D,M,r,rfl,s⟩⟩;rotate_left
 .exact aq (uf (A.b.B.a (b5.l (by simp))) A.b.B (bl (ci D)) r s)
 have l:=Z (A.b.bd g n t b5 e3);have i4:=bL (l.b.I (w.heap.size,.cells #[.pointer (some ⟨a.R,0,none⟩)] 145) (by simp)).1;clear b5 e3 A i3;go_wp2_with fail;refine(wY (bx:=bx) (cC a _) (n.v _) l.b.rd l.b.aH l.b.cl).mono ?_;rintro O e ⟨b6,⟨d,c6,c7,a4,rfl,e4,e9⟩|⟨a8,a4,M,r,rfl,s⟩⟩;rotate_left
 .exact aq (uf (l.b.B.a (b6.l (by simp))) l.b.B ((aE (aW D)).trans (bl (rF a4))) r s)
 have f:=Z (l.b.f7 g n t e0 b6 e4 e9);have J:U (jz k (H,z) I=tU k d (c6,z) c7):=(aE (aW D)).trans (aE (rG a4));have a0:=(f.b.I (w.heap.size,.cells #[.pointer (some ⟨a.R,0,none⟩)] 145) (by simp)).1;clear b6 e4 e9 l i4 D a4;dsimp only[fQ];go_wp2_with fail;refine(uo _).mono ?_;rintro O c ⟨h,j,rfl,e2,g1,g7,a9,P,c2⟩;dsimp only[cM.v,aS];have h2:(e.alloc (.cells #[.string ⟨d.1.toArray⟩,.int .i64 d.2,.slice none 0 0,.int .i64 0] 367)).heap.size=e.heap.size+1:=by simp
 have a6:=aj a0;have b9:h<c.heap.size:=by
  obtain⟨_,_,_,C⟩:=id a9;exact aj C
 have d7:=aj c2;have k7:=P.size;have b7:=br [] P;have c1:=(b7.i _ (by omega) (by simp)).trans (aJ (w:=e) (o:=.cells #[.string ⟨d.1.toArray⟩,.int .i64 d.2,.slice none 0 0,.int .i64 0] 367) rfl);have e5:=(f.b.rd.G (.cells #[.string ⟨d.1.toArray⟩,.int .i64 d.2,.slice none 0 0,.int .i64 0] 367)).j0 P e2 b9;obtain⟨i,m⟩:∃i,i=((c.alloc (.map #[] 0)).alloc (.cells #[(aS h j).v] 341)).alloc (.cells #[.map (some c.heap.size)] 149):=⟨_,rfl⟩;have a1:(c.alloc (.map #[] 0)).heap.size=c.heap.size+1:=by simp
 have a2:((c.alloc (.map #[] 0)).alloc (.cells #[(aS h j).v] 341)).heap.size=c.heap.size+2:=by simp
 have c0:=((e5.G (.map #[] 0)).G (.cells #[(aS h j).v] 341)).G (.cells #[.map (some c.heap.size)] 149);rw[a1,a2,<-m]at c0;have F:ai [] c i:=by rw[m];exact(((ah [] c).d _).d _).d _
 have d8:i.heap[c.heap.size]? = some (.map #[] 0):=by
  rw[m];exact((((ah [] _).d _).d _).i _ (by rw[a1];omega) (by simp)).trans (aJ rfl)
 have d4:i.heap[c.heap.size+1]? = some (.cells #[(aS h j).v] 341):=by
  rw[m];exact(((ah [] _).d _).i _ (by rw[a2];omega) (by simp)).trans (aJ a1.symm)
 have d9:i.heap[c.heap.size+2]? = some (.cells #[.map (some c.heap.size)] 149):=by
  rw[m];exact aJ a2.symm
 have c4:ai [] e i:=(((ah [] e).d _).a b7).a F;have e7:w.heap.size ∉ [a.R,a.S,a.N]:=by obtain⟨h5,h6,a6,h7⟩:=g.K;simp;omega
 have c9:U (eR (a.v [w.heap.size+1,w.heap.size]) k e 367 446 5 e.heap.size h c.heap.size [(c.heap.size+1,.cells #[(aS h j).v] 341),(c.heap.size+2,.cells #[.map (some c.heap.size)] 149)] d 0 [] (aS h j).bs [c.heap.size+2,c.heap.size+1,c.heap.size,h,e.heap.size] [] [] (.slice none 0 0) c7 i):=by
  refine⟨c4.l (by simp),c0,?_,?_,?_,(by intro j3 g4;cases g4),?_,d8,(F.i _ (aj c1) (by simp)).trans c1,?_,⟨rfl,Y8 ⟨rfl,rfl⟩⟩,?_⟩
  .intro M f9;simp at f9 ⊢;omega
  .simp;omega
  .intro l4 h4;simp at h4;omega
  .have f7:dp h [] c:=a9;exact f7.h F (by simp)
  .intro p u;simp only[Yg,List.not_mem_nil,or_false]at u;rcases u with rfl|rfl
   .exact d4
   .exact d9
  .intro p u;simp only[aS,Yc]at u;subst u;refine⟨(F.i _ d7 (by simp)).trans c2,?_⟩;have j6:=f.b.B.F;have j7:w.heap.size+1<e.heap.size:=aj (f.b.I (w.heap.size+1,.cells #[.string ⟨#[]⟩,.int .i64 0,.slice none 0 0,.int .i64 0] 367) (by simp)).1;simp[Ad.v];refine⟨by omega,by omega,by omega,by omega,by omega,by omega,by omega,?_⟩;intro C;have:=g.al _ C;omega
 have c5:=bL ((c4.i _ a6 (by simp)).trans a0);rw[m]at c5;clear c0 e5 d8 d4 d9 c1 a9 c2 P b7 F b9 d7 e2 g1 g7;dsimp only[cM.v,aS]at c5;go_wp2_with fail;rw[show ((c.alloc (.map #[] 0)).alloc (.cells #[.func (.func 251) #[] #[.pointer (some ⟨j,0,none⟩)]] 341)).alloc (.cells #[.map (some c.heap.size)] 149)=i from m.symm];have c8:wm (a.v [w.heap.size+1,w.heap.size]) k e ⟨e.heap.size,w.heap.size,c.heap.size+1,c.heap.size+2,h,c.heap.size,j⟩ d 0 [c.heap.size+2,c.heap.size+1,c.heap.size,h,e.heap.size] ([],([],[])) c7 i:=⟨rfl,_,c9.b⟩;refine(wP 8 (Sa f.b.rd ⟨e.heap.size,w.heap.size,c.heap.size+1,c.heap.size+2,h,c.heap.size,j⟩ a0 e7 d) (by omega) c8).mono ?_;rintro O j0 (⟨d1,⟨x,l1,k9⟩,l6,a5,rfl,k8,b8,d6,l0,b0⟩|⟨a8,a5,b8,M,r,rfl,s⟩);rotate_left
 .exact aq (uf (f.b.B.a (b8.l (by simp[Ad.v]))) f.b.B (J.b.trans (bl (ci (tI a5)))) r s)
 dsimp only at d6 b0;have k6:x.length<=8:=by omega
 clear d6 b8;have d3:eF ((a.v [w.heap.size+1,w.heap.size]).v d1) a:=⟨rfl,rfl,rfl,rfl⟩;have q:ai [a.R,a.S,a.N] e j0:=b0.B;have i5:=bL ((q.i _ a6 e7).trans a0);have g6:nq ∉ [a.R,a.S,a.N]:=by simp;exact⟨t.2.1,t.2.2.1,t.2.2.2.1⟩
 have g8:b ∉ [a.R,a.S,a.N]:=by simp;exact⟨n.2.1,n.2.2.1,n.2.2.2.1⟩
 have e1:=f.b.a0.h q g6;have g3:cT ((a.v [w.heap.size+1,w.heap.size]).v d1) nq:=(t.v _).v _;have y:=Z b0;clear c9 c8 c5 m c4 h2 a1 a2;go_wp2_with fail;refine(Az d3 y.b.rd g3 e1).mono ?_;rintro O j1 ⟨B,⟨E,f0,f2,c3,rfl,e6,d5⟩|⟨a8,c3,M,r,rfl,s⟩⟩;rotate_left
 .exact aq (uf ((f.b.B.a (q.l (by simp))).a (B.l (by simp))) (f.b.B.a (q.l (M':=[a.R,a.S,a.N,b,nq]) (by simp))) (J.b.trans ((aE (aW (oC a5))).trans (bl (vx c3)))) r s)
 have k0:=g.K.2.1;have k1:=g.al _ t.1;have b9:=g.al _ n.1;have b1:=(f.b.I (w.heap.size+1,.cells #[.string ⟨#[]⟩,.int .i64 0,.slice none 0 0,.int .i64 0] 367) (by simp)).1;have h8:=aj b1;have f8:w.heap.size+1 ∉ [a.R,a.S,a.N]:=by obtain⟨h5,h6,a6,h7⟩:=g.K;simp;omega
 have b2:=(q.i _ h8 f8).trans b1;have b3:=(B.i _ (aj b2) (by simp;omega)).trans b2;have b4:=(B.i _ (aj y.b.I) (by simp;omega)).trans y.b.I;obtain⟨h9,i0,i1,i2⟩:=jN b3;have j8:=sV b3;obtain⟨i6,i7,i8,i9⟩:=jN b4;have j9:=sV b4;obtain⟨ad,a7,rfl⟩:=y.b.ck;have f3:U (jz k (H,z) I=.ok (⟨d.1,d.2,x,E⟩,(c6,f0),f2)):=J.b.trans ((aE (aW (oC a5))).trans ((aE (vy c3)).trans rfl));have k4:¬e.heap.size=w.heap.size+1:=by omega
 have k5:¬w.heap.size+1=e.heap.size:=by omega
 have K:=Z B;have f5:=Z e6;have f4:=Z d5;clear B e6 d5 J b1 b2 e1 i5 b3 b4;dsimp only[hU];go_wp2;have G:=((((ah [e.heap.size,w.heap.size+1] j1).O (p:=⟨e.heap.size,3,none⟩) (by simp) (.int .i64 E)).O (p:=⟨w.heap.size+1,0,none⟩) (by simp) (.string ⟨d.1.toArray⟩)).O (p:=⟨w.heap.size+1,1,none⟩) (by simp) (.int .i64 d.2)).O (p:=⟨w.heap.size+1,2,none⟩) (by simp) (.slice ad x.length a7) |>.O (p:=⟨w.heap.size+1,3,none⟩) (by simp) (.int .i64 E);obtain⟨f6,h3,g0⟩:=y.b.i6 (by omega) (JE x) (by intro g;rw[Yv.1 g];rfl);have h0:=g.ba d3 f5.b G (by
  intro j2 a3;simp only[Yg,List.not_mem_nil,or_false]at a3;rcases a3 with rfl|rfl
  .exact⟨by omega,Yf _ (y.b.C _ (by simp))⟩
  .exact⟨by omega,Ym _ (by simp[Ad.v])⟩)
 have g9:=jk g.C (jk f.b.rd.C h0);refine bodyPost_ret (v:=.agg #[.string ⟨d.1.toArray⟩,.int .i64 d.2,.slice ad x.length a7,.int .i64 E]) (by simp[results,results203,go_sem,h9,i0,i1,i2,i6,i7,i8,i9]) rfl ⟨?_,Y8 ⟨⟨d.1,d.2,x,E⟩,c6,f0,f2,.slice ad x.length a7,f6,f3.b,rfl,g9,?_,?_,h3,?_⟩⟩
 .refine(((f.b.B.a (q.l (by simp))).a (K.b.l (by simp))).ba G ?_);intro j2 a3;simp only[Yg,List.not_mem_nil,or_false]at a3;exact Ya (by omega)
 .exact((f.b.aH.h q g8).h K.b (by simp;exact⟨n.2.2.1,e0⟩)).h G (by simp;omega)
 .exact f4.b.h G (by simp;omega)
 .intro p u;obtain⟨d2,j4,j5⟩:=g0 p u;have f1:=aj d2;refine⟨(G.i _ (Yr f1 K.b.F) (by simp;omega)).trans ((K.b.i _ f1 (by simp;omega)).trans d2),?_⟩;intro C;have:=g.al _ C;omega
end
section
variable {b g:Ad}{f:Mar.M}{j:List (Int×Int)}{p:Int->Bool}{e:List eH}{i:eU}{d:World}{c h:St}
def Rd.o3{o:ByteArray}{l:World}(a:Rd b o c d)(f:ai [b.P] d l)(g:cN b.P j l):Rd b o { c with o:=j } l:=by
 obtain⟨E,F,L,M⟩:=a.K;obtain⟨I,J,r,K,s,t⟩:=a.bg;have A:d.heap[b.P]? = some (.map (c.o.mapIdx λC p=>(⟨.int .i64 p.1,.int .i64 p.2,C⟩:MapEntry)).toArray c.o.length):=a.pr;have i:∀h v,d.cell? ⟨h,0,none⟩=some v->h≠b.P:=by
  intro h v k u;subst u;unfold World.cell? at k;rw[A]at k;cases k
 obtain⟨⟨N,w⟩,⟨_,_,x⟩,⟨_,_,y⟩⟩:=id a.gl;refine⟨(f.i _ E (by simp;exact r)).trans a.me,?_,a.nm.h f (by simp;exact a.C.2.2.2) (by simp;exact t),a.C,λm B=>Yr (a.al m B) f.F,g,a.np,a.gl.h f (by simp[i _ _ w]) (by simp[i _ _ x]) (by simp[i _ _ y]),a.dn,a.aP⟩;obtain⟨z,e⟩:=a.sc;refine⟨z,?_⟩;have n:=f.i _ F (by simp;exact s);show match c.A with|some m=>_|none=>_
 cases g:c.A with
 |some m=>rw[g]at e;exact n.trans e
 |none=>rw[g]at e;obtain⟨D,H,G,q,e⟩:=e;exact⟨D,H,G,q,n.trans e⟩
def mj(d:ByteArray)(p:Int->Bool):PM Int:=λc=>match fR d p c.o c with
 |.ok (b,a,h)=>.ok (b,{ h with o:=a })
 |.error f=>.error f
def yi{d:ByteArray}{b:Int}{a:List (Int×Int)}(e:fR d p c.o c=.ok (b,a,h)):mj d p c=.ok (b,{ h with o:=a }):=by simp only[mj,e]
def vu{a:ByteArray}(b:fR a p c.o c=.error f):mj a p c=.error f:=by simp only[mj,b]
def LO{o:ByteArray}{v:Value}(k:Rd b o c d)(y:gx b.X v p d) :
  Calls prog 250 #[.pointer (some ⟨b.R,0,none⟩),.map (some b.P),v] d (dC [b.S,b.P] b o d (mj o p c) hU):=by
 have t:=Z (DZ k y);have q:cN b.P c.o d:=k.pr;have z:b.P ∉ [b.S]:=by simp;exact λj=>k.bg.2.2.2.2.1 j.symm
 go_in;go_wp2_with fail;refine t.b.mono ?_;rintro j E ⟨e,⟨B,G,h,rfl,A⟩|⟨f,h,x,l,rfl,m⟩⟩;rotate_left
 .exact aq (eq (e.l (by simp)) (ah [] _) (vu (bl (ci h))) l m)
 have r:=q.h e z;have i:=Z (e.l (M':=[b.S,b.P]) (by simp));clear e q;go_wp2_with fail;refine(DG _ _ r).mono ?_;rintro j F ⟨g,⟨C,D,n,rfl,rfl,s⟩|⟨f,n,x,l,rfl,m⟩⟩;rotate_left
 .exact aq (eq (i.b.a (g.l (by simp))) i.b (vu ((aE (aW h)).trans (bl (rM n)))) l m)
 have w:=Z (A.o3 g s);have u:=Z (i.b.a (g.l (M':=[b.S,b.P]) (by simp)));clear r g s;go_wp2;go_ret;exact fm (a:=B.1) u.b (yi ((aE (aW h)).trans (aE (rN n)))) rfl w.b
def mW(a:ByteArray):PM Int:=au (bU a [61]) λ_=>au (mj a (di 0 4294967295)) λb=>au (bU a [59]) λ_=>bS b
def Hq{q:ByteArray}(y:Rd b q c d) :
  Calls prog 204 #[.pointer (some ⟨b.R,0,none⟩),.map (some b.P)] d (dC [b.S,b.P] b q d (mW q c) hU):=by
 go_in;go_wp2_with fail;refine(rj _ y).mono ?_;rintro k D ⟨n,⟨H,J,h,rfl,x⟩|⟨f,h,r,e,rfl,g⟩⟩;rotate_left
 .exact aq (eq (n.l (by simp)) (ah [] _) (bj h) e g)
 have s:=n.l (M':=[b.S,b.P]) (by simp);clear n;go_wp2_with fail;refine(qv _ _ _).mono ?_;rintro k E ⟨v,rfl,m,u⟩;have t:=u b.X x.al;have z:=x.t m;have i:=s.a (br _ m);clear u m s;go_wp2_with fail;refine(LO z t).mono ?_;rintro k F ⟨o,⟨C,K,j,rfl,A⟩|⟨f,j,r,e,rfl,g⟩⟩;rotate_left
 .exact aq (eq (i.a o) i ((as h).trans (bj j)) e g)
 have l:=i.a o;clear t i o;dsimp only[hU];go_wp2_with fail;refine(rj _ A).mono ?_;rintro k G ⟨w,⟨I,L,p,rfl,B⟩|⟨f,p,r,e,rfl,g⟩⟩;rotate_left
 .exact aq (eq (l.a (w.l (by simp))) l ((as h).trans ((as j).trans (bj p))) e g)
 go_wp2;go_ret;exact fm (a:=C) (l.a (w.l (by simp))) ((as h).trans ((as j).trans (as p))) rfl B
def Hr(a:eF g b){e:ByteArray}(f:Rd g e c d) :
  Calls prog 204 #[.pointer (some ⟨b.R,0,none⟩),.map (some b.P)] d (dC [b.S,b.P] g e d (mW e c) hU):=by
 have:=Hq f;rw[a.1,a.2.1,a.2.2.2]at this;exact this
def IZ:(prog.info? 367).map (λa=>(a.zero,a.size,a.bytes))=some (some (.agg #[.string ⟨#[]⟩,.int .i64 0,.slice none 0 0,.int .i64 0]),4,56):=by kernel_rfl
def iU(d:ByteArray):PX (List eH×eU) Unit:=λp c=>match jz d p.2 c with
 |.ok (a,b,h)=>.ok ((),(p.1++[a],b),h)
 |.error f=>.error f
def Cx{d:ByteArray}{b:eU}{a:eH}(f:jz d i c=.ok (a,b,h)):iU d (e,i) c=.ok ((),(e++[a],b),h):=by simp only[iU,f]
def Cw{a:ByteArray}(b:jz a i c=.error f):iU a (e,i) c=.error f:=by simp only[iU,b]
structure ip where
 D:Nat
 db:Nat
 rb:Nat
 cb:Nat
 nb:Nat
 q:Nat
 nq:Nat
 bx:Nat
abbrev ip.E(a:ip):List (Nat×Obj):=[(a.db,.cells #[.pointer (some ⟨a.D,0,none⟩)] 233),(a.cb,.cells #[(aS a.q a.bx).v] 341),(a.nb,.cells #[.map (some a.nq)] 149)]
abbrev my(p:eH×Value):List Value:=ll p.1.t p.1.m++[p.2,.int .i64 p.1.num]
def vB(b:Ad)(l:ByteArray)(d:World)(a:ip)(j:List UInt8×Nat)(i:Nat)(h:List Nat)(p:List eH×eU)(c:St)(m:World):Prop:=p.1.length=i/\
 ∃(k:Value) (f:List Value) (g:List (Nat×Obj)),eR b l d 267 367 4 a.D a.q a.nq a.E j p.1.length ((p.1.zip f).flatMap my) ((aS a.q a.bx).bs++g) h p.2.1 p.2.2 k c m/\f.length=p.1.length/\
  ∀e (n:e<p.1.length) (o:e<f.length),fv g 446 f[e] p.1[e].u.length (p.1[e].u.flatMap kH)
def RX(i:eF g b){e:ByteArray}{a bx nq:Nat}{f:List (List UInt8)}(h:Rd g e c d)(o:cT g a)(m:cT g nq)(n:a≠nq)(p:dp a f d)(k:bm g.X (aS a bx).bs d)(l:cN nq j d) :
  Calls prog 203 #[.pointer (some ⟨b.R,0,none⟩),(aS a bx).v,.map (some nq)] d (ww g e d a nq (jz e (f,j) c)):=by
 have:=RW h o m n p k l;rw[i.1]at this;exact this
def Mc(f:eH)(c:Option Addr)(d e:Nat):∀b∈my (f,.slice c d e),b.oneCell'=true:=by
 intro b a;simp at a;rcases a with rfl|rfl|rfl|rfl<;>rfl
def MN{I:ByteArray}{C:World}{a:ip}{c3:List UInt8×Nat}{b1:Nat}{J:List Nat}{f7:St}(z:Rd b I f7 d)(c2:d.heap[a.rb]? = some (.cells #[.pointer (some ⟨b.R,0,none⟩)] 145))(e6:a.rb ∉ [b.R,b.S,b.N])(b9:b1<1000)(y:vB b I d a c3 b1 J (e,i) c C) :
  Calls prog 202 #[.pointer (some ⟨a.db,0,none⟩),.pointer (some ⟨a.rb,0,none⟩),.pointer (some ⟨a.cb,0,none⟩),.pointer (some ⟨a.nb,0,none⟩)] C (jE b d (vB b I d a c3 (b1+1)) (iU I (e,i) c)):=by
 obtain⟨a6,i2,u,b6,l,w,a4⟩:=y;obtain⟨f4,j⟩:=i;dsimp only at a6 l w a4;have c8:=Z a6;have c5:=Z w;have c6:=Z a4;have g8:e.length<1000:=by omega
 clear a6 w a4;obtain⟨ad,M,rfl⟩:=l.ck;obtain⟨f2,d9,e8,e9,f0⟩:=info_parts IZ;have c1:=aj c2;have a9:=λ(v:World) (b9:ai [b.R,b.S,b.N] d v)=>bL ((b9.i _ c1 e6).trans c2);have b3:=Z a9;obtain⟨i3,i4,i5,i6⟩:=jN l.I;have h9:=a9 _ l.B;have g3:=bL (l.dz (a.db,.cells #[.pointer (some ⟨a.D,0,none⟩)] 233) (by simp[ip.E]));have f9:=bL (l.dz (a.cb,.cells #[(aS a.q a.bx).v] 341) (by simp[ip.E]));have h6:=bL (l.dz (a.nb,.cells #[.map (some a.nq)] 149) (by simp[ip.E]));have d7:Below C.heap.size C C.drew:=(Below.refl _ _).drew;have h:=Z (l.t z d7);have c4:=Z (RX (bx:=a.bx) (cC b J) h.b.rd (h.b.aZ z (h.b.C a.q (by simp))) (h.b.aZ z (h.b.C a.nq (by simp))) h.b.bg.2.2.1 h.b.aH (λp A=>h.b.c5 p (Yf _ A)) h.b.a0);have e0:e.length+1<=maxLen:=by unfold maxLen;omega
 have e1:(e.length+1)*56<=140737488355328:=by omega
 have f1:(Value.agg #[.string ⟨#[]⟩,.int .i64 0,.slice none 0 0,.int .i64 0]).cells.size=4:=by decide
 clear l a9;go_in;go_wp2_with fail;refine cR (λF=>F.cell? ⟨a.D,2,none⟩=some (.slice ad e.length M)/\F.cell? ⟨a.db,0,none⟩=some (.pointer (some ⟨a.D,0,none⟩))/\F.cell? ⟨a.rb,0,none⟩=some (.pointer (some ⟨b.R,0,none⟩))/\F.cell? ⟨a.cb,0,none⟩=some (aS a.q a.bx).v/\F.cell? ⟨a.nb,0,none⟩=some (.map (some a.nq))) (L:=13) (by kernel_rfl) rfl (by kernel_rfl) (by kernel_rfl) ?_ (λa0=>?_)
 .go_keep
 refine bH [0,1,2,3,4,5,6,7] ?_;iterate 8 (refine bO (v:=?_) rfl (by kernel_rfl) (λ_ _ _ y=>y) (by rfl) (by assumption) ?_ ?_;rotate_left;focus (intro d a1;(try dsimp only at a1);go_simp;(try with_reducible rfl));(try simp only[aK,aL,List.set]))
 refine bI ?_;refine cj 8 (by kernel_rfl) rfl λm k=>?_;(go_simp;go_at_call 203;refine c4.b.mono ?_;rintro g6 G ⟨c0,⟨n,f5,f3,f8,d2,K,b0,rfl,e5,e7,e3,a8,b7⟩|⟨f,b0,b5,d6,rfl,d8⟩⟩;rotate_left;exact aq (lH (h.b.B.ba c0 (by intro b2 B;have:=h.b.E _ (h.b.C a.q (by simp));have:=h.b.E _ (h.b.C a.nq (by simp));simp[Ad.v]at B ⊢;omega)) h.b.B (Cw b0) d6 d8);have g:=Z (h.b.a4 z c0 (by intro b2 B;simpa[Ad.v]using B) e5 e7 e3);obtain⟨r,t,s,rfl⟩:∃a b5 d0,d2=.slice a b5 d0:=(by rcases a8 with⟨rfl,_⟩|⟨P,M,g2,rfl,_⟩<;>exact⟨_,_,_,rfl⟩);have c7:=Z b7;have c9:=Z a8;clear b7 a8;obtain⟨i7,i8,i9,j0⟩:=jN g.b.I;have i0:=b3.b _ g.b.B;have a3:=g.b.dz (a.db,.cells #[.pointer (some ⟨a.D,0,none⟩)] 233) (by simp[ip.E]);have a2:=g.b.dz (a.cb,.cells #[(aS a.q a.bx).v] 341) (by simp[ip.E]);have a7:=g.b.dz (a.nb,.cells #[.map (some a.nq)] 149) (by simp[ip.E]);have g4:=bL a3;have g0:=bL a2;have h7:=bL a7;have h1:=aj g.b.I;have h5:=Yr c1 g.b.B.F;have h3:=aj a3;have h2:=aj a2;have h4:=aj a7;have h0:=g.b.B.F;clear a3 a2 a7);refine k.out _ _ ?_ (λa0=>?_)
 .go_keep
 clear k m;(try simp only[aK,aL,List.set]);refine cj 9 (by kernel_rfl) rfl λm k=>?_;go_simp;refine k.out _ _ ?_ (λa0=>?_)
 .go_keep
 clear k m;(try simp only[aK,aL,List.set]);refine cj 10 (by kernel_rfl) rfl λm k=>?_;(refine step_append_lies _ (by rfl) _ _ _ (by rfl) d.heap.size 367 f2 _ 4 56 underlying265 d9 e8 e9 f0 f1 (by omega) (.slice ad e.length M) e.length ((e.zip u).flatMap my) (by rfl) (g.b.hK _) ⟨G.heap.size,0,none⟩ 1 1 (my (n,.slice r t s)) (by rfl) (by rfl) (World.news_of_block (cs:=(my (n,.slice r t s)).toArray) (t:=367) (fr:=(0,0)) (heap_alloc_new G _)) (Mc n r t s) (by omega) e0 e1 (by simp;omega) (G.heap.size+1) (by simp) ?_;intro P d1 f6 e4 o d5 e2;obtain⟨j1,j2,j3,j4⟩:=jN (g.b.fF o);have g9:=sV (g.b.fF o);have g5:=bL (g.b.h7 o (p:=(a.db,.cells #[.pointer (some ⟨a.D,0,none⟩)] 233)) (by simp[ip.E]));have g1:=bL (g.b.h7 o (p:=(a.cb,.cells #[(aS a.q a.bx).v] 341)) (by simp[ip.E]));have h8:=bL (g.b.h7 o (p:=(a.nb,.cells #[.map (some a.nq)] 149)) (by simp[ip.E]));have i1:f6.cell? ⟨a.rb,0,none⟩=some (.pointer (some ⟨b.R,0,none⟩)):=b3.b _ (((g.b.B.d _)).ba (eJ o) (by intro b2 B;have H:=g.b.G b2 (by simpa using B);exact Ya (g.b.E _ H.1))));refine k.out _ _ ?_ (λa0=>?_)
 .go_keep
 clear k m;(try simp only[aK,aL,List.set]);refine bH [11,12] ?_;iterate 2 (refine bO (v:=?_) rfl (by kernel_rfl) (λ_ _ _ y=>y) (by rfl) (by assumption) ?_ ?_;rotate_left;focus (intro d a1;(try dsimp only at a1);go_simp;(try with_reducible rfl));(try simp only[aK,aL,List.set]))
 refine bI ?_;refine cP (by kernel_rfl) rfl λm k=>?_;go_simp;refine k.out _ _ ?_;clear k m;(try simp only[aK,aL,List.set]);have b4:=zr (bs':=K) z g.b c7.b ((Below.refl G.heap.size G).alloc (Y4 _) _) e4 o (by simpa using d5) e2;go_wp2;go_end0;have w:=c5.b;refine Y8 ⟨P::J,(e++[n],(f5,f3)),f8,Cx b0,rfl,by simp[c8.b],.slice (some ⟨P,0,none⟩) (e.length+1) d1,u++[.slice r t s],b6++K,?_,by simp[w],?_⟩
 .have O:((e++[n]).zip (u++[.slice r t s])).flatMap my=(e.zip u).flatMap my++my (n,.slice r t s):=by
   rw[List.zip_append w.symm,YK];simp
  have d3:(e++[n]).length=e.length+1:=by simp
  rw[YN (aS a.q a.bx).bs b6 K]at b4;dsimp only;rw[O,d3];exact b4
 .intro x H g7;dsimp only at H ⊢;by_cases b8:x<e.length
  .have a5:x<u.length:=by omega
   rw[List.getElem_append_left a5,List.getElem_append_left b8];exact(c6.b x b8 a5).l (λp A=>Yf _ A)
  .have a5:x=e.length:=by simp at H;omega
   rw[List.getElem_append_right (by omega),List.getElem_append_right (by omega)];have O:x-e.length=0:=by omega
   have d4:x-u.length=0:=by omega
   simp only[O,d4,List.getElem_cons_zero];exact c9.b.l (λp A=>Ym _ A)
end
def MO(args:Array Value)(a:World):(callFunc 202 args).run prog a=.ok (.enter 202 args) a:=by kernel_rfl
def Mw{A:Ad}{c:ByteArray}{r:St}{d:World}(g:Rd A c r d)(a:ip)(n:d.heap[a.rb]? = some (.cells #[.pointer (some ⟨A.R,0,none⟩)] 145))(o:a.rb ∉ [A.R,A.S,A.N])(p:List UInt8×Nat):uh (List eH×eU) A c d 4 where
 f:=202
 i1:=#[.pointer (some ⟨a.db,0,none⟩),.pointer (some ⟨a.rb,0,none⟩),.pointer (some ⟨a.cb,0,none⟩),.pointer (some ⟨a.nb,0,none⟩)]
 af:=iU c
 J:=vB A c d a p
 e0:=MO
 rd:=by rintro _ _ _ _ _ ⟨_,_,_,_,b,_⟩;exact b.rd
 B:=by rintro _ _ _ _ _ ⟨_,_,_,_,b,_⟩;exact b.B
 bd:=by rintro _ _ _ _ _ _ _ ⟨e,q,j,i,b,k,l⟩ h m;exact⟨e,q,j,i,b.bd g h m,k,l⟩
 call:=by
  intro t s u w v h e
  exact MN g n o (by omega) e
def oy(a:ByteArray)(b:List UInt8×Nat):PM ao:=au (hZ (eu a 4 (iU a)) ([],([],[]))) λd=>au (mW a) λc=>bS (.prog b.1 b.2 d.1 c)
def hC(a:ByteArray)(c:Nat):PM ao:=au (λb=>ei b.o.length 4 c b) λ_=>au (gp a) (oy a)
def JF:∀a:List (eH×Value),(a.flatMap my).length=a.length*4:=by
 intro a;induction a with
 |nil=>rfl
 |cons c d b=>simp only[YD,Yq,YC,b];simp;omega
def MQ{A:Ad}{x:ByteArray}{f:St}(z:Nat){w:World}(i:Rd A x f w) :
  Calls prog 124 #[.pointer (some ⟨A.R,0,none⟩),.int .i64 z] w (fV [A.R,A.S,A.N,A.P] A x w (hC x z f)):=by
 have j6:=jq;have j7:=jr;have b0:=i.G (.cells #[.pointer (some ⟨A.R,0,none⟩)] 145);have b7:=aJ (w:=w) (o:=.cells #[.pointer (some ⟨A.R,0,none⟩)] 145) rfl;obtain⟨k7,k8,k9,l0⟩:=i.K;have i9:=bL b7;have j4:(w.alloc (.cells #[.pointer (some ⟨A.R,0,none⟩)] 145)).cell? ⟨A.R,4,none⟩=some (.map (some A.P)):=b0.r.2.2.2.2.1;have k1:=Cj (show cN A.P f.o (w.alloc (.cells #[.pointer (some ⟨A.R,0,none⟩)] 145))from b0.pr);go_in;go_wp2_with fail;by_cases d9:4<=f.o.length
 .refine(qg _ _ _ _ (by omega)).mono ?_;rintro g i3 ⟨⟨p,s,rfl,t⟩,a0⟩;exact aq (dx (f:=⟨5,z⟩) (((ah _ w).d _).a (br _ a0)) ((ah [] w).d _) (bj (show ei f.o.length 4 z f=_ from Y9 d9)) s t)
 have e3:(λf:St=>ei f.o.length 4 z f) f=.ok ((),f):=Y2 d9;refine(qh _ _ _ _ (by omega)).mono ?_;rintro g i3 ⟨rfl,rfl⟩;go_wp2_with fail;refine(BQ (eG A _) b0).mono ?_;rintro g a ⟨a7,⟨c,c4,b8,rfl,b1⟩|⟨a5,b8,p,s,rfl,t⟩⟩;rotate_left
 .exact aq (dx (((ah _ w).d _).a (a7.l (by simp))) ((ah [] w).d _) ((as e3).trans (bj b8)) s t)
 have B:ai [A.R,A.S,A.N] w a:=((ah _ w).d _).a (a7.l (by simp));have J:=(a7.i _ (aj b7) (by simp;omega)).trans b7;have c1:=aj J;have a4:U (hC x z f=oy x c c4):=(as e3).trans (as b8);have b3:w.heap.size ∉ [A.R,A.S,A.N]:=by simp;omega
 dsimp only[fQ];go_wp2_with fail;obtain⟨y,C⟩:∃y,y=(a.alloc (.cells #[.string ⟨c.1.toArray⟩,.int .i64 c.2,.slice none 0 0,.int .i64 0] 267)).alloc (.cells #[.pointer (some ⟨a.heap.size,0,none⟩)] 233):=⟨_,rfl⟩;rw[<-C];have b4:(a.alloc (.cells #[.string ⟨c.1.toArray⟩,.int .i64 c.2,.slice none 0 0,.int .i64 0] 267)).heap.size=a.heap.size+1:=by simp
 have e1:=(b1.G (.cells #[.string ⟨c.1.toArray⟩,.int .i64 c.2,.slice none 0 0,.int .i64 0] 267)).G (.cells #[.pointer (some ⟨a.heap.size,0,none⟩)] 233);rw[b4,<-C]at e1;have k4:y.heap.size=a.heap.size+2:=by rw[C];simp
 have g8:ai [] a y:=by rw[C];exact((ah [] a).d _).d _
 have d2:y.heap[a.heap.size]? = some (.cells #[.string ⟨c.1.toArray⟩,.int .i64 c.2,.slice none 0 0,.int .i64 0] 267):=by
  rw[C];exact(((ah [] _).d _).i _ (by rw[b4];omega) (by simp)).trans (aJ rfl)
 have d6:y.heap[a.heap.size+1]? = some (.cells #[.pointer (some ⟨a.heap.size,0,none⟩)] 233):=by
  rw[C];exact aJ b4.symm
 refine(uo _).mono ?_;rintro g b ⟨e,k,rfl,h4,j3,k3,d4,a6,e4⟩;dsimp only[cM.v,aS];have h0:e<b.heap.size:=by
  obtain⟨_,_,_,q⟩:=id d4;exact aj q
 have h1:=aj e4;have k5:=a6.size;have a8:=br [] a6;have h5:=e1.j0 a6 h4 h0;have d3:=(a8.i _ (aj d2) (by simp)).trans d2;have d7:=(a8.i _ (aj d6) (by simp)).trans d6;obtain⟨h,r⟩:∃h,h=((b.alloc (.map #[] 0)).alloc (.cells #[(aS e k).v] 341)).alloc (.cells #[.map (some b.heap.size)] 149):=⟨_,rfl⟩;have b5:(b.alloc (.map #[] 0)).heap.size=b.heap.size+1:=by simp
 have b6:((b.alloc (.map #[] 0)).alloc (.cells #[(aS e k).v] 341)).heap.size=b.heap.size+2:=by simp
 have e2:=((h5.G (.map #[] 0)).G (.cells #[(aS e k).v] 341)).G (.cells #[.map (some b.heap.size)] 149);rw[b5,b6,<-r]at e2;have K:ai [] b h:=by rw[r];exact(((ah [] b).d _).d _).d _
 have h2:h.heap[b.heap.size]? = some (.map #[] 0):=by
  rw[r];exact((((ah [] _).d _).d _).i _ (by rw[b5];omega) (by simp)).trans (aJ rfl)
 have g6:h.heap[b.heap.size+1]? = some (.cells #[(aS e k).v] 341):=by
  rw[r];exact(((ah [] _).d _).i _ (by rw[b6];omega) (by simp)).trans (aJ b5.symm)
 have h3:h.heap[b.heap.size+2]? = some (.cells #[.map (some b.heap.size)] 149):=by
  rw[r];exact aJ b6.symm
 have e5:ai [] a h:=(g8.a a8).a K;have f4:U (eR (A.v [w.heap.size]) x a 267 367 4 a.heap.size e b.heap.size [(a.heap.size+1,.cells #[.pointer (some ⟨a.heap.size,0,none⟩)] 233),(b.heap.size+1,.cells #[(aS e k).v] 341),(b.heap.size+2,.cells #[.map (some b.heap.size)] 149)] c 0 [] ((aS e k).bs++[]) [b.heap.size+2,b.heap.size+1,b.heap.size,e,a.heap.size+1,a.heap.size] [] [] (.slice none 0 0) c4 h):=by
  refine⟨e5.l (by simp),e2,?_,?_,?_,(by intro j2 g7;cases g7),?_,h2,(K.i _ (aj d3) (by simp)).trans d3,?_,⟨rfl,Y8 ⟨rfl,rfl⟩⟩,?_⟩
  .intro p a0;simp at a0 ⊢;omega
  .simp;omega
  .intro l8 h9;simp at h9;omega
  .have g1:dp e [] b:=d4;exact g1.h K (by simp)
  .intro j d;simp only[Yg,List.not_mem_nil,or_false]at d;rcases d with rfl|rfl|rfl
   .exact(K.i _ (aj d7) (by simp)).trans d7
   .exact g6
   .exact h3
  .intro j d;simp only[aS,YH,Yc]at d;subst d;refine⟨(K.i _ h1 (by simp)).trans e4,?_⟩;simp[Ad.v];refine⟨by omega,by omega,by omega,by omega,by omega,by omega,by omega,?_⟩;intro q;have:=i.al _ q;omega
 have e7:=bL ((e5.i _ c1 (by simp)).trans J);rw[r]at e7;dsimp only[cM.v,aS]at e7;go_wp2_with fail;rw[show ((b.alloc (.map #[] 0)).alloc (.cells #[.func (.func 251) #[] #[.pointer (some ⟨k,0,none⟩)]] 341)).alloc (.cells #[.map (some b.heap.size)] 149)=h from r.symm];have f2:vB (A.v [w.heap.size]) x a ⟨a.heap.size,a.heap.size+1,w.heap.size,b.heap.size+1,b.heap.size+2,e,b.heap.size,k⟩ c 0 [b.heap.size+2,b.heap.size+1,b.heap.size,e,a.heap.size+1,a.heap.size] ([],([],[])) c4 h:=⟨rfl,_,[],[],f4.b,rfl,by intro c0 i;cases i⟩;refine(wP 4 (Mw (A:=A.v [w.heap.size]) b1 ⟨a.heap.size,a.heap.size+1,w.heap.size,b.heap.size+1,b.heap.size+2,e,b.heap.size,k⟩ J b3 c) (by omega) f2).mono ?_;rintro g m (⟨c6,⟨e6,l3,l1⟩,l9,a1,rfl,k6,e0,g9,c2,f7,f5,l,d5,d8⟩|⟨a5,a1,e0,p,s,rfl,t⟩);rotate_left
 .exact aq (dx ((B.l (by simp)).a (e0.l (by simp[Ad.v]))) B (a4.b.trans (bj (tI a1))) s t)
 dsimp only at g9 l d5 d8;have k2:e6.length<=4:=by omega
 have d1:eF ((A.v [w.heap.size]).v c6) A:=⟨rfl,rfl,rfl,rfl⟩;have I:ai [A.R,A.S,A.N] a m:=l.B;have l2:=bL ((I.i _ c1 b3).trans J);have j1:=bL (l.dz (a.heap.size+1,.cells #[.pointer (some ⟨a.heap.size,0,none⟩)] 233) (by simp[ip.E]));have i6:m.cell? ⟨A.R,4,none⟩=some (.map (some A.P)):=l.rd.r.2.2.2.2.1;have M:=Z l;have c5:=Z d5;have f1:=Z d8;have g3:Below m.heap.size m m.drew:=(Below.refl _ _).drew;have f0:=Z (Hr d1 (l.rd.t g3));go_wp2_with fail;have j8:¬a.heap.size=A.R:=by have:=B.F;omega
 have j9:¬a.heap.size=w.heap.size:=by omega
 have k0:¬a.heap.size=a.heap.size+1:=by omega
 have g2:∀n,ai [A.S,A.P] m.drew n->n.cell? ⟨a.heap.size+1,0,none⟩=some (.pointer (some ⟨a.heap.size,0,none⟩))/\n.cell? ⟨w.heap.size,0,none⟩=some (.pointer (some ⟨A.R,0,none⟩))/\
   n.heap[a.heap.size]? = some (.cells #[.string ⟨c.1.toArray⟩,.int .i64 c.2,c2,.int .i64 0] 267):=by
  intro n D;have a9:=((ah _ m).ae).a D;have c7:=l.dz (a.heap.size+1,.cells #[.pointer (some ⟨a.heap.size,0,none⟩)] 233) (by simp[ip.E]);have c8:=(I.i _ c1 b3).trans J;exact⟨bL ((a9.i _ (aj c7) (by simp;omega)).trans c7),bL ((a9.i _ (aj c8) (by simp;omega)).trans c8),(a9.i _ (aj l.I) (by simp;omega)).trans l.I⟩
 have e8:=Z g2;go_region_held2 (λc3=>c3.cell? ⟨a.heap.size+1,0,none⟩=some (.pointer (some ⟨a.heap.size,0,none⟩))/\c3.cell? ⟨w.heap.size,0,none⟩=some (.pointer (some ⟨A.R,0,none⟩))/\c3.cell? ⟨A.R,4,none⟩=some (.map (some A.P))) (go_keep)
  (first
   |(go_at_call 204;refine f0.b.mono ?_;rintro g n ⟨D,⟨a2,i5,b9,rfl,b2⟩|⟨a5,b9,p,s,rfl,t⟩⟩;rotate_left;exact aq (dx (((B.l (by simp)).a (I.l (by simp))).a (((ah _ m).ae).a (D.l (by simp)))) (B.a I) (a4.b.trans ((as (oC a1)).trans (bj b9))) s t);obtain⟨j0,i8,O⟩:=e8.b n D;have i7:n.cell? ⟨A.R,4,none⟩=some (.map (some A.P)):=b2.r.2.2.2.2.1;obtain⟨l4,l5,l6,l7⟩:=jN O;have j5:=sV O;have F:=Z (((ah [A.S,A.P] m).ae).a D);have f3:=Z b2;have e9:=Z O;clear D b2 O;dsimp only[hU]))
 all_goals
  go_wp2
  go_ret
  have a3:=(ah [a.heap.size] n).O (p:=⟨a.heap.size,3,none⟩) (by simp) (.int .i64 a2)
  obtain⟨f6,h8,g5⟩:=M.b.i6 (by omega) (by rw[JF,List.length_zip,c5.b,Nat.min_self]) (by intro i;rw[Yv.1 i];rfl)
  have d0:a.heap.size∈((A.v [w.heap.size]).v c6).X:=Yf _ (M.b.C _ (by simp))
  have h7:=i.ba d1 f3.b a3 (by
   intro i4 u;simp only[Yc]at u;subst u;exact⟨by omega,d0⟩)
  have h6:=jk i.C (jk (A:=A.v [w.heap.size]) b1.C h7)
  have g4:=bu (i:=3) e9.b (.int .i64 a2)
  have c9:∀p,w.heap.size<=p->p ∉ A.X:=λp a0 q=>by have:=i.al _ q;omega
  refine⟨?_,Y8 ⟨.prog c.1 c.2 e6 a2,i5,a.heap.size,(a.heap.size,.cells #[.string ⟨c.1.toArray⟩,.int .i64 c.2,c2,.int .i64 a2] 267)::(f6++f5),a4.b.trans ((as (oC a1)).trans ((as b9).trans rfl)),rfl,h6,⟨c2,f7,Yb,c5.b,?_,?_⟩,?_⟩⟩
  .refine(((B.l (by simp)).a (I.l (by simp))).a (F.b.l (by simp))).ba a3 ?_;intro i4 u;simp only[Yc]at u;subst u;exact Ya (by omega)
  .exact h8.l (λj d=>Y5 _ (Yf _ d))
  .intro c0 f9 g0;exact(f1.b c0 f9 g0).l (λj d=>Y5 _ (Ym _ d))
  .intro j d;rcases Yg.1 d with rfl|d
   .exact⟨g4,c9 _ (by dsimp only;omega)⟩
   .rcases Yn.1 d with d|d
    .obtain⟨G,H,f8⟩:=g5 j d;have L:=aj G;exact⟨(a3.i _ (Yr L F.b.F) (by simp;exact f8)).trans ((F.b.i _ L (by simp;omega)).trans G),c9 _ (by omega)⟩
    .obtain⟨G,H⟩:=M.b.c5 j (Ym _ d);have L:=aj G;have q:=M.b.rd.C;have i0:j.1≠A.S:=λg=>H (g▸q.2.1);have i1:j.1≠A.P:=λg=>H (g▸q.2.2.2);have i2:j.1≠a.heap.size:=λg=>H (g▸d0);exact⟨(a3.i _ (Yr L F.b.F) (by simp;exact i2)).trans ((F.b.i _ L (by simp;exact⟨i0,i1⟩)).trans G),λu=>H (Ym _ (Ym _ u))⟩
section
variable {d:Ad}{k:List Nat}{l:TypeId}{m:Nat}{c b:ao}{j:Except Mar.M (ao×St)}{i h:World}{a:Mar.am}{g e:St}
def ev{j:Type}{i:PM j}{f:j->PM ao}(a:au i f g=.ok (c,e))(k:∀b d,f b d=.ok (c,e)->cD c=l):cD c=l:=by
 cases h:i g with
 |error n=>rw[bj h]at a;cases a
 |ok m=>
  obtain⟨b,d⟩:=m;rw[as h]at a;exact k b d a
def rJ{a:ao}(b:bS a g=.ok (c,e))(d:cD a=l):cD c=l:=by
 simp only[bS]at b;cases b
 exact d
def Jl{c:ByteArray}(a:iv c m g=.ok (b,e)):cD b=223:=
 ev a λ_ _ a=>ev a λ_ _ a=>ev a λ_ _ a=>ev a λ_ _ a=>ev a λ_ _ a=>rJ a rfl
def Jr{c:ByteArray}(a:iC c m g=.ok (b,e)):cD b=225:=
 ev a λ_ _ a=>ev a λ_ _ a=>ev a λ_ _ a=>rJ a rfl
def Jo{i:ByteArray}{k:List UInt8×Nat}:∀(c:Nat) (f:List (List UInt8×Nat×Int)) (d:List (Int×Int)) (g e:St) (b:ao),go i k c f d g=.ok (b,e)->cD b=227:=by
 intro c;induction c with
 |zero=>intro f d g e b a;simp only[go,fj]at a;cases a
 |succ c j=>
  intro f d g e b a;cases h:hX i f.length d g with
  |error n=>rw[th h]at a;cases a
  |ok l=>
   obtain⟨p,o,q⟩:=l;rw[rC h]at a;refine ev a λm r a=>?_;cases m with
   |true=>exact j _ _ _ _ _ a
   |false=>exact ev a λ_ _ a=>ev a λ_ _ a=>rJ a rfl
def Jm{c:ByteArray}(a:gm c m g=.ok (b,e)):cD b=227:=
 ev a λ_ _ a=>ev a λ_ _ a=>ev a λ_ _ a=>Jo _ _ _ _ _ _ a
def Jq{c:ByteArray}(a:iZ c m g=.ok (b,e)):cD b=229:=
 ev a λ_ _ a=>ev a λ_ _ a=>ev a λ_ _ a=>ev a λ_ _ a=>rJ a rfl
def Js{c:ByteArray}(a:dP c m g=.ok (b,e)):cD b=231:=
 ev a λ_ _ a=>ev a λ_ _ a=>ev a λ_ _ a=>ev a λ_ _ a=>ev a λ_ _ a=>ev a λ_ _ a=>ev a λ_ _ a=>ev a λ_ _ a=>ev a λ_ _ a=>ev a λ_ _ a=>ev a λ_ _ a=>rJ a rfl
def Jp{c:ByteArray}(a:hC c m g=.ok (b,e)):cD b=233:=
 ev a λ_ _ a=>ev a λ_ _ a=>ev a λ_ _ a=>ev a λ_ _ a=>rJ a rfl
def dT(b:ByteArray)(a:Mar.am):PM ao:=
 if a.text==[99,111,110,115,116]then iv b a.m
 else if a.text==[116,121,112,101,100,101,102]then iC b a.m
 else if a.text==[101,110,117,109]then gm b a.m
 else if a.text==[115,116,114,117,99,116]then iZ b a.m
 else if a.text==[117,110,105,111,110]then dP b a.m
 else if a.text==[112,114,111,103,114,97,109]then hC b a.m
 else fj 3 a.m
def fN(a:ByteArray):PM ao:=au (next a) (dT a)
def Ar{b:ByteArray}(c:(a.text==[99,111,110,115,116])=true):dT b a=iv b a.m:=by unfold dT;simp only[c,if_true]
def As{b:ByteArray}(c:(a.text==[99,111,110,115,116])=false)(d:(a.text==[116,121,112,101,100,101,102])=true):dT b a=iC b a.m:=by unfold dT;simp only[c,d,Ye,if_false,if_true]
def Au{b:ByteArray}(c:(a.text==[99,111,110,115,116])=false)(d:(a.text==[116,121,112,101,100,101,102])=false)(e:(a.text==[101,110,117,109])=true):dT b a=gm b a.m:=by unfold dT;simp only[c,d,e,Ye,if_false,if_true]
def Av{b:ByteArray}(c:(a.text==[99,111,110,115,116])=false)(d:(a.text==[116,121,112,101,100,101,102])=false)(e:(a.text==[101,110,117,109])=false)(f:(a.text==[115,116,114,117,99,116])=true):dT b a=iZ b a.m:=by unfold dT;simp only[c,d,e,f,Ye,if_false,if_true]
def Aw{b:ByteArray}(c:(a.text==[99,111,110,115,116])=false)(d:(a.text==[116,121,112,101,100,101,102])=false)(e:(a.text==[101,110,117,109])=false)(f:(a.text==[115,116,114,117,99,116])=false)(g:(a.text==[117,110,105,111,110])=true):dT b a=dP b a.m:=by unfold dT;simp only[c,d,e,f,g,Ye,if_false,if_true]
def Ax{b:ByteArray}(c:(a.text==[99,111,110,115,116])=false)(d:(a.text==[116,121,112,101,100,101,102])=false)(e:(a.text==[101,110,117,109])=false)(f:(a.text==[115,116,114,117,99,116])=false)(g:(a.text==[117,110,105,111,110])=false)(h:(a.text==[112,114,111,103,114,97,109])=true):dT b a=hC b a.m:=by unfold dT;simp only[c,d,e,f,g,h,Ye,if_false,if_true]
def Hn{h:ByteArray}(b:(a.text==[99,111,110,115,116])=false)(c:(a.text==[116,121,112,101,100,101,102])=false)(d:(a.text==[101,110,117,109])=false)(e:(a.text==[115,116,114,117,99,116])=false)(f:(a.text==[117,110,105,111,110])=false)(g:(a.text==[112,114,111,103,114,97,109])=false):dT h a=fj 3 a.m:=by unfold dT;simp only[b,c,d,e,f,g,Ye,if_false]
def ue(k:List Nat)(d:Ad)(l:ByteArray)(i:World)(j:Except Mar.M (ao×St))(g:Ending)(h:World):Prop:=
 ai k i h/\((∃b e c f,j=.ok (b,e)/\g=.returned (.iface (cD b) (.pointer (some ⟨c,0,none⟩)))/\Rd d l e h/\dw f c b/\bm d.X f h)\/(∃a,j=.error a/\fe i a.no a.m g h))
def nJ{M':List Nat}{m:ByteArray}{w1:World}{f:Mar.M}{c:Nat}
  (e:ai k i h) (g:ai M' i w1) (l:j=.error f) (a:w1.heap.size<=c) (b:h.heap[c]? = some (.cells #[.int .i64 f.no,.int .i64 f.m] 179)) :
  ue k d m i j (.panicked [{ v:=.iface 143 (.pointer (some ⟨c,0,none⟩)),recovered:=false }]) h:=⟨e,Ya ⟨f,l,c,Yz g.F a,rfl,b⟩⟩
def qG{f:ByteArray}{c:Nat}{a:List (Nat×Obj)}
  (p:ai k i h) (q:j=.ok (b,e)) (m:cD b=l) (g:Rd d f e h) (n:dw a c b) (o:bm d.X a h):ue k d f i j (.returned (.iface l (.pointer (some ⟨c,0,none⟩)))) h:=
 ⟨p,Y8 ⟨b,e,c,a,q,by rw[m],g,n,o⟩⟩
def Hi{A:ByteArray}(B:Rd d A g i) :
  Calls prog 73 #[.pointer (some ⟨d.R,0,none⟩)] i (ue [d.R,d.S,d.N,d.P] d A i (fN A g)):=by
 obtain⟨G,H,I,J,K,L⟩:=B.r;have E:=Z (pY B);go_in;go_wp2_with fail;refine E.b.mono ?_;rintro s D ⟨C,⟨a,e,z,rfl,F⟩|⟨t,z,c,m,rfl,o⟩⟩;rotate_left
 .exact aq (nJ (C.l (by simp)) (ah [] _) (bj z) m o)
 have j:=Z ((C.d (.cells #[.int .i64 a.f,.string ⟨a.text.toArray⟩,.int .i64 a.n,.int .i64 a.m] 154)).l (M':=[d.R,d.S,d.N,d.P]) (by simp));have l:=Z z;have u:=Z (F.t ((Below.refl _ _).alloc (Y4 _) (.cells #[.int .i64 a.f,.string ⟨a.text.toArray⟩,.int .i64 a.n,.int .i64 a.m] 154)));dsimp only[cq];go_wp2_with (first
  |(go_at_call 70;refine(gL _ _ _).mono ?_;rintro s h ⟨rfl,rfl⟩)
  |(go_at_call 119;refine(GC _ u.b).mono ?_;rintro s x ⟨k,⟨b,y,v,w,f,rfl,r,p,q⟩|⟨t,f,c,m,rfl,o⟩⟩)
  |(go_at_call 120;refine(Rw _ u.b).mono ?_;rintro s x ⟨k,⟨b,y,v,w,f,rfl,r,p,q⟩|⟨t,f,c,m,rfl,o⟩⟩)
  |(go_at_call 121;refine(HB _ u.b).mono ?_;rintro s x ⟨k,⟨b,y,v,w,f,rfl,r,p,q⟩|⟨t,f,c,m,rfl,o⟩⟩)
  |(go_at_call 122;refine(Qq _ u.b).mono ?_;rintro s x ⟨k,⟨b,y,v,w,f,rfl,r,p,q⟩|⟨t,f,c,m,rfl,o⟩⟩)
  |(go_at_call 123;refine(RD _ u.b).mono ?_;rintro s x ⟨k,⟨b,y,v,w,f,rfl,r,p,q⟩|⟨t,f,c,m,rfl,o⟩⟩)
  |(go_at_call 124;refine(MQ _ u.b).mono ?_;rintro s x ⟨k,⟨b,y,v,w,f,rfl,r,p,q⟩|⟨t,f,c,m,rfl,o⟩⟩))
 .go_ret;exact qG (j.b.a (k.l (by simp))) ((as l.b).trans (by rw[Ar ‹_›];exact f)) (Jl f) r p q
 .exact aq (nJ (j.b.a (k.l (by simp))) j.b ((as l.b).trans (by rw[Ar ‹_›];exact f)) m o)
 .go_ret;exact qG (j.b.a (k.l (by simp))) ((as l.b).trans (by rw[As ‹_› ‹_›];exact f)) (Jr f) r p q
 .exact aq (nJ (j.b.a (k.l (by simp))) j.b ((as l.b).trans (by rw[As ‹_› ‹_›];exact f)) m o)
 .go_ret;exact qG (j.b.a (k.l (by simp))) ((as l.b).trans (by rw[Au ‹_› ‹_› ‹_›];exact f)) (Jm f) r p q
 .exact aq (nJ (j.b.a (k.l (by simp))) j.b ((as l.b).trans (by rw[Au ‹_› ‹_› ‹_›];exact f)) m o)
 .go_ret;exact qG (j.b.a (k.l (by simp))) ((as l.b).trans (by rw[Av ‹_› ‹_› ‹_› ‹_›];exact f)) (Jq f) r p q
 .exact aq (nJ (j.b.a (k.l (by simp))) j.b ((as l.b).trans (by rw[Av ‹_› ‹_› ‹_› ‹_›];exact f)) m o)
 .go_ret;exact qG (j.b.a (k.l (by simp))) ((as l.b).trans (by rw[Aw ‹_› ‹_› ‹_› ‹_› ‹_›];exact f)) (Js f) r p q
 .exact aq (nJ (j.b.a (k.l (by simp))) j.b ((as l.b).trans (by rw[Aw ‹_› ‹_› ‹_› ‹_› ‹_›];exact f)) m o)
 .go_ret;exact qG (j.b.a k) ((as l.b).trans (by rw[Ax ‹_› ‹_› ‹_› ‹_› ‹_› ‹_›];exact f)) (Jp f) r p q
 .exact aq (nJ (j.b.a k) j.b ((as l.b).trans (by rw[Ax ‹_› ‹_› ‹_› ‹_› ‹_› ‹_›];exact f)) m o)
 .exact aq (nJ (M':=[d.R,d.S,d.N,d.P]) (w1:=D.alloc (.cells #[.int .i64 a.f,.string ⟨a.text.toArray⟩,.int .i64 a.n,.int .i64 a.m] 154)) (f:=⟨3,a.m⟩) (j.b.d _) j.b ((as l.b).trans (by rw[Hn ‹_› ‹_› ‹_› ‹_› ‹_› ‹_›];rfl)) (by simp) (aJ (by simp)))
end
section
variable {b:Program}{g f j h i t e:Nat}{c:TypeInfo}{a:Method}{d:World}
def Km{name:String}(q:b.info? t=some c)(s:c.methods.find? (λa=>a.name==name)=some a)(v:a.path=#[⟨i,h,true⟩])(o:a.func=some (f,false))
  {l:Array Field} (y:b.underlying i=some (.struct l)) {k:Field} (p:l[h]? = some k) (x:k.type=e) (u:k.offset=0) {n:Array Field} (z:b.underlying e=some (.struct n)) {m:TypeInfo} (r:b.info? e=some m) (w:m.size≠0) :
  (method (j+1) t (.pointer (some ⟨g,0,none⟩)) name).run b d=((loadVar e ⟨g,0,none⟩).run b d).andThen (λB A=>.ok (f,B) A):=by
 unfold method;simp only[Sem.run_bind,run_typeInfo _ q,Result.andThen_ok,s,v,o,follow,run_underlying y,p,Place.get,asAddr,fieldPlace,sizeOf,x,run_typeInfo _ r,Sem.run_pure,if_true,w,if_false,u,receiverAt,run_underlying z,Addr.add]
def Ko{r o s:Nat}{name:String}(y:b.info? t=some c)(C:c.methods.find? (λa=>a.name==name)=some a)(F:a.path=#[⟨i,h,true⟩,⟨r,o,false⟩])(v:a.func=some (f,false))
  {m:Array Field} (J:b.underlying i=some (.struct m)) {k:Field} (w:m[h]? = some k) (H:k.type=s) (D:k.offset=0) {q:TypeInfo} (A:b.info? s=some q) (B:q.size≠0)
  {n:Array Field} (K:b.underlying r=some (.struct n)) {l:Field} (x:n[o]? = some l) (I:l.type=e) (E:l.offset=0) {u:Array Field} (L:b.underlying e=some (.struct u)) {p:TypeInfo} (z:b.info? e=some p) (G:p.size≠0) :
  (method (j+1) t (.pointer (some ⟨g,0,none⟩)) name).run b d=((loadVar e ⟨g,0,none⟩).run b d).andThen (λN M=>.ok (f,N) M):=by
 unfold method;simp only[Sem.run_bind,run_typeInfo _ y,Result.andThen_ok,C,F,v,follow,run_underlying J,w,Place.get,asAddr,fieldPlace,sizeOf,H,run_typeInfo _ A,B,Sem.run_pure,if_true,if_false,D,run_underlying K,x,I,E,run_typeInfo _ z,G,receiverAt,run_underlying L,Addr.add,Ye]
def rK{t:TypeId}{name:String}{p:Array FieldStep}{f:Option (FuncId×Bool)}(d:((b.info? t).bind λc=>c.methods.find? (λa=>a.name==name)).map (λa=>(a.path,a.func))=some (p,f)) :
  ∃c a,b.info? t=some c/\c.methods.find? (λa=>a.name==name)=some a/\a.path=p/\a.func=f:=by
 cases g:b.info? t with
 |none=>rw[g]at d;cases d
 |some c=>
  rw[g]at d;simp only[Option.bind_some]at d;cases e:c.methods.find? (λa=>a.name==name)with
  |none=>rw[e]at d;cases d
  |some a=>
   rw[e]at d;simp only[Option.map_some,Yu,Prod.mk.injEq]at d;exact⟨c,a,rfl,e,d.1,d.2⟩
def sS{o:Nat}(a:((b.underlying i).bind λe=>match e with|.struct c=>c[h]?|_=>none).map (λf=>(f.type,f.offset))=some (t,o)) :
  ∃c d,b.underlying i=some (.struct c)/\c[h]? = some d/\d.type=t/\d.offset=o:=by
 cases j:b.underlying i with
 |none=>rw[j]at a;cases a
 |some e=>
  rw[j]at a;simp only[Option.bind_some]at a;cases e with
  |struct c=>
   simp only at a;cases g:c[h]? with
   |none=>rw[g]at a;cases a
   |some d=>
    rw[g]at a;simp only[Option.map_some,Yu,Prod.mk.injEq]at a;exact⟨c,d,rfl,g,a.1,a.2⟩
  |_=>cases a
def qk{n:Nat}(a:(b.info? t).map (·.size)=some n):∃c,b.info? t=some c/\c.size=n:=by
 cases d:b.info? t with
 |none=>rw[d]at a;cases a
 |some c=>rw[d]at a;exact⟨c,rfl,by simpa using a⟩
def bA:ao->List UInt8×Nat
 |.const t a _=>(t,a)
 |.typedef b=>(b.t,b.m)
 |.enum t a _=>(t,a)
 |.struct t a _=>(t,a)
 |.union t a _ _=>(t,a)
 |.prog t a _ _=>(t,a)
def nS(args:Array Value)(a:World):(callFunc 327 args).run prog a=.ok (.enter 327 args) a:=by kernel_rfl
def GZ{k:List Nat}{i:List (Nat×Obj)}{e:ao}(b:dw i g e)(c:bm k i d):d.cell? ⟨g,0,none⟩=some (.string ⟨(bA e).1.toArray⟩)/\d.cell? ⟨g,1,none⟩=some (.int .i64 (bA e).2):=by
 cases e with
 |const t f v=>have:=(c _ b).1;exact⟨by simp[World.cell?,this,bA],by simp[World.cell?,this,bA]⟩
 |typedef e=>have:=(c _ b).1;exact⟨by simp[World.cell?,this,bA],by simp[World.cell?,this,bA]⟩
 |enum t f l=>obtain⟨h,j,a,_⟩:=b;have:=(c _ a).1;exact⟨by simp[World.cell?,this,bA],by simp[World.cell?,this,bA]⟩
 |struct t f l=>obtain⟨h,a,_⟩:=b;have:=(c _ a).1;exact⟨by simp[World.cell?,this,bA],by simp[World.cell?,this,bA]⟩
 |union t f o m=>obtain⟨h,j,a,_⟩:=b;have:=(c _ a).1;exact⟨by simp[World.cell?,this,bA],by simp[World.cell?,this,bA]⟩
 |prog t f p n=>obtain⟨h,j,a,_⟩:=b;have:=(c _ a).1;exact⟨by simp[World.cell?,this,bA],by simp[World.cell?,this,bA]⟩
def nR(b:ByteArray)(a:Int)(d:World) :
  Calls prog 327 #[.agg #[.string b,.int .i64 a]] d λc e=>c=.returned (.agg #[.string b,.int .i64 a])/\Below d.heap.size d e:=by
 go_in;go_wp2;exact bodyPost_ret (v:=.agg #[.string b,.int .i64 a]) (by simp[results,results327,go_sem]) rfl ⟨rfl,((Below.refl _ _).alloc (Y4 _) _).alloc (by simp) _⟩
end
section
variable {c d g a b:St}{f:ao}{e:Int}{i:Unit}{α h ρ τ:Type}
def Kn(b d:List (List UInt8×Option ao)):Prop:=(∀a,(ay b a).isSome->(ay d a).isSome)/\∀a f,ay d a=some (some f)->ay b a=some (some f)\/∃e c v,f=.const e c v
def pc(b:List (List UInt8×Option ao)):Kn b b:=⟨λ_ a=>a,λ_ _ a=>Y8 a⟩
def Kn.a{c d g:List (List UInt8×Option ao)}(h:Kn c d)(i:Kn d g):Kn c g:=⟨λa e=>i.1 a (h.1 a e),λa f e=>by
 rcases i.2 a f e with b|b
 .exact h.2 a f b
 .exact Ya b⟩
def xJ{c:List (List UInt8×Option ao)}{a:List UInt8×Option ao}(b:List UInt8):ay (c++[a]) b=match ay c b with|some o=>some o|none=>if a.1==b then some a.2 else none:=by
 unfold ay;rw[List.find?_append];cases d:c.find? (λa=>a.1==b)with
 |some e=>rfl
 |none=>
  simp only[Option.none_or,List.find?_cons,List.find?_nil];cases a.1==b<;>rfl
def xK{c:List UInt8}(b:List UInt8):∀(d:List (List UInt8×Option ao)),ay (cL d c f) b=(ay d b).map (λj=>if b==c then some f else j):=by
 intro d;unfold ay cL;induction d with
 |nil=>rfl
 |cons a d i=>
  rw[List.map_cons,List.find?_cons,List.find?_cons];have g:(if a.1==c then (a.1,some f)else a).1=a.1:=by cases a.1==c<;>rfl
  rw[g];by_cases e:a.1=b
  .subst e;simp;by_cases h:a.1=c<;>simp[h]
  .have:(a.1==b)=false:=by simpa using e
   rw[this];exact i
def Le(a b:St):Prop:=a.j<=b.j/\a.D<=b.D/\b.o=a.o/\(a.j<=24->b.j<=24)/\(a.D<=40->b.D<=40)/\Kn a.g b.g
def qK(a:St):Le a a:=⟨Y4 _,Y4 _,rfl,id,id,pc _⟩
def Le.a(a:Le c d)(b:Le d g):Le c g:=⟨Yz a.1 b.1,Yz a.2.1 b.2.1,b.2.2.1.trans a.2.2.1,λe=>b.2.2.2.1 (a.2.2.2.1 e),λe=>b.2.2.2.2.1 (a.2.2.2.2.1 e),a.2.2.2.2.2.a b.2.2.2.2.2⟩
def dd(d:PM α):Prop:=∀a c b,d a=.ok (c,b)->Le a b
def bK(d:PX τ α):Prop:=∀e a c f b,d e a=.ok (c,f,b)->Le a b
def gF{g:PM α}{i:α->PM h}(k:dd g)(j:∀c,dd (i c)):dd (au g i):=by
 intro a d b e;cases f:g a with
 |error m=>rw[bj f]at e;cases e
 |ok l=>obtain⟨c,n⟩:=l;rw[as f]at e;exact(k _ _ _ f).a (j c _ _ _ e)
def iT(c:α):dd (bS c):=by intro a d b e;simp only[bS]at e;cases e;exact qK _
def nf(e f:Nat):dd (fj (α:=α) e f):=by intro a d b c;simp only[fj]at c;cases c
def mf{g:Bool}{c d:PM α}(a:dd c)(b:dd d):dd (if g then c else d):=by cases g<;>assumption
def eW{g:PX τ α}{i:α->PX τ h}(k:bK g)(j:∀c,bK (i c)):bK (av g i):=by
 intro m a d o b e;cases f:g m a with
 |error n=>rw[bl f]at e;cases e
 |ok l=>obtain⟨c,p,q⟩:=l;rw[aE f]at e;exact(k _ _ _ _ _ f).a (j c _ _ _ _ _ e)
def ey{g:PM α}(h:dd g):bK (lift (τ:=τ) g):=by
 intro k a d l b e;cases f:g a with
 |error j=>rw[ci f]at e;cases e
 |ok i=>obtain⟨c,m⟩:=i;rw[aW f]at e;cases e;exact h _ _ _ f
def hy(c:α):bK (cG (τ:=τ) c):=by intro f a d g b e;simp only[cG]at e;cases e;exact qK _
def Ld(e f:Nat):bK (wi (τ:=τ) (α:=α) e f):=by intro g a d h b c;simp only[wi]at c;cases c
def lk{g:Bool}{c d:PX τ α}(a:bK c)(b:bK d):bK (if g then c else d):=by cases g<;>assumption
def BM(g:τ->Except Mar.M τ):bK (lC g):=by
 intro f a d j b c;cases e:g f with
 |error h=>rw[rM e]at c;cases c
 |ok i=>rw[rN e]at c;cases c;exact qK _
def va{g:PX τ α}(h:bK g):bK (hn (ρ:=ρ) g):=by
 rintro⟨j,l⟩ a d m b e;cases f:g j a with
 |error k=>rw[rF f]at e;cases e
 |ok i=>obtain⟨c,n,o⟩:=i;rw[rG f]at e;cases e;exact h _ _ _ _ _ f
def xW{g:PX ρ α}(h:bK g):bK (kF (τ:=τ) g):=by
 rintro⟨l,i⟩ a d m b e;cases f:g i a with
 |error k=>rw[vx f]at e;cases e
 |ok j=>obtain⟨c,n,o⟩:=j;rw[vy f]at e;cases e;exact h _ _ _ _ _ f
def tm{g:PX τ Unit}(i:bK g)(h:τ):dd (hZ g h):=by
 intro a d b e;cases f:g h a with
 |error k=>rw[tI f]at e;cases e
 |ok j=>obtain⟨c,l,m⟩:=j;rw[oC f]at e;cases e;exact i _ _ _ _ _ f
def uZ{g:PX τ α}(i:bK g)(h:τ):dd (fE g h):=by
 intro a d b e;cases f:g h a with
 |error k=>rw[nz f]at e;cases e
 |ok j=>obtain⟨c,l,m⟩:=j;rw[qi f]at e;cases e;exact i _ _ _ _ _ f
def BB{g:PX Unit α}(h:bK g):dd (hP g):=by
 intro a d b e;cases f:g () a with
 |error j=>simp only[hP,f]at e;cases e
 |ok i=>obtain⟨c,k,l⟩:=i;simp only[hP,f]at e;cases e;exact h _ _ _ _ _ f
def uY(e:ByteArray):dd (fI e):=by
 intro a d b c;unfold fI at c;split at c<;>cases c;exact⟨Y4 _,Y4 _,rfl,id,id,pc _⟩
def ot(e:ByteArray):dd (next e):=by
 intro a d b c;unfold next at c
 split at c<;>cases c;exact⟨Y4 _,Y4 _,rfl,id,id,pc _⟩
def pP(f:ByteArray)(h:List UInt8):dd (gc f h):=by
 intro a d b c;unfold gc at c;cases e:fI f a with
 |error i=>simp only[e]at c;cases c
 |ok g=>obtain⟨j,k⟩:=g;simp only[e]at c;cases c;exact uY _ _ _ _ e
def uX(e:Nat):dd (iy e):=by
 intro a d b c;unfold iy at c;split at c<;>cases c;exact⟨Nat.le_succ _,Y4 _,rfl,λ_=>by dsimp only;omega,id,pc _⟩
def BH(e:Nat):dd (ix e):=by
 intro a d b c;unfold ix at c;split at c<;>cases c;exact⟨Y4 _,Nat.le_succ _,rfl,id,λ_=>by dsimp only;omega,pc _⟩
def xU(c d g:Nat):dd (ei c d g):=by
 intro a f b e;unfold ei at e;split at e<;>cases e;exact qK _
def KO(k:List UInt8)(i:List UInt8)(c:Nat)(v:Int):dd (xP k (.const i c v)):=by
 intro a m b e;simp only[xP]at e;cases e
 refine⟨Y4 _,Y4 _,rfl,id,id,?_,?_⟩
 .intro h j;dsimp only;rw[xK];simpa using j
 .intro h f d;dsimp only at d;rw[xK]at d;cases g:ay a.g h with
  |none=>rw[g]at d;cases d
  |some l=>
   rw[g]at d;simp only[Option.map_some,Yu]at d;split at d
   .cases d;exact Ya ⟨i,c,v,rfl⟩
   .subst d;exact Y8 rfl
def KB(e:Mar.am):dd (hv e):=by
 intro a c b d;unfold hv at d;split at d<;>cases d;exact qK _
def KM(e:Mar.am):dd (iw e):=by
 intro a c b d;unfold iw at d;split at d<;>cases d;exact qK _
def KK(k:Mar.am):dd (fZ k):=by
 intro a c b g;unfold fZ at g;split at g<;>cases g;refine⟨Y4 _,Y4 _,rfl,id,id,?_,?_⟩
 .intro h i;dsimp only;rw[xJ];cases e:ay a.g h with
  |none=>rw[e]at i;cases i
  |some j=>rfl
 .intro h f d;dsimp only at d;rw[xJ]at d;cases e:ay a.g h with
  |none=>
   rw[e]at d;simp only at d;split at d<;>cases d
  |some j=>rw[e]at d;exact Y8 d
def jW(b:ByteArray)(a:List UInt8):dd (cZ b a):=by
 unfold cZ;repeat' (first|assumption|exact iT _|exact ot _|exact pP _ _|refine gF ?_ ?_|refine mf ?_ ?_|(intro _))
def dN(b:ByteArray)(a:List UInt8):dd (bU b a):=by
 unfold bU;repeat' (first|assumption|exact iT _|exact nf _ _|exact ot _|refine gF ?_ ?_|refine mf ?_ ?_|(intro _))
def KU(a:ByteArray)(b:Mar.am):dd (hE a b):=by
 unfold hE;repeat' (first|assumption|exact iT _|exact nf _ _|exact jW _ _|refine gF ?_ ?_|refine mf ?_ ?_|(intro _))
def BK(a:ByteArray):dd (kf a):=by
 unfold kf;repeat' (first|assumption|exact ot _|exact KU _ _|refine gF ?_ ?_|(intro _))
def KN(a:Mar.am):dd (hW a):=by
 unfold hW;repeat' (first|assumption|exact iT _|exact nf _ _|exact KB _|refine mf ?_ ?_|(intro _))
def tn(b:ByteArray)(a:Int->Bool):dd (hG b a):=by
 unfold hG;repeat' (first|assumption|exact iT _|exact nf _ _|exact ot _|exact KN _|refine gF ?_ ?_|refine mf ?_ ?_|(intro _))
def xT(a:ByteArray):dd (nh a):=by
 unfold nh;repeat' (first|assumption|exact iT _|exact jW _ _|exact dN _ _|exact tn _ _|refine gF ?_ ?_|refine mf ?_ ?_|(intro _))
def uV(a:ByteArray):dd (jM a):=by
 unfold jM;repeat' (first|assumption|exact iT _|exact jW _ _|exact dN _ _|exact tn _ _|exact xT _|refine gF ?_ ?_|refine mf ?_ ?_|(intro _))
def KT(a:ByteArray):dd (lB a):=by
 unfold lB;repeat' (first|assumption|exact iT _|exact jW _ _|exact BK _|refine gF ?_ ?_|refine mf ?_ ?_|(intro _))
def tl(b:ByteArray)(a:Int->Bool):bK (fR b a):=by
 unfold fR;repeat' (first|assumption|exact hy _|exact BM _|exact tn _ _|refine eW ?_ ?_|refine ey ?_|(intro _))
def BF(a:ByteArray):bK (lZ a):=by
 unfold lZ;repeat' (first|assumption|exact hy _|exact dN _ _|exact tl _ _|refine eW ?_ ?_|refine ey ?_|(intro _))
def tj(c:ByteArray)(a:cM τ)(b:∀d,bK (a.af d)):bK (name c a):=by
 unfold name;repeat' (first|exact b _|assumption|exact hy _|exact Ld _ _|exact ot _|refine eW ?_ ?_|refine ey ?_|refine lk ?_ ?_|(intro _))
def xR(a:Mar.am)(c d:Nat):bK ((aS c d).af a):=BM _
def BE(b:Ad)(a:Mar.am):bK ((fM b).af a):=ey (KK a)
def BC(a:ByteArray)(e:List UInt8×Nat)(b:Ty):bK (og (τ:=τ) a e b):=by
 unfold og;repeat' (first|assumption|exact hy _|exact uV _|refine eW ?_ ?_|refine ey ?_|(intro _))
def KJ(a:ByteArray)(e:List UInt8×Nat)(b:Ty)(c:Bool):bK (pA (τ:=τ) a e b c):=by
 unfold pA;repeat' (first|assumption|exact hy _|exact BC _ _ _|refine lk ?_ ?_|(intro _))
def KI(a:ByteArray)(e:List UInt8×Nat)(b:Ty)(c:Bool):bK (pz (τ:=τ) a e b c):=by
 unfold pz;repeat' (first|assumption|exact pP _ _|exact BC _ _ _|exact KJ _ _ _ _|refine eW ?_ ?_|refine ey ?_|refine lk ?_ ?_|(intro _))
def KH(a:ByteArray)(b:Ty)(e:List UInt8×Nat):bK (oe (τ:=τ) a b e):=by
 unfold oe;repeat' (first|assumption|exact pP _ _|exact KI _ _ _ _|refine eW ?_ ?_|refine ey ?_|(intro _))
def KG(c:ByteArray)(a:cM τ)(b:∀e,bK (a.af e))(d:Ty)(f:Bool):bK (rc c a d f):=by
 unfold rc;repeat' (first|exact tj _ _ b|exact b _|assumption|exact hy _|exact KH _ _ _|refine eW ?_ ?_|refine lk ?_ ?_|(intro _))
def KF(c:ByteArray)(a:cM τ)(b:∀e,bK (a.af e))(d:Ty):bK (py c a d):=by
 unfold py;repeat' (first|exact b _|assumption|exact jW _ _|exact KG _ _ b _ _|refine eW ?_ ?_|refine ey ?_|(intro _))
def KE(c:ByteArray)(b:cM τ)(a:∀d,bK (b.af d))(e:Bool):bK (mU c b e):=by
 unfold mU;repeat' (first|exact tj _ _ a|exact a _|assumption|exact hy _|exact BK _|exact xT _|exact KF _ _ a _|refine eW ?_ ?_|refine ey ?_|refine lk ?_ ?_|(intro _))
def KD(c:ByteArray)(b:cM τ)(a:∀d,bK (b.af d))(e:Bool):bK (od c b e):=by
 unfold od;repeat' (first|exact tj _ _ a|exact a _|assumption|exact hy _|exact jW _ _|exact uV _|exact KE _ _ a _|refine eW ?_ ?_|refine ey ?_|refine lk ?_ ?_|(intro _))
def xS(c:ByteArray)(a:cM τ)(b:∀d,bK (a.af d)) :bK (dY c a ):=by
 unfold dY;repeat' (first|exact b _|assumption|exact jW _ _|exact KD _ _ b _|refine eW ?_ ?_|refine ey ?_|(intro _))
def Kv(c:ByteArray)(a:cM τ)(b:∀d,bK (a.af d))(e:Bool):bK (mO c a e):=by
 unfold mO;repeat' (first|assumption|exact hy _|exact xS _ _ b|refine lk ?_ ?_|(intro _))
def Ku(c:ByteArray)(a:cM τ)(b:∀d,bK (a.af d)):bK (iu c a):=by
 unfold iu;repeat' (first|assumption|exact hy _|exact jW _ _|exact dN _ _|exact Kv _ _ b _|refine eW ?_ ?_|refine ey ?_|(intro _))
def pO(a:ByteArray):dd (gp a):=BB (tj _ _ (BE _))
def BD(a:ByteArray):dd (lX a):=BB (xS _ _ (BE _))
def uW(a:ByteArray)(c d:Nat):bK (name a (aS c d)):=tj _ _ (λb=>xR b c d)
def KC(a:ByteArray)(c d:Nat):bK (dY a (aS c d)):=xS _ _ (λb=>xR b c d)
def Bz(a:ByteArray)(c d:Nat):bK (iu a (aS c d)):=Ku _ _ (λb=>xR b c d)
def BG(a:ByteArray)(e:Nat):bK (hX a e):=by
 unfold hX;repeat' (first|assumption|exact hy _|exact uY _|exact BH _|exact xU _ _ _|exact KO _ _ _ _|exact dN _ _|exact tl _ _|exact pO _|refine eW ?_ ?_|refine ey ?_|(intro _))
def KL(b:ByteArray)(e:List UInt8×Nat)(a:List (List UInt8×Nat×Int)):dd (mX b e a):=by
 unfold mX;repeat' (first|assumption|exact iT _|exact dN _ _|refine gF ?_ ?_|(intro _))
def KP(j:ByteArray)(e:List UInt8×Nat):∀(d:Nat) (h:List (List UInt8×Nat×Int)) (g:List (Int×Int)),dd (go j e d h g):=by
 intro d;induction d with
 |zero=>intro h g;exact nf _ _
 |succ d k=>
  intro h g a f b c;cases i:hX j h.length g a with
  |error m=>rw[th i]at c;cases c
  |ok l=>
   obtain⟨o,n,q⟩:=l;rw[rC i]at c;refine(BG _ _ _ _ _ _ _ i).a (gF (jW _ _) (λp=>?_) _ _ _ c);exact mf (k _ _) (KL _ _ _)
def xV(h:ByteArray)(c:dE):bK (iY h c):=by
 rintro⟨k,j⟩ a d m b e;cases g:dY h (aS c.q c.bx) j a with
 |error l=>rw[yK g]at e;cases e
 |ok i=>
  obtain⟨f,n,o⟩:=i;rw[vY g]at e;exact(KC _ _ _ _ _ _ _ _ g).a (eW (ey (dN _ _)) (λ_=>hy _) _ _ _ _ _ e)
def BL{h:PX τ α}{k:PX (List α×τ) Unit}(o:bK h)(n:∀{g c l a b f},h c a=.ok (f,l,b)->k (g,c) a=.ok ((),(g++[f],l),b))(m:∀{g c a i},h c a=.error i->k (g,c) a=.error i):bK k:=by
 rintro⟨r,q⟩ a d s b e;cases j:h q a with
 |error i=>rw[m j]at e;cases e
 |ok p=>
  obtain⟨f,t,u⟩:=p;rw[n j]at e;cases e
  exact o _ _ _ _ _ j
def Ky(g:ByteArray)(nh:Nat)(c:PX τ Unit)(d:bK c):∀a e,bK (hh g nh c a e):=by
 intro a;induction a with
 |zero=>intro e;exact ey (nf _ _)
 |succ a f=>
  intro e;unfold hh;refine eW ?_ λh=>?_
  .by_cases b:e=0
   .rw[Y9 b];exact hy _
   .rw[Y2 b];exact ey (jW _ _)
  .exact lk (hy _) (eW (ey (uY _)) λ_=>eW (ey (xU _ _ _)) λ_=>eW d λ_=>f _)
def uU(c:ByteArray)(nh:Nat)(a:PX τ Unit)(b:bK a):bK (eu c nh a):=eW (ey (dN _ _)) λ_=>Ky _ _ _ b _ _
def KA(i:ByteArray)(m:Int->Bool):∀(f:Nat) (g:List Int),bK (hj i m f g):=by
 intro f;induction f with
 |zero=>intro g;exact ey (nf _ _)
 |succ f k=>
  intro g l a d p b c;cases e:bU i [99,97,115,101] a with
  |error o=>rw[wT e]at c;cases c
  |ok j=>
   obtain⟨j,n⟩:=j;by_cases h:12<=l.length
   .rw[wU e h]at c;cases c
   .rw[wV e h]at c;refine(dN _ _ _ _ _ e).a (?_:Le n b);exact eW (tl _ _) (λ_=>eW (ey (dN _ _)) λ_=>eW (ey (pP _ _)) λ_=>lk (k _) (hy _)) _ _ _ _ _ c
def Kz(b:ByteArray)(a:Int->Bool):bK (cases b a):=KA _ _ _ _
def Kx(b:ByteArray)(a:gu):bK (kX b a):=by
 unfold kX;repeat' (first|assumption|exact hy _|exact jW _ _|exact dN _ _|exact Bz _ _ _|refine eW ?_ ?_|refine ey ?_|refine lk ?_ ?_|refine va ?_|(intro _))
def BA(e:ByteArray)(d:Int->Bool):∀(a:Nat) (b:gu),bK (ht e d a b):=by
 intro a;induction a with
 |zero=>intro b;exact ey (nf _ _)
 |succ a c=>
  intro b;unfold ht;exact eW (xW (Kz _ _)) λ_=>eW (va (Bz _ _ _)) λ_=>eW (ey (pP _ _)) λ_=>lk (c _) (Kx _ _)
def KS(a:ByteArray)(b:Mar.am):dd (iW a b):=by
 unfold iW;repeat' (first|assumption|exact iT _|exact nf _ _|exact KM _|exact jW _ _|refine gF ?_ ?_|refine mf ?_ ?_|(intro _))
def BJ(a:ByteArray):dd (nA a):=by
 unfold nA;repeat' (first|assumption|exact ot _|exact KS _ _|refine gF ?_ ?_|(intro _))
def KV(c:ByteArray)(e:List UInt8×Nat)(b:aF)(a:gu):dd (oJ c e b a):=by
 unfold oJ;repeat' (first|assumption|exact iT _|exact dN _ _|refine gF ?_ ?_|(intro _))
def KY(c:ByteArray)(e:List UInt8×Nat)(b:Ty×(Int->Bool))(a:(List UInt8×Nat)×List (List UInt8)):dd (rY c e b a):=by
 unfold rY;repeat' (first|assumption|exact dN _ _|exact BA _ _ _ _|exact KV _ _ _ _|refine gF ?_ ?_|refine uZ ?_ _|(intro _))
def KX(b:ByteArray)(e:List UInt8×Nat)(a:Ty×(Int->Bool)):dd (qq b e a):=by
 unfold qq;repeat' (first|assumption|exact uW _ _ _|exact KY _ _ _ _|refine gF ?_ ?_|refine uZ ?_ _|(intro _))
def KW(a:ByteArray)(e:List UInt8×Nat):dd (oL a e):=by
 unfold oL;repeat' (first|assumption|exact dN _ _|exact BJ _|exact KX _ _ _|refine gF ?_ ?_|(intro _))
def KR(a:ByteArray):bK (jw a):=by
 unfold jw;repeat' (first|assumption|exact hy _|exact dN _ _|exact KT _|exact BF _|exact uW _ _ _|refine eW ?_ ?_|refine ey ?_|refine va ?_|refine xW ?_|(intro _))
def Lc(a:ByteArray):bK (jA a):=BL (KR a) Eb Ea
def Lb(a:ByteArray):bK (eu a 8 (jA a)):=uU _ _ _ (Lc _)
def KZ(a:ByteArray)(e:List UInt8×Nat):bK (tU a e):=by
 unfold tU;repeat' (first|assumption|exact hy _|exact BF _|exact Lb _|refine eW ?_ ?_|refine ey ?_|refine xW ?_|refine tm ?_ _|(intro _))
def La(a:ByteArray):bK (jz a):=by
 unfold jz;repeat' (first|assumption|exact dN _ _|exact uW _ _ _|exact KZ _ _|refine eW ?_ ?_|refine ey ?_|refine va ?_|(intro _))
def KQ(a:ByteArray):bK (iU a):=BL (La a) Cx Cw
def BI(a:ByteArray):bK (eu a 4 (iU a)):=uU _ _ _ (KQ _)
structure iK(a b:St):Prop where
 up:a.j+a.D+a.o.length<b.j+b.D+b.o.length
 k:a.j<=24->b.j<=24
 co:a.D<=40->b.D<=40
 pr:a.o.length<=4->b.o.length<=4
def iK.then(b:iK c d)(f:Le d g):iK c g:=by
 obtain⟨j,k,e,h,i,_⟩:=f;exact⟨by rw[e];have:=b.up;omega,λa=>h (b.k a),λa=>i (b.co a),λa=>by rw[e];exact b.pr a⟩
def vZ{d:Nat}(c:iy d a=.ok (i,b)):iK a b:=by
 unfold iy at c;split at c<;>cases c;exact⟨by dsimp only;omega,λ_=>by dsimp only;omega,id,id⟩
def PF{d:Nat}(c:ix d a=.ok (i,b)):iK a b:=by
 unfold ix at c;split at c<;>cases c;exact⟨by dsimp only;omega,id,λ_=>by dsimp only;omega,id⟩
def tN{g:PM α}{j:α->PM h}{d:h}(l:∀{c i},g a=.ok (c,i)->iK a i)(k:∀c,dd (j c))(e:au g j a=.ok (d,b)):iK a b:=by
 cases f:g a with
 |error n=>rw[bj f]at e;cases e
 |ok m=>obtain⟨c,i⟩:=m;rw[as f]at e;exact(l f).then (k c _ _ _ e)
def PB{e:ByteArray}{d:Nat}(c:iv e d a=.ok (f,b)):iK a b:=by
 refine tN PF (λ_=>?_) c;repeat' (first|assumption|exact iT _|exact dN _ _|exact tn _ _|exact pO _|refine gF ?_ ?_|(intro _))
def PP{e:ByteArray}{d:Nat}(c:iC e d a=.ok (f,b)):iK a b:=by
 refine tN vZ (λ_=>?_) c;repeat' (first|assumption|exact iT _|exact dN _ _|exact BD _|refine gF ?_ ?_|(intro _))
def PE{e:ByteArray}{d:Nat}(c:gm e d a=.ok (f,b)):iK a b:=by
 refine tN vZ (λ_=>?_) c;repeat' (first|assumption|exact dN _ _|exact pO _|exact KP _ _ _ _ _|refine gF ?_ ?_|(intro _))
def PO{e:ByteArray}{d:Nat}(c:iZ e d a=.ok (f,b)):iK a b:=by
 refine tN vZ (λ_=>?_) c;repeat' (first|assumption|exact iT _|exact dN _ _|exact pO _|exact xV _ _|exact uU _ _ _ (xV _ _)|refine gF ?_ ?_|refine tm ?_ _|(intro _))
def PQ{e:ByteArray}{d:Nat}(c:dP e d a=.ok (f,b)):iK a b:=by
 refine tN vZ (λ_=>?_) c;repeat' (first|assumption|exact pO _|exact KW _ _|refine gF ?_ ?_|(intro _))
def PI{g:ByteArray}{f:Int->Bool}(c:mj g f a=.ok (e,b)):a.j<=b.j/\a.D<=b.D/\b.o.length=a.o.length+1/\(a.j<=24->b.j<=24)/\(a.D<=40->b.D<=40):=by
 cases d:fR g f a.o a with
 |error m=>rw[vu d]at c;cases c
 |ok l=>
  obtain⟨p,o,q⟩:=l;rw[yi d]at c;cases c
  obtain⟨h,i,n,j,k,_⟩:=tl _ _ _ _ _ _ _ d;exact⟨h,i,yj d,j,k⟩
def PD{f:ByteArray}(c:mW f a=.ok (e,b)):a.j<=b.j/\a.D<=b.D/\b.o.length=a.o.length+1/\(a.j<=24->b.j<=24)/\(a.D<=40->b.D<=40):=by
 unfold mW at c;cases h:bU f [61] a with
 |error k=>rw[bj h]at c;cases c
 |ok d=>
  obtain⟨g,u⟩:=d;rw[as h]at c;obtain⟨w,x,l,m,n,_⟩:=dN _ _ _ _ _ h;cases i:mj f (di 0 4294967295) u with
  |error k=>rw[bj i]at c;cases c
  |ok d=>
   obtain⟨C,v⟩:=d;rw[as i]at c;obtain⟨y,z,o,p,q⟩:=PI i;cases j:bU f [59] v with
   |error k=>rw[bj j]at c;cases c
   |ok d=>
    obtain⟨D,E⟩:=d;rw[as j]at c;simp only[bS]at c;cases c
    obtain⟨A,B,r,s,t,_⟩:=dN _ _ _ _ _ j;exact⟨by omega,by omega,by rw[r,o,l],λg=>s (p (m g)),λg=>t (q (n g))⟩
def PK{g:ByteArray}{d:Nat}(c:hC g d a=.ok (f,b)):iK a b:=by
 unfold hC at c;by_cases n:4<=a.o.length
 .rw[bj (m:=λa:St=>ei a.o.length 4 d a) (show ei a.o.length 4 d a=.error ⟨5,d⟩from Y9 n)]at c;cases c
 rw[as (m:=λa:St=>ei a.o.length 4 d a) (show ei a.o.length 4 d a=.ok ((),a)from Y2 n)]at c;cases i:gp g a with
 |error m=>rw[bj i]at c;cases c
 |ok h=>
  obtain⟨e,y⟩:=h;rw[as i]at c;unfold oy at c;obtain⟨A,B,p,q,r,_⟩:=pO _ _ _ _ i;cases j:hZ (eu g 4 (iU g)) ([],([],[])) y with
  |error m=>rw[bj j]at c;cases c
  |ok h=>
   obtain⟨o,z⟩:=h;rw[as j]at c;obtain⟨C,D,s,t,u,_⟩:=tm (BI g) _ _ _ _ j;cases k:mW g z with
   |error m=>rw[bj k]at c;cases c
   |ok h=>
    obtain⟨H,I⟩:=h;rw[as k]at c;simp only[bS]at c;cases c
    obtain⟨E,F,v,w,x⟩:=PD k;have G:b.o.length=a.o.length+1:=by rw[v,s,p]
    exact⟨by omega,λl=>w (t (q l)),λl=>x (u (r l)),λ_=>by omega⟩
def PC{i:ByteArray}(c:fN i a=.ok (f,b)):iK a b:=by
 unfold fN at c;cases g:next i a with
 |error p=>rw[bj g]at c;cases c
 |ok l=>
  obtain⟨d,m⟩:=l;rw[as g]at c;obtain⟨n,o,h,j,k,_⟩:=ot _ _ _ _ g;have e:iK m b:=by
   unfold dT at c;split at c
   .exact PB c
   split at c
   .exact PP c
   split at c
   .exact PE c
   split at c
   .exact PO c
   split at c
   .exact PQ c
   split at c
   .exact PK c
   .simp only[fj]at c;cases c
  have:=e.up;exact⟨by rw[h]at this;omega,λd=>e.k (j d),λd=>e.co (k d),λd=>e.pr (by rw[h];exact d)⟩
end
section
variable {c:TypeId}{d:Value}{a:World}{b:Type}
structure eT(b:Type) where
 f:Nat
 d4:Array Value
 d3:Array Value
 af:List UInt8×Nat->b->Except Mar.M b
 J:b->World->Prop
 M:List Nat
 ok:List UInt8×Nat->Prop
def eT.v(a:eT b):Value:=.func (.func a.f) a.d4 a.d3
def fs(d:eT b)(a:World)(g:Except Mar.M b)(f:Ending)(c:World):Prop:=
 (∃h,g=.ok h/\f=.returned (.tuple #[])/\d.J h c/\ai d.M a c)\/(∃e,g=.error e/\ai d.M a c/\fe a e.no e.m f c)
structure hd{b:Type}(T:eT b):Prop where
 e0:∀args W,(callFunc T.f args).run prog W=.ok (.enter T.f args) W
 al:∀{t a},T.J t a->∀m∈T.M,m<a.heap.size
 ca:∀{t a w'},T.J t a->Below a.heap.size a w'->T.J t w'
 call:∀{t W} (n:List UInt8×Nat),T.ok n->T.J t W->Calls prog T.f (T.d4.push (fQ n)++T.d3) W (fs T W (T.af n t))
def aY(c:eT b):List (List UInt8×Nat)->b->Except Mar.M b
 |[],a=>.ok a
 |n::e,a=>match c.af n a with
  |.ok f=>aY c e f
  |.error d=>.error d
def cf:Ty->List (List UInt8×Nat)
 |.named c b=>[(c,b)]
 |.arr a _ _=>cf a
 |.opt a=>cf a
 |_=>[]
def cH:Ty->List (List UInt8×Nat)
 |.named d a=>[(d,a)]
 |.arr c _ b=>if b then cH c else []
 |_=>[]
def rD:Ty->Nat
 |.named ..=>360
 |.arr ..=>370
 |.opt ..=>372
 |_=>332
def td:Ty->Nat
 |.named ..=>359
 |.arr ..=>369
 |.opt ..=>371
 |_=>331
def pU:Ty->Value
 |.named e b=>.agg #[.string ⟨e.toArray⟩,.int .i64 b]
 |.arr a d c=>.agg #[bW a,.int .i64 d,.bool c]
 |.opt a=>.agg #[bW a]
 |_=>.agg #[]
def pV (b : Ty)   (e : bW b = .iface c d) (f : Nat) (a : World) : (method (f + 1) c d "Names").run Tryz.prog a = .ok (rD b, pU b) a := by
 cases b<;>cases e<;>kernel_rfl
def uO (b : Ty)   (e : bW b = .iface c d) (f : Nat) (a : World) : (method (f + 1) c d "Leads").run Tryz.prog a = .ok (td b, pU b) a := by
 cases b<;>cases e<;>kernel_rfl
def pS(b:Ty)(args:Array Value)(a:World):(callFunc (rD b) args).run prog a=.ok (.enter (rD b) args) a:=by cases b<;>kernel_rfl
def uN(b:Ty)(args:Array Value)(a:World):(callFunc (td b) args).run prog a=.ok (.enter (td b) args) a:=by cases b<;>kernel_rfl
def qT{c:eT b}(f:hd c){d:b}(e:c.J d a):Calls prog 332 #[.agg #[],c.v] a (fs c a (.ok d)):=by
 have g:=f.ca e ((Below.refl a.heap.size a).alloc (Y4 _) (.cells #[] 250));go_in;go_wp2;go_end0;exact Y8 ⟨d,rfl,rfl,g,(ah _ a).d _⟩
def qS{c:eT b}(f:hd c){d:b}(e:c.J d a):Calls prog 331 #[.agg #[],c.v] a (fs c a (.ok d)):=by
 have g:=f.ca e ((Below.refl a.heap.size a).alloc (Y4 _) (.cells #[] 250));go_in;go_wp2;go_end0;exact Y8 ⟨d,rfl,rfl,g,(ah _ a).d _⟩
def Mg{e:eT b}(j:hd e){f:b}(g:Ty)(h:e.J f a):Calls prog 371 #[.agg #[bW g],e.v] a (fs e a (.ok f)):=by
 obtain⟨c,d,i⟩:=fk g;rw[i];have k:=j.ca h ((Below.refl a.heap.size a).alloc (Y4 _) (.cells #[.iface c d] 385))
 go_in;go_wp2;go_end0;exact Y8 ⟨f,rfl,rfl,k,(ah _ a).d _⟩
def DJ{a:eT b}(c:List UInt8×Nat)(d:b):aY a [c] d=a.af c d:=by
 simp only[aY];cases a.af c d<;>rfl
def Lx{c:eT b}(f:hd c){h:b}(e:List UInt8)(d:Nat)(p:c.ok (e,d))(k:c.J h a):Calls prog 360 #[.agg #[.string ⟨e.toArray⟩,.int .i64 d],c.v] a (fs c a (c.af (e,d) h)):=by
 have q:=f.ca k ((Below.refl a.heap.size a).alloc (Y4 _) (.cells #[.string ⟨e.toArray⟩,.int .i64 d] 260));have u:=f.e0;show Calls prog 360 #[.agg #[.string ⟨e.toArray⟩,.int .i64 d],.func (.func c.f) c.d4 c.d3] a _;go_in;go_wp2_with fail;refine(f.call (e,d) p q).mono ?_;rintro t w (⟨s,g,rfl,n,r⟩|⟨j,g,o,i,l,rfl,m⟩);rotate_left
 .exact aq (Ya ⟨j,g,((ah _ a).d _).a o,i,by simp at l;omega,rfl,m⟩)
 go_wp2;go_end0;exact Y8 ⟨s,g,rfl,n,((ah _ a).d _).a r⟩
def Lw{c:eT b}(f:hd c){h:b}(e:List UInt8)(d:Nat)(p:c.ok (e,d))(k:c.J h a):Calls prog 359 #[.agg #[.string ⟨e.toArray⟩,.int .i64 d],c.v] a (fs c a (c.af (e,d) h)):=by
 have q:=f.ca k ((Below.refl a.heap.size a).alloc (Y4 _) (.cells #[.string ⟨e.toArray⟩,.int .i64 d] 260));have u:=f.e0;show Calls prog 359 #[.agg #[.string ⟨e.toArray⟩,.int .i64 d],.func (.func c.f) c.d4 c.d3] a _;go_in;go_wp2_with fail;refine(f.call (e,d) p q).mono ?_;rintro t w (⟨s,g,rfl,n,r⟩|⟨j,g,o,i,l,rfl,m⟩);rotate_left
 .exact aq (Ya ⟨j,g,((ah _ a).d _).a o,i,by simp at l;omega,rfl,m⟩)
 go_wp2;go_end0;exact Y8 ⟨s,g,rfl,n,((ah _ a).d _).a r⟩
def tq{l:eT b}(h:hd l):∀(m:Ty) {f:b} {a:World},(∀j∈cf m,l.ok j)->l.J f a->Calls prog (rD m) #[pU m,l.v] a (fs l a (aY l (cf m) f)):=by
 intro m;induction m with
 |plain F=>intro f a _ e;exact qT h e
 |opaq j g=>intro f a _ e;exact qT h e
 |str j g=>intro f a _ e;exact qT h e
 |void=>intro f a _ e;exact qT h e
 |named j A=>intro f a o e;simp only[cf,DJ];exact Lx h j A (o _ (by simp[cf])) e
 |arr k j g y=>
  intro f a o e;obtain⟨c,d,n⟩:=fk k;have D:=pV k n;have C:=pS k;have w:=h.ca e ((Below.refl a.heap.size a).alloc (Y4 _) (.cells #[.iface c d,.int .i64 j,.bool g] 382))
  have p:=Z (y o w);simp only[rD,pU,cf];rw[n];go_in;go_wp2_with fail;refine p.b.mono ?_;rintro B E (⟨z,i,rfl,t,x⟩|⟨g,i,u,q,r,rfl,s⟩);rotate_left
  .exact aq (Ya ⟨g,i,((ah _ a).d _).a u,q,by simp at r;omega,rfl,s⟩)
  go_wp2;go_end0;exact Y8 ⟨z,i,rfl,t,((ah _ a).d _).a x⟩
 |opt k y=>
  intro f a o e;obtain⟨c,d,n⟩:=fk k;have D:=pV k n;have C:=pS k;have w:=h.ca e ((Below.refl a.heap.size a).alloc (Y4 _) (.cells #[.iface c d] 385))
  have p:=Z (y o w);simp only[rD,pU,cf];rw[n];go_in;go_wp2_with fail;refine p.b.mono ?_;rintro B E (⟨z,i,rfl,t,x⟩|⟨g,i,u,q,r,rfl,s⟩);rotate_left
  .exact aq (Ya ⟨g,i,((ah _ a).d _).a u,q,by simp at r;omega,rfl,s⟩)
  go_wp2;go_end0;exact Y8 ⟨z,i,rfl,t,((ah _ a).d _).a x⟩
def xG{i:eT b}(g:hd i):∀(k:Ty) {f:b} {a:World},(∀h∈cH k,i.ok h)->i.J f a->Calls prog (td k) #[pU k,i.v] a (fs i a (aY i (cH k) f)):=by
 intro k;induction k with
 |plain E=>intro f a _ e;exact qS g e
 |opaq h j=>intro f a _ e;exact qS g e
 |str h j=>intro f a _ e;exact qS g e
 |void=>intro f a _ e;exact qS g e
 |named h s=>intro f a m e;simp only[cH,DJ];exact Lw g h s (m _ (by simp[cH])) e
 |opt l q=>intro f a _ e;exact Mg g l e
 |arr l h j q=>
  intro f a m e;obtain⟨c,d,n⟩:=fk l;have D:=uO l n;have C:=uN l;have o:=g.ca e ((Below.refl a.heap.size a).alloc (Y4 _) (.cells #[.iface c d,.int .i64 h,.bool j] 382))
  simp only[td,pU,cH];rw[n];cases j with
  |false=>
   go_in;go_wp2;go_end0;exact Y8 ⟨f,rfl,rfl,o,(ah _ a).d _⟩
  |true=>
   have r:=Z (q (by simpa[cH]using m) o);go_in;go_wp2_with fail;refine r.b.mono ?_;rintro B F (⟨A,p,rfl,x,z⟩|⟨j,p,y,t,u,rfl,w⟩);rotate_left
   .exact aq (Ya ⟨j,p,((ah _ a).d _).a y,t,by simp at u;omega,rfl,w⟩)
   go_wp2;go_end0;exact Y8 ⟨A,rfl,rfl,x,((ah _ a).d _).a z⟩
end
section
variable {h f:Nat}{g:List (Nat×Obj)}{a:List aF}{n:List UInt8}{b:World}{xs e:List (List UInt8×Nat)}{d:Type}
def DI{b:eT d}:∀(xs e:List (List UInt8×Nat)) (a:d),aY b (xs++e) a=match aY b xs a with|.ok c=>aY b e c|.error f=>.error f:=by
 intro xs;induction xs with
 |nil=>intro e a;rfl
 |cons h xs g=>
  intro e a;simp only[YX,aY];cases b.af h a with
  |ok c=>exact g e c
  |error f=>rfl
def qo{a:eT d}{b c:d}(f:aY a xs b=.ok c):aY a (xs++e) b=aY a e c:=by rw[DI,f]
def qn{a:eT d}{c:d}{b:Mar.M}(f:aY a xs c=.error b):aY a (xs++e) c=.error b:=by rw[DI,f]
def lc{g:Type}{c:g->List Value}{n:Nat}(e:∀f,(c f).length=n):∀(xs:List g) (a b:Nat) (d:a<xs.length) (_:b<n),(xs.flatMap c)[a*n+b]? = (c xs[a])[b]?:=by
 intro xs;induction xs with
 |nil=>intro a b d;cases d
 |cons f xs j=>
  intro a b d i;rw[YD];cases a with
  |zero=>
   rw[Ys (by rw[e];omega)];simp
  |succ a=>
   rw[Yw (by rw[e,Nat.succ_mul];omega)];have h:(a+1)*n+b-(c f).length=a*n+b:=by rw[e,Nat.succ_mul];omega
   rw[h,j a b (by simpa using d) i];simp
def cu{f:Nat}{e:Array Value}{h:TypeId}{xs:List Value}(i:b.heap[f]? = some (.cells e h))(j:e.toList.take xs.length=xs){c:Nat}{v:Value}(a:xs[c]? = some v):b.cell? ⟨f,c,none⟩=some v:=by
 have g:c<xs.length:=by
  rcases Yj c xs.length with d|d
  .exact d
  .rw[YA d]at a;cases a
 have:=CI i j g;rw[this];rw[Yd g]at a;exact a
def Qn{e:eT d}(G:hd e)(b4:∀n∈a.flatMap λj=>cf j.k,e.ok n)(a6:dw g f (.struct n h a))(F:∀{l:d} {o:World},e.J l o->∀H∈g,o.heap[H.1]? = some H.2){l:d}(w:e.J l b) :
  Calls prog 345 #[.pointer (some ⟨f,0,none⟩),e.v] b (fs e b (aY e (a.flatMap λj=>cf j.k) l)):=by
 have O:=Z b4;obtain⟨d8,a3,b6⟩:=a6;obtain⟨d3,d4,d5,_⟩:=dS (F w _ a3);rcases b6 with⟨rfl,a2,_⟩|⟨u,c2,c3,rfl,⟨c5,d1⟩,a8,A⟩
 .have b3:a=[]:=Yv.1 a2;subst b3;have s:=Z w;go_in;go_wp2;go_loopw [11] (λk r=>k=.int .i64 0/\r=b) (λ_ _=>0)
  case atStart=>exact⟨rfl,rfl⟩
  case round=>
   obtain⟨rfl,rfl⟩:=hrel;go_wp2;go_end0;exact Y8 ⟨l,rfl,rfl,s.b,ah _ _⟩
 .have b5:∀(o:World) (m:d),e.J m o->∀k (p:k<a.length),o.cell? ⟨u,k*3,none⟩=some (.string ⟨a[k].t.toArray⟩)/\o.cell? ⟨u,k*3+1,none⟩=some (.int .i64 a[k].m)/\o.cell? ⟨u,k*3+2,none⟩=some (bW a[k].k):=by
   intro o m b7 k p;have y:=F b7 _ a8;have x:=lc (c:=hk) (n:=3) (λ_=>rfl) a k;exact⟨cu y A (by have:=x 0 p (by omega);simpa using this),cu y A (by have:=x 1 p (by omega);simpa using this),cu y A (by have:=x 2 p (by omega);simpa using this)⟩
  have P:=Z b5;have s:=Z w;go_in;go_wp2;go_loopw [11] (λk r=>∃(i:Nat) (m:d),k=.int .i64 i/\i<=a.length/\U (e.J m r)/\ai e.M b r/\U (aY e (a.flatMap λj=>cf j.k) l=aY e ((a.drop i).flatMap λj=>cf j.k) m)) (λk _=>a.length-(intOf k).toNat)
  case atStart=>exact⟨0,l,rfl,by omega,s,ah _ _,rfl⟩
  case round=>
   obtain⟨i,m,rfl,d0,t,q,C⟩:=hrel;rcases Yj i a.length with z|c7
   .obtain⟨d6,d7,c0⟩:=P.b _ _ t.b i z;obtain⟨S,c1,E⟩:=fk a[i].k;have d2:=pV a[i].k E;have c6:=pS a[i].k;rw[E]at c0;have c8:(0:Int)<=↑i:=by omega
    have c9:(↑i:Int) < ↑a.length:=by omega
    have D:U (aY e (a.flatMap λj=>cf j.k) l=aY e (cf a[i].k++(a.drop (i+1)).flatMap λj=>cf j.k) m):=by
     refine C.b.trans ?_;rw[Yk z,YD]
    have N:=Z (tq G a[i].k (λn b2=>O.b n (List.mem_flatMap.2 ⟨a[i],Yy z,b2⟩)) (G.ca t.b ((Below.refl _ _).alloc (Y4 _) (.cells #[.string ⟨a[i].t.toArray⟩,.int .i64 a[i].m,.iface S c1] 242))))
    go_wp2_with fail;refine N.b.mono ?_;rintro c4 J (⟨I,B,rfl,a9,b8⟩|⟨a1,B,b0,a0,a4,rfl,a5⟩);rotate_left
    .exact(show bodyPost prog Tryz.f345 (fs e b (aY e (a.flatMap λj=>cf j.k) l)) (Exit.panic _) _ J from aq (Ya ⟨a1,D.b.trans (qn B),(q.d _).a b0,a0,by have:=q.F;simp at a4;omega,rfl,a5⟩))
    have R:=Z a9;have K:U (aY e (a.flatMap λj=>cf j.k) l=aY e ((a.drop (i+1)).flatMap λj=>cf j.k) I):=D.b.trans (qo B);have b9:ai e.M b J:=(q.d _).a b8;go_wp2;exact⟨⟨i+1,I,by go_num,by omega,R,b9,K⟩,by simp[intOf];omega⟩
   .have b1:i=a.length:=by omega
    subst b1;have a7:aY e (a.flatMap λj=>cf j.k) l=.ok m:=by
     refine C.b.trans ?_;rw[List.drop_length];rfl
    have L:=Z a7;go_wp2;go_end0;exact Y8 ⟨m,L.b,rfl,t.b,q⟩
def Qm{e:eT d}(G:hd e)(b4:∀n∈a.flatMap λj=>cH j.k,e.ok n)(a6:dw g f (.struct n h a))(F:∀{l:d} {o:World},e.J l o->∀H∈g,o.heap[H.1]? = some H.2){l:d}(w:e.J l b) :
  Calls prog 344 #[.pointer (some ⟨f,0,none⟩),e.v] b (fs e b (aY e (a.flatMap λj=>cH j.k) l)):=by
 have O:=Z b4;obtain⟨d8,a3,b6⟩:=a6;obtain⟨d3,d4,d5,_⟩:=dS (F w _ a3);rcases b6 with⟨rfl,a2,_⟩|⟨u,c2,c3,rfl,⟨c5,d1⟩,a8,A⟩
 .have b3:a=[]:=Yv.1 a2;subst b3;have s:=Z w;go_in;go_wp2;go_loopw [11] (λk r=>k=.int .i64 0/\r=b) (λ_ _=>0)
  case atStart=>exact⟨rfl,rfl⟩
  case round=>
   obtain⟨rfl,rfl⟩:=hrel;go_wp2;go_end0;exact Y8 ⟨l,rfl,rfl,s.b,ah _ _⟩
 .have b5:∀(o:World) (m:d),e.J m o->∀k (p:k<a.length),o.cell? ⟨u,k*3,none⟩=some (.string ⟨a[k].t.toArray⟩)/\o.cell? ⟨u,k*3+1,none⟩=some (.int .i64 a[k].m)/\o.cell? ⟨u,k*3+2,none⟩=some (bW a[k].k):=by
   intro o m b7 k p;have y:=F b7 _ a8;have x:=lc (c:=hk) (n:=3) (λ_=>rfl) a k;exact⟨cu y A (by have:=x 0 p (by omega);simpa using this),cu y A (by have:=x 1 p (by omega);simpa using this),cu y A (by have:=x 2 p (by omega);simpa using this)⟩
  have P:=Z b5;have s:=Z w;go_in;go_wp2;go_loopw [11] (λk r=>∃(i:Nat) (m:d),k=.int .i64 i/\i<=a.length/\U (e.J m r)/\ai e.M b r/\U (aY e (a.flatMap λj=>cH j.k) l=aY e ((a.drop i).flatMap λj=>cH j.k) m)) (λk _=>a.length-(intOf k).toNat)
  case atStart=>exact⟨0,l,rfl,by omega,s,ah _ _,rfl⟩
  case round=>
   obtain⟨i,m,rfl,d0,t,q,C⟩:=hrel;rcases Yj i a.length with z|c7
   .obtain⟨d6,d7,c0⟩:=P.b _ _ t.b i z;obtain⟨S,c1,E⟩:=fk a[i].k;have d2:=uO a[i].k E;have c6:=uN a[i].k;rw[E]at c0;have c8:(0:Int)<=↑i:=by omega
    have c9:(↑i:Int) < ↑a.length:=by omega
    have D:U (aY e (a.flatMap λj=>cH j.k) l=aY e (cH a[i].k++(a.drop (i+1)).flatMap λj=>cH j.k) m):=by
     refine C.b.trans ?_;rw[Yk z,YD]
    have N:=Z (xG G a[i].k (λn b2=>O.b n (List.mem_flatMap.2 ⟨a[i],Yy z,b2⟩)) (G.ca t.b ((Below.refl _ _).alloc (Y4 _) (.cells #[.string ⟨a[i].t.toArray⟩,.int .i64 a[i].m,.iface S c1] 242))))
    go_wp2_with fail;refine N.b.mono ?_;rintro c4 J (⟨I,B,rfl,a9,b8⟩|⟨a1,B,b0,a0,a4,rfl,a5⟩);rotate_left
    .exact(show bodyPost prog Tryz.f344 (fs e b (aY e (a.flatMap λj=>cH j.k) l)) (Exit.panic _) _ J from aq (Ya ⟨a1,D.b.trans (qn B),(q.d _).a b0,a0,by have:=q.F;simp at a4;omega,rfl,a5⟩))
    have R:=Z a9;have K:U (aY e (a.flatMap λj=>cH j.k) l=aY e ((a.drop (i+1)).flatMap λj=>cH j.k) I):=D.b.trans (qo B);have b9:ai e.M b J:=(q.d _).a b8;go_wp2;exact⟨⟨i+1,I,by go_num,by omega,R,b9,K⟩,by simp[intOf];omega⟩
   .have b1:i=a.length:=by omega
    subst b1;have a7:aY e (a.flatMap λj=>cH j.k) l=.ok m:=by
     refine C.b.trans ?_;rw[List.drop_length];rfl
    have L:=Z a7;go_wp2;go_end0;exact Y8 ⟨m,L.b,rfl,t.b,q⟩
end
end Go.Proofs.YtjdhaegijjednaaGreatDoor
namespace Go.Proofs.YtjdhaegijjednaaGreatDoor
open Go.RowKit
open Go.Proofs.Tryz
section
variable {m:List Nat}{l d c g:Nat}{f o:Nat->Prop}{j:List UInt8}{q b h:World}
structure bc where
 f:Int
 n:Int
 of:Int
 a0:List Int
 bY:List Int
 eV:Int
 a8:List UInt8
 m:Int
structure de where
 s:List UInt8
 ag:Int
 n:Int
 m:Int
structure bi where
 prog:Int
 cv:Int
 kd:Int
 b3:Int
 cc:Int
structure ac where
 s:im
 e:List bc
 g:List de
 u:List bi
 b:List UInt8
 D:Int
 j:Int
 o:List Int
def cS:bc:=⟨0,0,0,[],[],0,[],0⟩
def gT:de:=⟨[],0,0,0⟩
abbrev kJ(a:bc)(b:Value×Value):List Value:=[.int .i64 a.f,.int .i64 a.n,.int .i64 a.of,b.1,b.2,.int .i64 a.eV,.string ⟨a.a8.toArray⟩,.int .i64 a.m]
abbrev hz(a:de):List Value:=[.string ⟨a.s.toArray⟩,.int .i64 a.ag,.int .i64 a.n,.int .i64 a.m]
abbrev eg(a:bi):List Value:=[.int .i64 a.prog,.int .i64 a.cv,.int .i64 a.kd,.int .i64 a.b3,.int .i64 a.cc]
def mo(b:List bc)(c:List (Value×Value)):List Value:=(b.zip c).flatMap λa=>kJ a.1 a.2
def dQ(v:Value)(a:List Int)(b:World):Prop:=b.ownsRow 0 3 1 v a.length (a.map (Value.int .i64))
def km(v:Value)(a:List (List UInt8))(b:World):Prop:=b.ownsRow 0 9 1 v a.length (a.map λc=>Value.string ⟨c.toArray⟩)
structure PV where
 rv:Value
 nv:Value
 pv:Value
 gv:Value
 ls:List (Value×Value)
def PV.a5(a:PV)(d:Nat):List Nat:=d::(a.rv.ownBlock.toList++(a.nv.ownBlock.toList++(a.pv.ownBlock.toList++a.gv.ownBlock.toList)))
structure PV.Nd(V:PV)(d:Nat):Prop where
 r:V.rv.ownBlock≠some d
 n:V.nv.ownBlock≠some d
 p:V.pv.ownBlock≠some d
 g:V.gv.ownBlock≠some d
 rn:∀c,V.rv.ownBlock=some c->V.nv.ownBlock≠some c
 rp:∀c,V.rv.ownBlock=some c->V.pv.ownBlock≠some c
 rg:∀c,V.rv.ownBlock=some c->V.gv.ownBlock≠some c
 np:∀c,V.nv.ownBlock=some c->V.pv.ownBlock≠some c
 ng:∀c,V.nv.ownBlock=some c->V.gv.ownBlock≠some c
 pg:∀c,V.pv.ownBlock=some c->V.gv.ownBlock≠some c
def PV.aC(b:PV):List Nat:=b.ls.flatMap λa=>a.1.ownBlock.toList++a.2.ownBlock.toList
def ac.sz(a:ac):Nat:=a.e.length+a.g.length+a.u.length+a.o.length+a.b.length+a.D.toNat+a.j.toNat
abbrev pu(a:PV)(b:ac):lN:=⟨a.rv,a.nv,a.pv,b.b,b.D,b.j,a.gv⟩
structure bf(f:Nat->Prop)(d:Nat)(j:List UInt8)(l:Nat)(σ:ac)(V:PV)(b:World):Prop where
 I:b.heap[d]? = some (lu j σ.s (pu V σ))
 e:b.ownsRow 0 117 8 V.rv σ.e.length (mo σ.e V.ls)
 g:b.ownsRow 0 119 4 V.nv σ.g.length (σ.g.flatMap hz)
 u:b.ownsRow 0 288 5 V.pv σ.u.length (σ.u.flatMap eg)
 o:dQ V.gv σ.o b
 ak:V.ls.length=σ.e.length
 et:∀(i:Nat) r p,σ.e[i]? = some r->V.ls[i]? = some p->dQ p.1 r.a0 b/\dQ p.2 r.bY b
 H:V.Nd d
 bg:∀c∈V.aC,c ∉ V.a5 d
 aZ:∀c,c∈V.a5 d\/c∈V.aC->¬f c
 al:∀c,f c->c<b.heap.size
 fin:σ.s.x.fin<=j.length
 b1:σ.s.x.text.length<=2000
 b5:j.length<=2000
 aP:σ.sz<=l
 cn:0<=σ.D/\0<=σ.j
def bt(f:Nat->Prop)(d:Nat)(j:List UInt8)(l:Nat)(c:ac)(b:World):Prop:=∃a,bf f d j l c a b
structure Fr(f:Nat->Prop)(b h:World):Prop where
 os:h.os=b.os
 c2:h.tape=b.tape
 c1:h.output=b.output
 F:b.heap.size<=h.heap.size
 i:∀k,k<b.heap.size->f k->h.heap[k]? = b.heap[k]?
def ad(f:Nat->Prop)(c:Nat):Nat->Prop:=λa=>f a\/a=c
def kr:ad f c c:=Ya rfl
def iH(f:Nat->Prop)(b:World):Fr f b b:=⟨rfl,rfl,rfl,Y4 _,λ_ _ _=>rfl⟩
def Fr.a{v:World}(a:Fr f q v)(c:Fr f v b):Fr f q b:=
 ⟨c.os.trans a.os,c.c2.trans a.c2,c.c1.trans a.c1,Yz a.F c.F,λg d e=>(c.i g (Yr d a.F) e).trans (a.i g d e)⟩
def Fr.a9(a:Fr o b h)(i:∀c,c<b.heap.size->f c->o c):Fr f b h:=⟨a.os,a.c2,a.c1,a.F,λe d g=>a.i e d (i e d g)⟩
def Fr.az(a:Fr (ad f c) b h):Fr f b h:=a.a9 λ_ _=>Y8
def si(a:ai m b h)(g:∀e∈m,e<b.heap.size->¬f e):Fr f b h:=⟨a.os,a.c2,a.c1,a.F,λd c i=>a.i d c λj=>g d j c i⟩
def Fr.b6(a:Fr f q b)(c:ai m b h)(j:∀i∈m,f i->q.heap.size<=i):Fr f q h:=
 ⟨c.os.trans a.os,c.c2.trans a.c2,c.c1.trans a.c1,Yz a.F c.F,λd e g=>(c.i d (Yr e a.F) (λk=>by have:=j d k g;omega)).trans (a.i d e g)⟩
def Fr.d(c:Fr f q b)(a:Obj):Fr f q (b.alloc a):=c.b6 ((ah [] b).d a) (by simp)
def Fr.ae(a:Fr f q b):Fr f q b.drew:=a.b6 ((ah [] b).ae) (by simp)
def dQ.aC{v:Value}{a:List Int}(c:dQ v a b)(e:ai m b h)(d:∀g,v.ownBlock=some g->g ∉ m):dQ v a h:=aX c e d
def km.aC{v:Value}{a:List (List UInt8)}(c:km v a b)(e:ai m b h)(d:∀g,v.ownBlock=some g->g ∉ m):km v a h:=aX c e d
def ox{c:Nat}{d:TypeId}{j i:Nat}{v:Value}{k:List Value}(a:b.ownsRow c d j v i k)(q:Fr f b h)(p:∀g,v.ownBlock=some g->f g):h.ownsRow c d j v i k:=by
 refine⟨a.1,?_⟩;rcases a.2 with a|⟨g,l,m,rfl,n,e,o⟩
 .exact Y8 a
 .exact Ya ⟨g,l,m,rfl,n,(q.i _ (aj e) (p g rfl)).trans e,o⟩
def ha{a:PV}(b:a.nv.ownBlock=some g):g∈a.a5 d:=by simp[PV.a5,b]
def hL{a:PV}(b:a.rv.ownBlock=some g):g∈a.a5 d:=by simp[PV.a5,b]
def io{a:PV}(b:a.pv.ownBlock=some g):g∈a.a5 d:=by simp[PV.a5,b]
def jh{a:PV}(b:a.gv.ownBlock=some g):g∈a.a5 d:=by simp[PV.a5,b]
def hr{c:PV}{e:Nat}{b:Value×Value}(d:c.ls[e]? = some b)(a:b.1.ownBlock=some g\/b.2.ownBlock=some g):g∈c.aC:=by
 refine List.mem_flatMap.2 ⟨b,Yh d,?_⟩;rcases a with a|a<;>simp[a]
def bf.K{m:ac}{h:PV}(e:bf f d j l m h b):∀c,c∈h.a5 d\/c∈h.aC->c<b.heap.size:=by
 intro c a;rcases a with a|a
 .unfold PV.a5 at a;simp only[Yg,Yn,Option.mem_toList]at a;rcases a with rfl|a|a|a|a
  .exact aj e.I
  .exact(gH e.e a).2
  .exact(gH e.g a).2
  .exact(gH e.u a).2
  .exact(gH e.o a).2
 .obtain⟨r,q,g⟩:=List.mem_flatMap.1 a;obtain⟨k,i,rfl⟩:=List.getElem_of_mem q;have p:k<m.e.length:=by rw[<-e.ak];exact i
  obtain⟨n,o⟩:=e.et k _ _ (Yd p) (Yd i);simp only[Yn,Option.mem_toList]at g;rcases g with g|g
  .exact(gH n g).2
  .exact(gH o g).2
def bf.f0{s:ac}{n:PV}(a:bf f d j l s n b)(k:ai m b h)(v:∀D∈m,f D)(w:∀c,o c->f c\/b.heap.size<=c)(x:∀c,o c->c<h.heap.size):bf o d j l s n h:=by
 have i:∀c,c∈n.a5 d\/c∈n.aC->c ∉ m:=λc p y=>a.aZ c p (v c y);have C:=a.K;refine⟨(k.i _ (aj a.I) (i d (Y8 (by simp[PV.a5])))).trans a.I,aX a.e k λg e=>i g (Y8 (hL e)),aX a.g k λg e=>i g (Y8 (ha e)),aX a.u k λg e=>i g (Y8 (io e)),a.o.aC k λg e=>i g (Y8 (jh e)),a.ak,?_,a.H,a.bg,?_,x,a.fin,a.b1,a.b5,a.aP,a.cn⟩
 .intro B F E z q;obtain⟨t,u⟩:=a.et B F E z q;exact⟨t.aC k λg e=>i g (Ya (hr q (Y8 e))),u.aC k λg e=>i g (Ya (hr q (Ya e)))⟩
 .intro c p A;rcases w c A with r|r
  .exact a.aZ c p r
  .have:=C c p;omega
def bt.f0{a:ac}(g:bt f d j l a b)(q:ai m b h)(i:∀r∈m,f r)(n:∀c,o c->f c\/b.heap.size<=c)(p:∀c,o c->c<h.heap.size):bt o d j l a h:=by
 obtain⟨e,k⟩:=g;exact⟨e,k.f0 q i n p⟩
def bt.al{g:ac}(a:bt f d j l g b):∀c,f c->c<b.heap.size:=by
 obtain⟨h,e⟩:=a;exact e.al
def bt.d{h:ac}(g:bt f d j l h b)(e:Obj):bt (ad f b.heap.size) d j l h (b.alloc e):=by
 refine g.f0 ((ah [] b).d e) (by simp) ?_ ?_
 .intro c a;rcases a with a|rfl
  .exact Y8 a
  .exact Ya (Y4 _)
 .intro c a;have i:(b.alloc e).heap.size=b.heap.size+1:=by simp
  rcases a with a|rfl
  .have:=g.al c a;omega
  .omega
def bt.a9{h:ac}(e:bt f d j l h b)(g:∀c,o c->f c):bt o d j l h b:=
 e.f0 (ah [] b) (by simp) (λc a=>Y8 (g c a)) (λc a=>e.al c (g c a))
def bt.az{a:ac}(e:bt (ad f c) d j l a b):bt f d j l a b:=e.a9 λ_=>Y8
def bt.h{g:ac}(a:bt f d j l g b)(e:ai m b h)(i:∀n∈m,f n):bt f d j l g h:=
 a.f0 e i (λ_=>Y8) (λc k=>Yr (a.al c k) e.F)
def bt.ae{a:ac}(c:bt f d j l a b):bt f d j l a b.drew:=c.h ((ah [] b).ae) (by simp)
def bt.L{N':Nat}{c:ac}(g:bt f d j l c b)(h:l<=N'):bt f d j N' c b:=by
 obtain⟨e,a⟩:=g;exact⟨e,{ a with aP:=Yz a.aP h }⟩
def bf.r{g:ac}{h:PV}(c:bf f d j l g h b) :
  b.cell? ⟨d,1,none⟩=some (.int .i64 g.s.x.f)/\b.cell? ⟨d,2,none⟩=some (.string ⟨g.s.x.text.toArray⟩)/\b.cell? ⟨d,3,none⟩=some (.int .i64 g.s.x.m)/\b.cell? ⟨d,4,none⟩=some (.int .i64 g.s.x.fin)/\b.cell? ⟨d,5,none⟩=some (.int .i64 g.s.x.n)/\b.cell? ⟨d,6,none⟩=some (.int .i64 g.s.x.e)/\b.cell? ⟨d,7,none⟩=some h.rv/\b.cell? ⟨d,8,none⟩=some h.nv/\b.cell? ⟨d,9,none⟩=some h.pv/\b.cell? ⟨d,10,none⟩=some (.string ⟨g.b.toArray⟩)/\b.cell? ⟨d,11,none⟩=some (.int .i64 g.s.e)/\b.cell? ⟨d,12,none⟩=some (.int .i64 g.s.a)/\b.cell? ⟨d,13,none⟩=some (.int .i64 g.D)/\b.cell? ⟨d,14,none⟩=some (.int .i64 g.j)/\b.cell? ⟨d,15,none⟩=some h.gv/\(∀i,b.frozen? ⟨d,i,none⟩=false)/\d<b.heap.size:=
 ⟨aR c.I rfl,aR c.I rfl,aR c.I rfl,aR c.I rfl,aR c.I rfl,aR c.I rfl,aR c.I rfl,aR c.I rfl,aR c.I rfl,aR c.I rfl,aR c.I rfl,aR c.I rfl,aR c.I rfl,aR c.I rfl,aR c.I rfl,cF c.I,aj c.I⟩
def bf.a4{r:ac}{m:PV}{s:im}(a:bf f d j l r m b)(p:h.heap[d]? = some (lu j s (pu m r)))(e:ai [d] b h)(y:s.x.fin<=j.length)(B:s.x.text.length<=2000):bf f d j l { r with s:=s } m h:=by
 have o:∀{v:Value},v.ownBlock≠some d->∀g,v.ownBlock=some g->g ∉ [d]:=λA g k i=>by
  simp only[Yc]at i;exact A (by rw[k,i])
 have t:∀c,c∈m.aC->c ∉ [d]:=λc p i=>by
  simp only[Yc]at i;exact a.bg c p (by rw[i];simp[PV.a5])
 refine⟨p,aX a.e e (o a.H.r),aX a.g e (o a.H.n),aX a.u e (o a.H.p),a.o.aC e (o a.H.g),a.ak,?_,a.H,a.bg,a.aZ,λc C=>Yr (a.al c C) e.F,y,B,a.b5,a.aP,a.cn⟩;intro D F E z q;obtain⟨u,w⟩:=a.et D F E z q;exact⟨u.aC e λg k=>t g (hr q (Y8 k)),w.aC e λg k=>t g (hr q (Ya k))⟩
def bf.fr{k:ac}{c:PV}(e:bf f d j l k c b)(g:ai [d] b h):Fr f b h:=
 si g λi a _=>by
  simp only[Yc]at a;exact e.aZ i (Y8 (by rw[a];simp[PV.a5]))
end
def GP(h:Nat->Prop)(d:Nat)(c:List UInt8)(g:Nat)(f:ac)(v:Value)(b:World)(e:Ending)(a:World):Prop:=e=.returned v/\bt h d c g f a/\Fr h b a
def bo(c b:Int)(a:ac):ac:={ a with s:=⟨a.s.x,(hl a.s.e a.s.a c b).1,(hl a.s.e a.s.a c b).2⟩ }
def da(a:ac):ac:={ a with s:=jK a.s }
def aI(c:List UInt8)(a:ac):ac:={ a with s:=pX c a.s }
def ax(a:ac)(b:Nat)(c:List UInt8):Bool:=hx a.s.x a.s.e b c
def ab(c:List UInt8)(b:Nat)(d:List UInt8)(a:ac):ac:={ a with s:=mA c a.s b d }
def cJ(c:List UInt8)(a:ac):ee×ac:=((ie c a.s).1,{ a with s:=(ie c a.s).2 })
def bz(a:ac)(b:List UInt8):Int:=lb (a.g.map (·.s)) b
def vn{c:List UInt8}{a:Nat}(f:c.length<=2000):(cQ c a).text.length<=2000:=by
 unfold cQ;cases d:Mar.cd (c.drop (dU c a)) (dU c a)with
 |error e=>simp
 |ok b=>
  have:=xu d;rw[YI]at this;simp only;omega
def Ed{c:List UInt8}{a:im}{e:Nat}{f:List UInt8}(b:c.length<=2000)(d:a.x.text.length<=2000):(mA c a e f).x.text.length<=2000:=by
 unfold mA;split
 .exact vn b
 .exact d
def zk{c:List UInt8}{b:im}(d:c.length<=2000)(a:b.x.text.length<=2000):(ie c b).1.text.length<=2000/\(ie c b).2.x.text.length<=2000:=by
 unfold ie;split
 .exact⟨by simp[bZ],a⟩
 .split
  .exact⟨a,vn d⟩
  .exact⟨by simp[bZ],a⟩
variable {h : Nat -> Prop} {d g : Nat} {c : List UInt8} {a : ac} {b : World}
def iP(m:bt h d c g a b)(i f:Int):Calls prog 51 #[.pointer (some ⟨d,0,none⟩),.int .i64 i,.int .i64 f] b (GP h d c g (bo i f a) (.tuple #[]) b):=by
 obtain⟨k,e⟩:=m;refine(uF e.I i f).mono ?_;rintro n o ⟨rfl,l,j⟩;exact⟨rfl,⟨k,e.a4 (s:=⟨a.s.x,_,_⟩) l j e.fin e.b1⟩,e.fr j⟩
def nY(k:bt h d c g a b):Calls prog 84 #[.pointer (some ⟨d,0,none⟩)] b (GP h d c g (da a) (.tuple #[]) b):=by
 obtain⟨i,e⟩:=k;refine(uq e.I).mono ?_;rintro l m ⟨rfl,j,f⟩;exact⟨rfl,⟨i,e.a4 (s:=jK a.s) j f e.fin e.b1⟩,e.fr f⟩
def gG(k:bt h d c g a b):Calls prog 47 #[.pointer (some ⟨d,0,none⟩)] b (GP h d c g (aI c a) (.tuple #[]) b):=by
 obtain⟨i,e⟩:=k;refine(vo e.I e.fin e.b5).mono ?_;rintro l m ⟨rfl,j,f⟩;exact⟨rfl,⟨i,e.a4 (s:=pX c a.s) j f (vm e.fin) (vn e.b5)⟩,e.fr f⟩
def ga(k:bt h d c g a b)(e:Nat)(f:List UInt8):Calls prog 81 #[.pointer (some ⟨d,0,none⟩),.int .i64 e,.string ⟨f.toArray⟩] b λi l=>i=.returned (.bool (ax a e f))/\l=b:=by
 obtain⟨m,j⟩:=k;exact xB j.I e f
def cB(n:bt h d c g a b)(f:Nat)(i:List UInt8):Calls prog 141 #[.pointer (some ⟨d,0,none⟩),.int .i64 f,.string ⟨i.toArray⟩] b (GP h d c g (ab c f i a) (.tuple #[]) b):=by
 obtain⟨k,e⟩:=n;refine(Ef e.I e.fin e.b5 f i).mono ?_;rintro o p ⟨rfl,m,j,l⟩;exact⟨rfl,⟨k,e.a4 m j l (Ed e.b5 e.b1)⟩,e.fr j⟩
def zl(m:bt h d c g a b):Calls prog 152 #[.pointer (some ⟨d,0,none⟩)] b λf n=>GP h d c g (cJ c a).2 (.agg (dt (cJ c a).1)) b f n/\(cJ c a).1.text.length<=2000:=by
 obtain⟨j,e⟩:=m;refine(Sl e.I e.fin e.b5).mono ?_;rintro f o ⟨rfl,l,i,k⟩;exact⟨⟨rfl,⟨j,e.a4 l i k (zk e.b5 e.b1).2⟩,e.fr i⟩,(zk e.b5 e.b1).1⟩
def ro{h:Type}{f:h->List Value}{k:Nat}(e:∀d,(f d).length=k):∀(c:List h) (a b:Nat),b<k->(c.flatMap f)[a*k+b]? = (c[a]?).bind λd=>(f d)[b]?:=by
 intro c;induction c with
 |nil=>intro a b _;simp
 |cons d c i=>
  intro a b g;rw[YD];cases a with
  |zero=>rw[Nat.zero_mul,Nat.zero_add,Ys (by rw[e];exact g)];rfl
  |succ a=>
   rw[Yw (by rw[e,Nat.succ_mul];omega),e,show (a+1)*k+b-k=a*k+b by rw[Nat.succ_mul];omega,i a b g];rfl
def jY{b:World}{j:Nat}{k:TypeId}{o g:Nat}{v:Value}{h:List Value}(d:b.ownsRow j k o v g h){i:Nat}{x:Value}(f:h[i]? = some x):∃a c,v=.slice (some ⟨a,0,none⟩) g c/\b.cell? ⟨a,i,none⟩=some x/\(∀i,b.frozen? ⟨a,i,none⟩=false)/\a<b.heap.size:=by
 have n:=(YB.1 f).1;rcases d.2 with⟨rfl,l⟩|⟨a,c,p,rfl,q,e,r,s,t,m⟩
 .rw[d.1,l]at n;omega
 .exact⟨a,c,rfl,cu e (by rw[d.1];exact m) f,cF e,aj e⟩
def xI{b:World}{i:Nat}{k:TypeId}{e d:Nat}{v:Value}{h:List Value}(g:b.ownsRow i k e v d h)(f:Nat->Value)(p:∀a,a<d->h[a*e]? = some (f a)):pf b v d e f:=by
 rcases g.2 with⟨rfl,m⟩|⟨l,j,q,rfl,r,n,s,t,u,o⟩
 .subst m;exact⟨none,0,rfl,λa c=>absurd c (by omega)⟩
 .refine⟨_,j,rfl,λa c=>?_⟩;exact⟨l,rfl,cu n (by rw[g.1];exact o) (p a c)⟩
def dQ.bk{v:Value}{a:List Int}(d:dQ v a b):pf b v a.length 1 λc=>.int .i64 (a.getD c 0):=
 xI d _ λc e=>by simp[e]
def km.bk{v:Value}{a:List (List UInt8)}(d:km v a b):pf b v a.length 1 λc=>.string ⟨(a.getD c []).toArray⟩:=
 xI d _ λc e=>by simp[e]
def ol{i:PV}(j:bf h d c g a i b)(r:g<=1000000000)(e:List UInt8):Calls prog 90 #[i.nv,.string ⟨e.toArray⟩] b λm q=>m=.returned (.int .i64 (bz a e))/\q=b:=by
 have n:=j.aP;unfold ac.sz at n;refine Ia (l:=a.g.map (·.s)) ?_ (by simp;omega) e;rw[YU];refine xI j.g _ λp o=>?_;have:=ro (f:=hz) (k:=4) (λ_=>rfl) a.g p 0 (by omega);rw[Nat.add_zero]at this;rw[this];simp[o]
def ow{u:PV}(j:bf h d c g a u b){i:Nat}(B:i<a.g.length):∃e o,u.nv=.slice (some ⟨e,0,none⟩) a.g.length o/\b.cell? ⟨e,i*4,none⟩=some (.string ⟨(a.g.getD i gT).s.toArray⟩)/\b.cell? ⟨e,i*4+1,none⟩=some (.int .i64 (a.g.getD i gT).ag)/\b.cell? ⟨e,i*4+2,none⟩=some (.int .i64 (a.g.getD i gT).n)/\b.cell? ⟨e,i*4+3,none⟩=some (.int .i64 (a.g.getD i gT).m)/\(∀i,b.frozen? ⟨e,i,none⟩=false)/\e<b.heap.size/\e≠d:=by
 have m:=λE C=>ro (f:=hz) (k:=4) (λ_=>rfl) a.g i E C;have l:a.g[i]? = some (a.g.getD i gT):=by simp[B]
 obtain⟨e,o,p,v,A,D⟩:=jY j.g (m 0 (by omega) |>.trans (by rw[l];rfl));obtain⟨I,F,q,w,_⟩:=jY j.g (m 1 (by omega) |>.trans (by rw[l];rfl));obtain⟨J,G,r,x,_⟩:=jY j.g (m 2 (by omega) |>.trans (by rw[l];rfl));obtain⟨K,H,t,y,_⟩:=jY j.g (m 3 (by omega) |>.trans (by rw[l];rfl));rw[p]at q r t;simp at q r t;obtain⟨rfl,rfl⟩:=q;obtain⟨rfl,rfl⟩:=r;obtain⟨rfl,rfl⟩:=t;exact⟨e,o,p,v,w,x,y,A,D,λz=>j.H.n (by rw[p,z];rfl)⟩
def rm{c:List UInt8}(d:0<=bz a c):(bz a c).toNat<a.g.length:=by
 unfold bz lb at *
 split at d
 .rename_i b;rw[Y9 b];have:=List.idxOf_lt_length_iff.2 (List.contains_iff_mem.1 b);rw[YU]at this;simpa using this
 .omega
variable {d : Nat -> Prop} {a e : Nat} {f : List UInt8} {b : ac} {c : World}
def dZ(a c b:Nat):(Value.slice (some ⟨a,0,none⟩) c b).ownBlock=some a:=rfl
def bf.kw{l:PV}{r:World}{m:de}{o u:Nat}(h:bf d a f e b l c)(N:c.grownBy r l.nv.ownBlock)(P:r.ownsRow 0 119 4 (.slice (some ⟨o,0,none⟩) (b.g.length+1) u) (b.g.length+1) (b.g.flatMap hz++hz m))(z:l.nv.ownBlock=some o\/o=c.heap.size)(a0:o<r.heap.size) :
  bf d a f (e+1) { b with g:=b.g++[m] } { l with nv:=.slice (some ⟨o,0,none⟩) (b.g.length+1) u } (r.setCell ⟨a,8,none⟩ (.slice (some ⟨o,0,none⟩) (b.g.length+1) u)):=by
 have F:=eJ N;have G:ai [a] r (r.setCell ⟨a,8,none⟩ (.slice (some ⟨o,0,none⟩) (b.g.length+1) u)):=(ah [a] r).O (p:=⟨a,8,none⟩) (by simp) _;have H:=h.K;have C:o≠a:=by
  rcases z with j|j
  .intro k;exact h.H.n (by rw[j,k])
  .have:=H a (Y8 (by simp[PV.a5]));omega
 have x:∀g,g∈l.a5 a\/g∈l.aC->l.nv.ownBlock≠some g->o≠g:=by
  intro g i O k;rcases z with j|j
  .exact O (by rw[j,k])
  .have:=H g i;omega
 have t:ai (l.nv.ownBlock.toList++[a]) c (r.setCell ⟨a,8,none⟩ (.slice (some ⟨o,0,none⟩) (b.g.length+1) u)):=F.cons G (λm p=>by simp_all) (λm p=>by simp_all);have w:∀g,l.nv.ownBlock≠some g->g≠a->g ∉ l.nv.ownBlock.toList++[a]:=λg v L=>by simp[v,L]
 have A:∀g∈l.aC,l.nv.ownBlock≠some g/\g≠a:=λg i=>⟨λk=>h.bg g i (ha k),λk=>h.bg g i (by rw[k];simp[PV.a5])⟩;have M:r.heap[a]? = c.heap[a]?:=F.i a (aj h.I) (by simpa using h.H.n);refine⟨bu (i:=8) (M.trans h.I) _,aX h.e t λg i=>w g (h.H.rn g i) (λk=>h.H.r (by rw[i,k])),?_,aX h.u t λg i=>w g (λk=>h.H.np g k i) (λk=>h.H.p (by rw[i,k])),h.o.aC t λg i=>w g (λk=>h.H.ng g k i) (λk=>h.H.g (by rw[i,k])),h.ak,?_,?_,?_,?_,λg q=>Yr (h.al g q) t.F,h.fin,h.b1,h.b5,?_,h.cn⟩
 .have:=aX P G (λg i=>by rw[dZ]at i;simp at i;subst i;simpa using C);simpa using this
 .intro E S I R D;obtain⟨J,K⟩:=h.et E S I R D;have y:=λg i=>A g (hr D i);exact⟨J.aC t λg i=>w g (y g (Y8 i)).1 (y g (Y8 i)).2,K.aC t λg i=>w g (y g (Ya i)).1 (y g (Ya i)).2⟩
 .refine⟨h.H.r,?_,h.H.p,h.H.g,?_,h.H.rp,h.H.rg,?_,?_,h.H.pg⟩
  .simp[dZ,C]
  .intro g i k;exact x g (Y8 (hL i)) (h.H.rn g i) (by simpa[dZ]using k)
  .intro g i k;exact x g (Y8 (io k)) (λv=>h.H.np g v k) (by simpa[dZ]using i)
  .intro g i k;exact x g (Y8 (jh k)) (λv=>h.H.ng g v k) (by simpa[dZ]using i)
 .intro g i p;have s:g∈l.aC:=i;unfold PV.a5 at p;simp only[dZ,Yg,Yn,Option.mem_toList,Yu]at p;rcases p with j|j|j|j|j
  .exact(A g s).2 j
  .exact h.bg g s (hL j)
  .exact x g (Ya s) (A g s).1 j
  .exact h.bg g s (io j)
  .exact h.bg g s (jh j)
 .intro g i q;rcases i with p|i
  .unfold PV.a5 at p;simp only[dZ,Yg,Yn,Option.mem_toList,Yu]at p;rcases p with j|j|j|j|j
   .exact h.aZ g (Y8 (by rw[j];simp[PV.a5])) q
   .exact h.aZ g (Y8 (hL j)) q
   .rcases z with B|B
    .exact h.aZ g (Y8 (ha (by rw[B,j]))) q
    .have:=h.al g q;omega
   .exact h.aZ g (Y8 (io j)) q
   .exact h.aZ g (Y8 (jh j)) q
  .exact h.aZ g (Ya i) q
 .have:=h.aP;unfold ac.sz at *
  simp only[Yq,List.length_singleton];omega
def bf.mK{l:PV}{t:World}{I:Nat->Prop}{C:bc}{r s:Value}{p D:Nat}(i:bf I a f e b l c)(u:∀g,d g->I g)(a7:dQ r C.a0 c)(h:dQ s C.bY c)(M:∀g,r.ownBlock=some g\/s.ownBlock=some g->I g/\¬d g)(a8:c.grownBy t l.rv.ownBlock)(b0:t.ownsRow 0 117 8 (.slice (some ⟨p,0,none⟩) (b.e.length+1) D) (b.e.length+1) (mo b.e l.ls++kJ C (r,s)))(F:l.rv.ownBlock=some p\/p=c.heap.size)(b3:p<t.heap.size) :
  bf d a f (e+1) { b with e:=b.e++[C] } { l with rv:=.slice (some ⟨p,0,none⟩) (b.e.length+1) D,ls:=l.ls++[(r,s)] } (t.setCell ⟨a,7,none⟩ (.slice (some ⟨p,0,none⟩) (b.e.length+1) D)):=by
 have P:=eJ a8;have R:ai [a] t (t.setCell ⟨a,7,none⟩ (.slice (some ⟨p,0,none⟩) (b.e.length+1) D)):=(ah [a] t).O (p:=⟨a,7,none⟩) (by simp) _;have a0:=i.K;have N:p≠a:=by
  rcases F with j|j
  .intro k;exact i.H.r (by rw[j,k])
  .have:=a0 a (Y8 (by simp[PV.a5]));omega
 have E:∀g,g∈l.a5 a\/g∈l.aC->l.rv.ownBlock≠some g->p≠g:=by
  intro g h a9 k;rcases F with j|j
  .exact a9 (by rw[j,k])
  .have:=a0 g h;omega
 have x:ai (l.rv.ownBlock.toList++[a]) c (t.setCell ⟨a,7,none⟩ (.slice (some ⟨p,0,none⟩) (b.e.length+1) D)):=P.cons R (λb1 o=>by simp_all) (λb1 o=>by simp_all);have B:∀g,l.rv.ownBlock≠some g->g≠a->g ∉ l.rv.ownBlock.toList++[a]:=λg y a5=>by simp[y,a5]
 have K:∀g∈l.aC,l.rv.ownBlock≠some g/\g≠a:=λg h=>⟨λk=>i.bg g h (hL k),λk=>i.bg g h (by rw[k];simp[PV.a5])⟩;have z:∀g,r.ownBlock=some g\/s.ownBlock=some g->g ∉ l.a5 a/\p≠g:=by
  intro g h;have A:=(M g h).1;have a2:g ∉ l.a5 a:=λo=>i.aZ g (Y8 o) A;refine⟨a2,λk=>?_⟩;rcases F with j|j
  .exact a2 (hL (by rw[j,k]))
  .have:=i.al g A;omega
 have S:∀g,r.ownBlock=some g\/s.ownBlock=some g->g ∉ l.rv.ownBlock.toList++[a]:=λg h=>B g (λk=>(z g h).1 (hL k)) (λk=>(z g h).1 (by rw[k];simp[PV.a5]));have a6:t.heap[a]? = c.heap[a]?:=P.i a (aj i.I) (by simpa using i.H.r);refine⟨bu (i:=7) (a6.trans i.I) _,?_,aX i.g x λg h=>B g (λk=>i.H.rn g k h) (λk=>i.H.n (by rw[h,k])),aX i.u x λg h=>B g (λk=>i.H.rp g k h) (λk=>i.H.p (by rw[h,k])),i.o.aC x λg h=>B g (λk=>i.H.rg g k h) (λk=>i.H.g (by rw[h,k])),?_,?_,?_,?_,?_,λg q=>Yr (i.al g (u g q)) x.F,i.fin,i.b1,i.b5,?_,i.cn⟩
 .have:=aX b0 R (λg h=>by rw[dZ]at h;simp at h;subst h;simpa using N);have j:mo (b.e++[C]) (l.ls++[(r,s)])=mo b.e l.ls++kJ C (r,s):=by
   unfold mo;rw[List.zip_append i.ak.symm,YK];simp
  simp only[j,Yq,List.length_singleton];exact this
 .simp[i.ak]
 .intro H b2 a1 w v;simp only[List.getElem?_append]at w v;by_cases G:H<b.e.length
  .rw[Y9 G]at w;rw[Y9 (by rw[i.ak];exact G)]at v;obtain⟨a3,a4⟩:=i.et H b2 a1 w v;have A:=λg h=>K g (hr v h);exact⟨a3.aC x λg h=>B g (A g (Y8 h)).1 (A g (Y8 h)).2,a4.aC x λg h=>B g (A g (Ya h)).1 (A g (Ya h)).2⟩
  .rw[Y2 G]at w;rw[Y2 (by rw[i.ak];exact G)]at v;have O:H-b.e.length=0:=by
    have:=(YB.1 w).1;simp at this;omega
   rw[O]at w;rw[i.ak,O]at v;simp at w v;subst w v;exact⟨a7.aC x λg h=>S g (Y8 h),h.aC x λg h=>S g (Ya h)⟩
 .refine⟨?_,i.H.n,i.H.p,i.H.g,?_,?_,?_,i.H.np,i.H.ng,i.H.pg⟩
  .simp[dZ,N]
  .intro g h k;exact E g (Y8 (ha k)) (λy=>i.H.rn g y k) (by simpa[dZ]using h)
  .intro g h k;exact E g (Y8 (io k)) (λy=>i.H.rp g y k) (by simpa[dZ]using h)
  .intro g h k;exact E g (Y8 (jh k)) (λy=>i.H.rg g y k) (by simpa[dZ]using h)
 .intro g h o;have J:g∈l.aC\/(r.ownBlock=some g\/s.ownBlock=some g):=by
   unfold PV.aC at h ⊢;simp only[YK,Yn,YD,List.flatMap_nil,YH,Option.mem_toList]at h;exact h
  unfold PV.a5 at o;simp only[dZ,Yg,Yn,Option.mem_toList,Yu]at o;rcases J with m|m
  .rcases o with j|j|j|j|j
   .exact(K g m).2 j
   .exact E g (Ya m) (K g m).1 j
   .exact i.bg g m (ha j)
   .exact i.bg g m (io j)
   .exact i.bg g m (jh j)
  .rcases o with j|j|j|j|j
   .exact(z g m).1 (by rw[j];simp[PV.a5])
   .exact(z g m).2 j
   .exact(z g m).1 (ha j)
   .exact(z g m).1 (io j)
   .exact(z g m).1 (jh j)
 .intro g h q;rcases h with o|h
  .unfold PV.a5 at o;simp only[dZ,Yg,Yn,Option.mem_toList,Yu]at o;rcases o with j|j|j|j|j
   .exact i.aZ g (Y8 (by rw[j];simp[PV.a5])) (u g q)
   .rcases F with L|L
    .exact i.aZ g (Y8 (hL (by rw[L,j]))) (u g q)
    .have:=i.al g (u g q);omega
   .exact i.aZ g (Y8 (ha j)) (u g q)
   .exact i.aZ g (Y8 (io j)) (u g q)
   .exact i.aZ g (Y8 (jh j)) (u g q)
  .have J:g∈l.aC\/(r.ownBlock=some g\/s.ownBlock=some g):=by
    unfold PV.aC at h ⊢;simp only[YK,Yn,YD,List.flatMap_nil,YH,Option.mem_toList]at h;exact h
   rcases J with h|h
   .exact i.aZ g (Ya h) (u g q)
   .exact(M g h).2 q
 .have:=i.aP;unfold ac.sz at *
  simp only[Yq,List.length_singleton];omega
def bf.mJ{l:PV}{p:World}{F:Int}{m s:Nat}(h:bf d a f e b l c)(M:c.grownBy p l.gv.ownBlock)(O:p.ownsRow 0 3 1 (.slice (some ⟨m,0,none⟩) (b.o.length+1) s) (b.o.length+1) (b.o.map (Value.int .i64)++[Value.int .i64 F]))(w:l.gv.ownBlock=some m\/m=c.heap.size)(a0:m<p.heap.size) :
  bf d a f (e+1) { b with o:=b.o++[F] } { l with gv:=.slice (some ⟨m,0,none⟩) (b.o.length+1) s } (p.setCell ⟨a,15,none⟩ (.slice (some ⟨m,0,none⟩) (b.o.length+1) s)):=by
 have C:=eJ M;have D:ai [a] p (p.setCell ⟨a,15,none⟩ (.slice (some ⟨m,0,none⟩) (b.o.length+1) s)):=(ah [a] p).O (p:=⟨a,15,none⟩) (by simp) _;have E:=h.K;have z:m≠a:=by
  rcases w with j|j
  .intro k;exact h.H.g (by rw[j,k])
  .have:=E a (Y8 (by simp[PV.a5]));omega
 have u:∀g,g∈l.a5 a\/g∈l.aC->l.gv.ownBlock≠some g->m≠g:=by
  intro g i N k;rcases w with j|j
  .exact N (by rw[j,k])
  .have:=E g i;omega
 have r:ai (l.gv.ownBlock.toList++[a]) c (p.setCell ⟨a,15,none⟩ (.slice (some ⟨m,0,none⟩) (b.o.length+1) s)):=C.cons D (λR n=>by simp_all) (λR n=>by simp_all);have t:∀g,l.gv.ownBlock≠some g->g≠a->g ∉ l.gv.ownBlock.toList++[a]:=λg J K=>by simp[J,K]
 have x:∀g∈l.aC,l.gv.ownBlock≠some g/\g≠a:=λg i=>⟨λk=>h.bg g i (jh k),λk=>h.bg g i (by rw[k];simp[PV.a5])⟩;have L:p.heap[a]? = c.heap[a]?:=C.i a (aj h.I) (by simpa using h.H.g);refine⟨bu (i:=15) (L.trans h.I) _,aX h.e r λg i=>t g (h.H.rg g i) (λk=>h.H.r (by rw[i,k])),aX h.g r λg i=>t g (h.H.ng g i) (λk=>h.H.n (by rw[i,k])),aX h.u r λg i=>t g (h.H.pg g i) (λk=>h.H.p (by rw[i,k])),?_,h.ak,?_,?_,?_,?_,λg o=>Yr (h.al g o) r.F,h.fin,h.b1,h.b5,?_,h.cn⟩
 .have:=aX O D (λg i=>by rw[dZ]at i;simp at i;subst i;simpa using z);unfold dQ;simpa using this
 .intro B S G P A;obtain⟨H,I⟩:=h.et B S G P A;have v:=λg i=>x g (hr A i);exact⟨H.aC r λg i=>t g (v g (Y8 i)).1 (v g (Y8 i)).2,I.aC r λg i=>t g (v g (Ya i)).1 (v g (Ya i)).2⟩
 .refine⟨h.H.r,h.H.n,h.H.p,?_,h.H.rn,h.H.rp,?_,h.H.np,?_,?_⟩
  .simp[dZ,z]
  .intro g i k;exact u g (Y8 (hL i)) (h.H.rg g i) (by simpa[dZ]using k)
  .intro g i k;exact u g (Y8 (ha i)) (h.H.ng g i) (by simpa[dZ]using k)
  .intro g i k;exact u g (Y8 (io i)) (h.H.pg g i) (by simpa[dZ]using k)
 .intro g i n;have q:g∈l.aC:=i;unfold PV.a5 at n;simp only[dZ,Yg,Yn,Option.mem_toList,Yu]at n;rcases n with j|j|j|j|j
  .exact(x g q).2 j
  .exact h.bg g q (hL j)
  .exact h.bg g q (ha j)
  .exact h.bg g q (io j)
  .exact u g (Ya q) (x g q).1 j
 .intro g i o;rcases i with n|i
  .unfold PV.a5 at n;simp only[dZ,Yg,Yn,Option.mem_toList,Yu]at n;rcases n with j|j|j|j|j
   .exact h.aZ g (Y8 (by rw[j];simp[PV.a5])) o
   .exact h.aZ g (Y8 (hL j)) o
   .exact h.aZ g (Y8 (ha j)) o
   .exact h.aZ g (Y8 (io j)) o
   .rcases w with y|y
    .exact h.aZ g (Y8 (jh (by rw[y,j]))) o
    .have:=h.al g o;omega
  .exact h.aZ g (Ya i) o
 .have:=h.aP;unfold ac.sz at *
  simp only[Yq,List.length_singleton];omega
def bf.ms{l:PV}{r:World}{q:List bi}{m u:Nat}(h:bf d a f e b l c)(N:c.grownBy r l.pv.ownBlock)(P:r.ownsRow 0 288 5 (.slice (some ⟨m,0,none⟩) (b.u.length+q.length) u) (b.u.length+q.length) (b.u.flatMap eg++q.flatMap eg))(z:l.pv.ownBlock=some m\/m=c.heap.size)(a1:m<r.heap.size) :
  bf d a f (e+q.length) { b with u:=b.u++q } { l with pv:=.slice (some ⟨m,0,none⟩) (b.u.length+q.length) u } (r.setCell ⟨a,9,none⟩ (.slice (some ⟨m,0,none⟩) (b.u.length+q.length) u)):=by
 have F:=eJ N;have G:ai [a] r (r.setCell ⟨a,9,none⟩ (.slice (some ⟨m,0,none⟩) (b.u.length+q.length) u)):=(ah [a] r).O (p:=⟨a,9,none⟩) (by simp) _;have H:=h.K;have C:m≠a:=by
  rcases z with j|j
  .intro k;exact h.H.p (by rw[j,k])
  .have:=H a (Y8 (by simp[PV.a5]));omega
 have w:∀g,g∈l.a5 a\/g∈l.aC->l.pv.ownBlock≠some g->m≠g:=by
  intro g i O k;rcases z with j|j
  .exact O (by rw[j,k])
  .have:=H g i;omega
 have t:ai (l.pv.ownBlock.toList++[a]) c (r.setCell ⟨a,9,none⟩ (.slice (some ⟨m,0,none⟩) (b.u.length+q.length) u)):=F.cons G (λS o=>by simp_all) (λS o=>by simp_all);have v:∀g,l.pv.ownBlock≠some g->g≠a->g ∉ l.pv.ownBlock.toList++[a]:=λg y L=>by simp[y,L]
 have A:∀g∈l.aC,l.pv.ownBlock≠some g/\g≠a:=λg i=>⟨λk=>h.bg g i (io k),λk=>h.bg g i (by rw[k];simp[PV.a5])⟩;have M:r.heap[a]? = c.heap[a]?:=F.i a (aj h.I) (by simpa using h.H.p);refine⟨bu (i:=9) (M.trans h.I) _,aX h.e t λg i=>v g (h.H.rp g i) (λk=>h.H.r (by rw[i,k])),aX h.g t λg i=>v g (h.H.np g i) (λk=>h.H.n (by rw[i,k])),?_,h.o.aC t λg i=>v g (λk=>h.H.pg g k i) (λk=>h.H.g (by rw[i,k])),h.ak,?_,?_,?_,?_,λg p=>Yr (h.al g p) t.F,h.fin,h.b1,h.b5,?_,h.cn⟩
 .have:=aX P G (λg i=>by rw[dZ]at i;simp at i;subst i;simpa using C);simpa using this
 .intro E a0 I R D;obtain⟨J,K⟩:=h.et E a0 I R D;have x:=λg i=>A g (hr D i);exact⟨J.aC t λg i=>v g (x g (Y8 i)).1 (x g (Y8 i)).2,K.aC t λg i=>v g (x g (Ya i)).1 (x g (Ya i)).2⟩
 .refine⟨h.H.r,h.H.n,?_,h.H.g,h.H.rn,?_,h.H.rg,?_,h.H.ng,?_⟩
  .simp[dZ,C]
  .intro g i k;exact w g (Y8 (hL i)) (h.H.rp g i) (by simpa[dZ]using k)
  .intro g i k;exact w g (Y8 (ha i)) (h.H.np g i) (by simpa[dZ]using k)
  .intro g i k;exact w g (Y8 (jh k)) (λy=>h.H.pg g y k) (by simpa[dZ]using i)
 .intro g i o;have s:g∈l.aC:=i;unfold PV.a5 at o;simp only[dZ,Yg,Yn,Option.mem_toList,Yu]at o;rcases o with j|j|j|j|j
  .exact(A g s).2 j
  .exact h.bg g s (hL j)
  .exact h.bg g s (ha j)
  .exact w g (Ya s) (A g s).1 j
  .exact h.bg g s (jh j)
 .intro g i p;rcases i with o|i
  .unfold PV.a5 at o;simp only[dZ,Yg,Yn,Option.mem_toList,Yu]at o;rcases o with j|j|j|j|j
   .exact h.aZ g (Y8 (by rw[j];simp[PV.a5])) p
   .exact h.aZ g (Y8 (hL j)) p
   .exact h.aZ g (Y8 (ha j)) p
   .rcases z with B|B
    .exact h.aZ g (Y8 (io (by rw[B,j]))) p
    .have:=h.al g p;omega
   .exact h.aZ g (Y8 (jh j)) p
  .exact h.aZ g (Ya i) p
 .have:=h.aP;unfold ac.sz at *
  simp only[Yq,List.length_singleton];omega
variable {X d : Nat -> Prop} {c e : Nat} {t : List UInt8} {a : ac} {w : World}
def IW:(prog.info? 117).map (λa=>(a.zero,a.size,a.bytes))=some (some (.agg #[.int .i64 0,.int .i64 0,.int .i64 0,.slice none 0 0,.slice none 0 0,.int .i64 0,.string ⟨#[]⟩,.int .i64 0]),8,104):=by kernel_rfl
def bf.t{b:PV}{g:World}(d:bf X c t e a b w)(f:ai [] w g):bf X c t e a b g:=d.f0 f (by simp) (λ_=>Y8) (λh i=>Yr (d.al h i) f.F)
def bX{w:World}{c:Nat}{d:TypeId}{f b:Nat}{v:Value}{g:List Value}(e:w.ownsRow c d f v b g):∃ad a,v=.slice ad b a:=by
 rcases e.2 with⟨rfl,rfl⟩|⟨i,a,h,rfl,_⟩
 .exact⟨none,0,rfl⟩
 .exact⟨_,a,rfl⟩
def bf.h0{b:PV}{g:World}{f:Option Nat}(d:bf X c t e a b w)(i:w.grownBy g f)(j:f≠some c):g.heap[c]? = some (lu t a.s (pu b a)):=(i.block c (aj d.I) (λh=>j h.symm)).trans d.I
def zY{b:Nat}{a c d e f g h i:Value}{k:TypeId}{w:World}(j:w.heap[b]? = some (.cells #[a,c,d,e,f,g,h,i] k)) :
  w.cell? ⟨b,0,none⟩=some a/\w.cell? ⟨b,1,none⟩=some c/\w.cell? ⟨b,2,none⟩=some d/\w.cell? ⟨b,3,none⟩=some e/\w.cell? ⟨b,4,none⟩=some f/\w.cell? ⟨b,5,none⟩=some g/\w.cell? ⟨b,6,none⟩=some h/\w.cell? ⟨b,7,none⟩=some i/\(∀l,w.frozen? ⟨b,l,none⟩=false)/\b<w.heap.size:=by
 refine⟨?_,?_,?_,?_,?_,?_,?_,?_,?_,aj j⟩<;>simp[World.cell?,World.frozen?,j]
def bJ(b:bc)(a:ac):ac:={ a with e:=a.e++[b] }
def CJ(p:bt d c t e a w)(b6:∀b,X b->d b)(z:bc)(g h:Value)(S:dQ g z.a0 w)(D:dQ h z.bY w)(b7:∀b,g.ownBlock=some b\/h.ownBlock=some b->d b/\¬X b)(e7:e<=1000000000) :
  Calls prog 46 #[.pointer (some ⟨c,0,none⟩),.agg (kJ z (g,h)).toArray] w λb3 f=>b3=.returned (.int .i64 a.e.length)/\bt X c t (e+1) (bJ z a) f/\Fr d w f:=by
 obtain⟨b0,j⟩:=p;obtain⟨d3,e0,e1,e2,e3,e4,b1,e5,e6,d4,d5,d6,d7,d8,d9,f0,f1⟩:=j.r;obtain⟨d1,b8,c7,c8,c9⟩:=info_parts IW;have P:=j.aP;unfold ac.sz at P;have b9:a.e.length+1<=maxLen:=by unfold maxLen;omega
 have c0:(a.e.length+1)*104<=140737488355328:=by omega
 have c1:(a.e.length:Int)+1-1=a.e.length:=by omega
 have d0:(Value.agg #[.int .i64 0,.int .i64 0,.int .i64 0,.slice none 0 0,.slice none 0 0,.int .i64 0,.string ⟨#[]⟩,.int .i64 0]).cells.size=8:=by decide
 obtain⟨u,x,y,M,N,o,A,m⟩:=z;have e8:g.oneCell'=true:=by obtain⟨_,_,rfl⟩:=bX S;rfl
 have e9:h.oneCell'=true:=by obtain⟨_,_,rfl⟩:=bX D;rfl
 have c5:∀a6∈kJ ⟨u,x,y,M,N,o,A,m⟩ (g,h),a6.oneCell'=true:=by
  intro a6 a3;simp[kJ]at a3;rcases a3 with rfl|rfl|rfl|rfl|rfl|rfl|rfl|rfl<;>first|rfl|assumption
 have d2:∀a4 a5,ai [] w (((w.alloc a4).alloc a5).drew):=λa4 a5=>(((ah [] w).d _).d _).ae;have i:=Z (Yp j (Yp S (Yp D (Yp b7 P))));have l:=Z d2;obtain⟨gQ,n,s⟩:=bX j.e;rw[s]at b1;have c3:(Value.slice gQ a.e.length n).ownBlock≠some c:=by rw[<-s];exact j.H.r
 have c4:∀b,(Value.slice gQ a.e.length n).ownBlock=some b->b<w.heap.size:=λb D=>(gH j.e (by rw[s];exact D)).2;have k:=Z (Yp s (Yp c3 c4));have c6:=Z (s▸j.e);have a8:=Z b6;show Calls _ _ #[_,.agg #[.int .i64 u,.int .i64 x,.int .i64 y,g,h,.int .i64 o,.string ⟨A.toArray⟩,.int .i64 m]] _ _;go_in;go_wp2_with fail;refine cR (λf=>f.cell? ⟨c,7,none⟩=some (.slice gQ a.e.length n)/\f.cell? ⟨w.heap.size,0,none⟩=some (.int .i64 u)/\f.cell? ⟨w.heap.size,1,none⟩=some (.int .i64 x)/\f.cell? ⟨w.heap.size,2,none⟩=some (.int .i64 y)/\f.cell? ⟨w.heap.size,3,none⟩=some g/\f.cell? ⟨w.heap.size,4,none⟩=some h/\f.cell? ⟨w.heap.size,5,none⟩=some (.int .i64 o)/\f.cell? ⟨w.heap.size,6,none⟩=some (.string ⟨A.toArray⟩)/\f.cell? ⟨w.heap.size,7,none⟩=some (.int .i64 m)) (L:=12) (by kernel_rfl) rfl (by kernel_rfl) (by kernel_rfl) ?_ (λR=>?_)
 .go_keep
 refine bH [0,1,2,3,4,5,6] ?_;iterate 7 (refine bO (v:=?_) rfl (by kernel_rfl) (λ_ _ _ H=>H) (by kernel_rfl) (by assumption) ?_ ?_;rotate_left;focus (intro w I;(try dsimp only at I);go_simp;(try with_reducible rfl));(try simp only[aK,aL,List.set]))
 refine bI ?_;refine cj 7 (by kernel_rfl) rfl λO q=>?_;go_simp;refine q.out _ _ ?_ (λR=>?_)
 .go_keep
 (try simp only[aK,aL,List.set]);refine cj 8 (by kernel_rfl) rfl λO q=>?_;(refine step_append_lies _ (by rfl) _ _ _ (by rfl) 0 117 d1 _ 8 104 underlying58 b8 c7 c8 c9 d0 (by omega) (.slice gQ a.e.length n) a.e.length (mo a.e b0.ls) (by rfl) (aX c6.b (l.b _ _) (by simp)) ⟨w.heap.size+1,0,none⟩ 1 1 (kJ ⟨u,x,y,M,N,o,A,m⟩ (g,h)) (by rfl) (by rfl) (World.news_of_block (cs:=(kJ ⟨u,x,y,M,N,o,A,m⟩ (g,h)).toArray) (t:=117) (fr:=(0,0)) (aJ (w:=w.alloc _) (by simp))) c5 (by omega) b9 c0 (by omega) (w.heap.size+2) (by simp) ?_;intro b5 b2 B a2 E a0 c2;have r:=(i.b.1.t (l.b _ _)).h0 E k.b.2.1;have g2:B.cell? ⟨c,7,none⟩=some (.slice gQ a.e.length n):=(by rw[<-k.b.1];exact aR r rfl);have g3:=cF r;have g4:=aj r;obtain⟨f2,f3,f4,f5,f6,f7,f8,f9,g0,g1⟩:=zY (w:=B) (b:=w.heap.size) ((E.block _ (by simp;omega) (λG=>by have:=k.b.2.2 _ G.symm;omega)).trans ((Below.heap_alloc _ _ _ (by simp)).trans (aJ rfl)));have C:=Z (Yp E (Yp a0 (Yp a2 r)));clear E a0 a2 r);refine q.out _ _ ?_ (λR=>?_)
 .go_keep
 (try simp only[aK,aL,List.set]);refine bH [9,10,11] ?_;iterate 3 (refine bO (v:=?_) rfl (by kernel_rfl) (λ_ _ _ H=>H) (by kernel_rfl) (by assumption) ?_ ?_;rotate_left;focus (intro w I;(try dsimp only at I);go_simp;(try with_reducible rfl));(try simp only[aK,aL,List.set]))
 refine bI ?_;refine cP (by kernel_rfl) rfl λO q=>?_;go_simp;refine q.out _ _ ?_;(try simp only[aK,aL,List.set]);have a1:=C.b.1;rw[<-k.b.1]at a1;have a9:=Z ((i.b.1.t (l.b _ _)).mK (X:=X) a8.b (i.b.2.1.aC (l.b _ _) (by simp)) (i.b.2.2.1.aC (l.b _ _) (by simp)) i.b.2.2.2.1 a1 C.b.2.2.1 (by rw[k.b.1];exact C.b.2.1.imp id (λG=>by rw[G];simp)) c2);have a7:U (Fr d w (B.setCell ⟨c,7,none⟩ (.slice (some ⟨b5,0,none⟩) (a.e.length+1) b2))):=by
  have b4:Fr d w B:=((iH d w).b6 (l.b _ _) (by simp)).b6 (eJ C.b.1) (λK F J=>absurd J (i.b.1.aZ K (Y8 (hL (by rw[k.b.1];simpa using F)))));exact b4.b6 ((ah [c] B).O (p:=⟨c,7,none⟩) (by simp) _) (λK F J=>absurd J (i.b.1.aZ K (Y8 (by simp only[Yc]at F;rw[F];simp[PV.a5]))))
 go_wp2;go_ret;refine⟨?_,⟨_,a9.b⟩,a7.b⟩;simp[c1]
variable {d l : Nat -> Prop} {c g : Nat} {h : List UInt8} {a : ac} {b : World}
def sU{i:Type}{f:i->List Value}{k:Nat}(h:∀c,(f c).length=k):∀(d:List i) (a b:Nat) (c e:i) (v:Value),b<k->d[a]? = some c->f e=(f c).set b v->(d.flatMap f).set (a*k+b) v=(d.set a e).flatMap f:=by
 intro d;induction d with
 |nil=>intro a b c e v _ g;simp at g
 |cons n d m=>
  intro a b c e v l g j;cases a with
  |zero=>
   simp at g;subst g;rw[Nat.zero_mul,Nat.zero_add,YD,List.set_cons_zero,YD,List.set_append_left _ _ (by rw[h];exact l),j]
  |succ a=>
   rw[YD,List.set_cons_succ,YD,List.set_append_right _ _ (by rw[h,Nat.succ_mul];omega),h,show (a+1)*k+b-k=a*k+b by rw[Nat.succ_mul];omega,m a b c e v l (by simpa using g) j]
def tA{f:Nat}{g:TypeId}{k c a d:Nat}{e:List Value}(h:b.ownsRow f g k (.slice (some ⟨a,0,none⟩) c d) c e){i:Nat}(x:i<e.length)(v:Value):(b.setCell ⟨a,i,none⟩ v).ownsRow f g k (.slice (some ⟨a,0,none⟩) c d) c (e.set i v):=by
 refine⟨by rw[YF];exact h.1,?_⟩;rcases h.2 with⟨l,w⟩|⟨u,s,t,j,m,n,o,p,q,r⟩
 .simp at l
 .simp at j;obtain⟨rfl,rfl⟩:=j;refine Ya ⟨a,d,_,rfl,m,bu n v,o,p,?_,?_⟩
  .simpa using q
  .rw[<-r];simp[List.take_set]
def gs(a:ac)(b:Nat)(c n:Int):ac:={ a with g:=a.g.set b { a.g.getD b gT with ag:=c,n:=n } }
def bf.l5{o:PV}(j:bf d c h g a o b){i m D:Nat}(w:i<a.g.length)(y:o.nv=.slice (some ⟨m,0,none⟩) a.g.length D)(q n:Int) :
  bf d c h g (gs a i q n) o ((b.setCell ⟨m,i*4+1,none⟩ (.int .i64 q)).setCell ⟨m,i*4+2,none⟩ (.int .i64 n)):=by
 have F:o.nv.ownBlock=some m:=by rw[y];rfl
 have p:ai [m] b ((b.setCell ⟨m,i*4+1,none⟩ (.int .i64 q)).setCell ⟨m,i*4+2,none⟩ (.int .i64 n)):=((ah [m] b).O (p:=⟨m,i*4+1,none⟩) (by simp) _).O (p:=⟨m,i*4+2,none⟩) (by simp) _;have r:∀e,o.nv.ownBlock≠some e->e ∉ [m]:=λe l x=>by
  simp only[Yc]at x;exact l (by rw[F,x])
 have z:∀e∈o.aC,o.nv.ownBlock≠some e:=λe l s=>j.bg e l (ha s);have K:(a.g.flatMap hz).length=a.g.length*4:=j.g.1;refine⟨(p.i c (aj j.I) (r c j.H.n)).trans j.I,aX j.e p λe l=>r e (j.H.rn e l),?_,aX j.u p λe l=>r e (λs=>j.H.np e s l),j.o.aC p λe l=>r e (λs=>j.H.ng e s l),j.ak,?_,j.H,j.bg,j.aZ,λe H=>Yr (j.al e H) p.F,j.fin,j.b1,j.b5,?_,j.cn⟩
 .have E:a.g[i]? = some (a.g.getD i gT):=by simp[w]
  have A:=j.g;rw[y]at A ⊢;have t:=tA (tA A (i:=i*4+1) (by omega) (.int .i64 q)) (i:=i*4+2) (by rw[YF];omega) (.int .i64 n);rw[sU (f:=hz) (k:=4) (λ_=>rfl) a.g i 1 (a.g.getD i gT) { a.g.getD i gT with ag:=q } _ (by omega) E rfl]at t;rw[sU (f:=hz) (k:=4) (λ_=>rfl) _ i 2 { a.g.getD i gT with ag:=q } { a.g.getD i gT with ag:=q,n:=n } _ (by omega) (by simp[w]) rfl]at t;rw[List.set_set]at t;unfold gs;simp only[YF];exact t
 .intro I J v G u;obtain⟨B,C⟩:=j.et I J v G u;exact⟨B.aC p λe l=>r e (z e (hr u (Y8 l))),C.aC p λe l=>r e (z e (hr u (Ya l)))⟩
 .have:=j.aP;unfold ac.sz gs at *
  simp only[YF];exact this
def bf.l3{o:PV}(e:bf d c h g a o b):bf d c h (g+1) { a with D:=a.D+1 } o (b.setCell ⟨c,13,none⟩ (.int .i64 (a.D+1))):=by
 have p:=bu (i:=13) e.I (.int .i64 (a.D+1));have C:=e.a4 (s:=a.s) (w':=b) e.I (ah _ _) e.fin e.b1;have i:ai [c] b (b.setCell ⟨c,13,none⟩ (.int .i64 (a.D+1))):=(ah [c] b).O (p:=⟨c,13,none⟩) (by simp) _;have m:∀{v:Value},v.ownBlock≠some c->∀f,v.ownBlock=some f->f ∉ [c]:=λz f l k=>by
  simp only[Yc]at k;exact z (by rw[l,k])
 have t:∀j,j∈o.aC->j ∉ [c]:=λj p k=>by
  simp only[Yc]at k;exact e.bg j p (by rw[k];simp[PV.a5])
 refine⟨p,aX e.e i (m e.H.r),aX e.g i (m e.H.n),aX e.u i (m e.H.p),e.o.aC i (m e.H.g),e.ak,?_,e.H,e.bg,e.aZ,λj A=>Yr (e.al j A) i.F,e.fin,e.b1,e.b5,?_,?_⟩
 .intro r B u y q;obtain⟨w,x⟩:=e.et r B u y q;exact⟨w.aC i λf l=>t f (hr q (Y8 l)),x.aC i λf l=>t f (hr q (Ya l))⟩
 .have:=e.aP;have:=e.cn;unfold ac.sz at *
  simp only;omega
 .have:=e.cn;simp only;omega
def dA(b:List UInt8)(d:Int)(a:ac):ac:=let c:=if 0<=bz a b then gs a (bz a b).toNat 0 d else a
 { c with D:=c.D+1 }
def cX(b:List UInt8)(c:Int)(a:ac):ac:=if 0<=bz a b then gs a (bz a b).toNat 1 c else a
def AM{f:PV}(m:bf d c h g a f b){e q l i j:Nat}(n:f.nv=.slice (some ⟨e,0,none⟩) q l)(r s:Value):Fr d b ((b.setCell ⟨e,i,none⟩ r).setCell ⟨e,j,none⟩ s):=
 si (((ah [e] b).O (p:=⟨e,i,none⟩) (by simp) _).O (p:=⟨e,j,none⟩) (by simp) _) λo k _=>by
  simp only[Yc]at k;exact m.aZ o (Y8 (ha (by rw[n,k];rfl)))
def oI(w:bt d c h g a b)(e:List UInt8)(f:Int)(v:g<=1000000000):Calls prog 150 #[.pointer (some ⟨c,0,none⟩),.string ⟨e.toArray⟩,.int .i64 f] b (GP d c h g (cX e f a) (.tuple #[]) b):=by
 obtain⟨q,j⟩:=w;obtain⟨y,F,G,H,I,J,K,t,L,z,A,B,C,D,E,P,a1⟩:=j.r;have o:=Z (ol j v e);by_cases l:0<=bz a e
 .have r:=rm l;obtain⟨N,M,p,-,a2,a3,-,a4,a5,R⟩:=ow j r;have n:U (cX e f a=gs a (bz a e).toNat 1 f):=Y9 l;have k:=Z (Yp (j.l5 r p 1 f) (AM (i:=(bz a e).toNat*4+1) (j:=(bz a e).toNat*4+2) j p (.int .i64 1) (.int .i64 f)));rw[p]at t o;generalize S:bz a e=m at *
  obtain⟨m,rfl⟩:∃s:Nat,m=s:=⟨m.toNat,by omega⟩;simp only[Int.toNat_natCast]at *
  have a0:(m:Int)<(a.g.length:Int):=by omega
  go_in;go_wp2_with fail;refine o.b.mono ?_;rintro u x ⟨rfl,rfl⟩;go_wp2;go_end0;rw[n.b];exact⟨rfl,⟨q,k.b.1⟩,k.b.2⟩
 .have n:U (cX e f a=a):=Y2 l;have O:¬(0<=bz a e):=l;have k:=Z j;go_in;go_wp2_with fail;refine o.b.mono ?_;rintro u x ⟨rfl,rfl⟩;go_wp2;go_end0;rw[n.b];exact⟨rfl,⟨q,k.b⟩,iH _ _⟩
def uH{e:PV}(f:bf d c h g a e b){i:Nat}(j:Value):Fr d b (b.setCell ⟨c,i,none⟩ j):=f.fr ((ah [c] b).O (p:=⟨c,i,none⟩) (by simp) _)
def Bl(y:bt d c h g a b)(e:List UInt8)(j:Int)(x:g<=1000000000):Calls prog 145 #[.pointer (some ⟨c,0,none⟩),.string ⟨e.toArray⟩,.int .i64 j] b (GP d c h (g+1) (dA e j a) (.tuple #[]) b):=by
 obtain⟨q,f⟩:=y;obtain⟨A,H,I,J,K,L,M,u,N,B,C,D,E,F,G,a3,a7⟩:=f.r;have o:=Z (ol f x e);have w:=f.aP;have P:=f.cn.1;unfold ac.sz at w;have R:IntKind.i64.wrap (a.D+1)=a.D+1:=by rw[IntKind.wrap_i64];omega
 have a1:-9223372036854775808<=a.D+1:=by omega
 have a2:a.D+1<=9223372036854775807:=by omega
 by_cases l:0<=bz a e
 .have r:=rm l;obtain⟨S,O,p,-,a8,a9,-,b0,b1,a4⟩:=ow f r;have n:U (dA e j a = { gs a (bz a e).toNat 0 j with D:=a.D+1 }):=by
   show _=_;unfold dA;rw[Y9 l];rfl
  have t:=f.l5 r p 0 j;have k:=Z (Yp t.l3 ((AM (i:=(bz a e).toNat*4+1) (j:=(bz a e).toNat*4+2) f p (.int .i64 0) (.int .i64 j)).a (uH t (i:=13) (.int .i64 (a.D+1)))));rw[p]at u o;generalize a5:bz a e=m at *
  obtain⟨m,rfl⟩:∃s:Nat,m=s:=⟨m.toNat,by omega⟩;simp only[Int.toNat_natCast]at *
  have a6:(m:Int)<(a.g.length:Int):=by omega
  go_in;go_wp2_with fail;refine o.b.mono ?_;rintro v z ⟨rfl,rfl⟩;go_wp2;go_end0;rw[n.b];exact⟨rfl,⟨q,k.b.1⟩,k.b.2⟩
 .have n:U (dA e j a = { a with D:=a.D+1 }):=by
   show _=_;unfold dA;rw[Y2 l]
  have a0:¬(0<=bz a e):=l;have k:=Z (Yp f.l3 (uH f (i:=13) (.int .i64 (a.D+1))));go_in;go_wp2_with fail;refine o.b.mono ?_;rintro v z ⟨rfl,rfl⟩;go_wp2;go_end0;rw[n.b];exact⟨rfl,⟨q,k.b.1⟩,k.b.2⟩
def iQ(b nh:Int)(a:ac):ac:=if a.s.e=0/\nh<=b then bo 5 a.s.x.m a else a
def ar(b nh:Int)(a:ac):ac:=iQ b nh (if a.s.e=0/\a.s.x.f=5 then da a else a)
def kC(A:bt d c h g a b)(f nh:Int):Calls prog 85 #[.pointer (some ⟨c,0,none⟩),.int .i64 f,.int .i64 nh] b (GP d c h g (ar f nh a) (.tuple #[]) b):=by
 by_cases v:a.s.e=0/\a.s.x.f=5
 .have m:U (ar f nh a=iQ f nh (da a)):=by show _=_;unfold ar;rw[Y9 v]
  have I:=Z (nY A);obtain⟨l,q⟩:=A;obtain⟨J,-,-,-,-,-,-,-,-,-,D,-,-,-,-,G,H⟩:=q.r;have F:(a.s.e==0)=true:=by rw[v.1];rfl
  have L:((a.s.x.f:Int)==5)=true:=by rw[v.2];rfl
  go_in;go_wp2_with fail;refine I.b.mono ?_;rintro E P ⟨rfl,⟨l,q⟩,N⟩;obtain⟨-,-,K,-,-,-,-,-,-,-,D,-,-,-,-,G,H⟩:=q.r;have o:=Z q;have n:=Z N;generalize da a=p at *
  by_cases j:p.s.e=0
  .have y:(p.s.e==0)=true:=by rw[j];rfl
   by_cases r:nh<=f
   .have i:U (ar f nh a=bo 5 p.s.x.m p):=by
     show _=_;rw[m.b];unfold iQ;rw[Y9 ⟨j,r⟩]
    have w:=Z (iP ⟨l,o.b⟩ 5 p.s.x.m);go_wp2_with fail;refine w.b.mono ?_;rintro E O ⟨rfl,B,z⟩;have t:=Z (Yp B z);go_wp2;go_end0;rw[i.b];exact⟨rfl,t.b.1,n.b.a t.b.2⟩
   .have M:decide (nh<=f)=false:=by simpa using r
    have i:U (ar f nh a=p):=by
     show _=_;rw[m.b];unfold iQ;rw[Y2 (λk=>r k.2)]
    go_wp2;go_end0;rw[i.b];exact⟨rfl,⟨l,o.b⟩,n.b⟩
  .have y:(p.s.e==0)=false:=by rw[Yi];exact j
   have i:U (ar f nh a=p):=by
    show _=_;rw[m.b];unfold iQ;rw[Y2 (λk=>j k.1)]
   first
    |exact absurd C.out j
    |(clear j;go_wp2;go_end0;rw[i.b];exact⟨rfl, ⟨l, o.b⟩, n.b⟩)
 .have m:U (ar f nh a=iQ f nh a):=by show _=_;unfold ar;rw[Y2 v]
  obtain⟨l,q⟩:=A;obtain⟨J,-,K,-,-,-,-,-,-,-,D,-,-,-,-,G,H⟩:=q.r;have o:=Z q;have n:=Z (iH d b);by_cases u:a.s.e=0
  .have F:(a.s.e==0)=true:=by rw[u];rfl
   have L:((a.s.x.f:Int)==5)=false:=by rw[Yi];intro k;exact v ⟨u,by omega⟩
   have C:=Z u;go_in;by_cases j:a.s.e=0
   .have y:(a.s.e==0)=true:=by rw[j];rfl
    by_cases r:nh<=f
    .have i:U (ar f nh a=bo 5 a.s.x.m a):=by
      show _=_;rw[m.b];unfold iQ;rw[Y9 ⟨j,r⟩]
     have w:=Z (iP ⟨l,o.b⟩ 5 a.s.x.m);go_wp2_with fail;refine w.b.mono ?_;rintro E O ⟨rfl,B,z⟩;have t:=Z (Yp B z);go_wp2;go_end0;rw[i.b];exact⟨rfl,t.b.1,n.b.a t.b.2⟩
    .have M:decide (nh<=f)=false:=by simpa using r
     have i:U (ar f nh a=a):=by
      show _=_;rw[m.b];unfold iQ;rw[Y2 (λk=>r k.2)]
     go_wp2;go_end0;rw[i.b];exact⟨rfl,⟨l,o.b⟩,n.b⟩
   .have y:(a.s.e==0)=false:=by rw[Yi];exact j
    have i:U (ar f nh a=a):=by
     show _=_;rw[m.b];unfold iQ;rw[Y2 (λk=>j k.1)]
    first
     |exact absurd C.b j
     |(clear j;go_wp2;go_end0;rw[i.out];exact⟨rfl, ⟨l, o.out⟩, n.out⟩)
  .have F:(a.s.e==0)=false:=by rw[Yi];exact u
   have i:U (ar f nh a=a):=by
    show _=_;rw[m.b];unfold iQ;rw[Y2 (λk=>u k.1)]
   go_in;go_wp2;go_end0;rw[i.b];exact⟨rfl,⟨l,o.b⟩,n.b⟩
section
variable {d f g h i j:Value}{x:ee}
variable {c l : Nat -> Prop} {b k : Nat} {t : List UInt8} {a : ac} {w : World}
abbrev rP(w:World)(a:Nat)(d f g h i j:Value):World:=(((((w.setCell ⟨a,0,none⟩ d).setCell ⟨a,1,none⟩ f).setCell ⟨a,2,none⟩ g).setCell ⟨a,3,none⟩ h).setCell ⟨a,4,none⟩ i).setCell ⟨a,5,none⟩ j
def xC(w:World)(a:Nat)(d f g h i j:Value):ai [a] w (rP w a d f g h i j):=
 ((((((ah [a] w).O (p:=⟨a,0,none⟩) (by simp) d).O (p:=⟨a,1,none⟩) (by simp) f).O (p:=⟨a,2,none⟩) (by simp) g).O (p:=⟨a,3,none⟩) (by simp) h).O (p:=⟨a,4,none⟩) (by simp) i).O (p:=⟨a,5,none⟩) (by simp) j
def bt.hO{e:Nat}(l:bt c b t k a w)(m:c e):bt c b t k a (rP w e d f g h i j):=l.h (xC w e d f g h i j) (by simpa using m)
def Fr.hO{b:World}{a:Nat}(e:Fr c b w)(l:b.heap.size<=a):Fr c b (rP w a d f g h i j):=e.b6 (xC w a d f g h i j) (λm k _=>by simp at k;omega)
abbrev oZ:Obj:=.cells #[.int .i64 0,.string ⟨#[]⟩,.int .i64 0,.int .i64 0,.int .i64 0,.int .i64 0] 112
abbrev oW(x:ee):Obj:=.cells (dt x) 112
def AX:(prog.info? 119).map (λa=>(a.zero,a.size,a.bytes))=some (some (.agg #[.string ⟨#[]⟩,.int .i64 0,.int .i64 0,.int .i64 0]),4,40):=by kernel_rfl
def aG(t:List UInt8)(b:Int)(a:ac):ee×ac:=
 if(cJ t a).2.s.e≠0 then cJ t a
 else if 0<=bz (cJ t a).2 (cJ t a).1.text then ((cJ t a).1,bo 6 (cJ t a).1.m (cJ t a).2)
 else ((cJ t a).1,{ (cJ t a).2 with g:=(cJ t a).2.g++[⟨(cJ t a).1.text,b,-1,(cJ t a).1.m⟩] })
def GW(c:Nat->Prop)(b:Nat)(t:List UInt8)(k:Nat)(a:ee×ac)(w:World)(e:Ending)(d:World):Prop:=e=.returned (.agg (dt a.1))/\bt c b t k a.2 d/\Fr c w d/\a.1.text.length<=2000
def yI{a:Nat}(x:ee)(b:w.heap[a]? = some oZ):(rP w a (.int .i64 x.f) (.string ⟨x.text.toArray⟩) (.int .i64 x.m) (.int .i64 x.fin) (.int .i64 x.n) (.int .i64 x.e)).heap[a]? = some (oW x):=tK b
def JO{a:Nat}(h:w.heap[a]? = some (oW x)):(loadVar 112 ⟨a,0,none⟩).run prog w=.ok (.agg (dt x)) w:=by
 obtain⟨b,c,d,e,f,g,i,j⟩:=dX h;simp[go_sem,b,c,d,e,f,g]
def ns{c:Func}{Q:Ending->World->Prop}{a:Act}{R b:Nat}(i:c.results=#[.cell b 112])(e:a.tmps.getD b undef=.pointer (some ⟨R,0,none⟩))(g:a.defers=[])(d:w.heap[R]? = some (oW x))(h:Q (.returned (.agg (dt x))) w):bodyPost prog c Q .ret a w:=by
 refine bodyPost_ret (v:=.agg (dt x)) ?_ g h;have:=JO d;unfold results;rw[i];obtain⟨j,k,l,m,n,o,p,q⟩:=dX d;have f:a.tmps[b]?.getD undef=.pointer (some ⟨R,0,none⟩):=by simpa using e
 simp[f,go_sem,j,k,l,m,n,o]
def re(p:bt c b t k a w)(g:Int)(c8:k<=1000000000):Calls prog 142 #[.pointer (some ⟨b,0,none⟩),.int .i64 g] w (GW c b t (k+1) (aG t g a) w):=by
 have c4:=Z (zl (p.d oZ));have h6:b<w.heap.size:=by obtain⟨c3,E⟩:=p;exact aj E.I
 have f7:=Z p;go_in;go_wp2_with fail;refine c4.b.mono ?_;rintro b2 e ⟨⟨rfl,b8,a6⟩,e2⟩;have a5:w.heap.size<e.heap.size:=Yr (by simp) a6.F;have b0:e.heap[w.heap.size]? = some oZ:=((a6.i _ (by simp) kr).trans (aJ rfl));obtain⟨j5,j6,j7,j8,j9,k0,k2,k4⟩:=dX b0;have a0:=Z b0;generalize G:cJ t a=e8 at *
 obtain⟨x,d⟩:=e8;simp only at *
 have a3:=Z ((((iH c w).d oZ).a a6.az));have a9:=Z b8;obtain⟨c3,E⟩:=b8;obtain⟨f8,g5,g6,g7,g8,g9,h0,c5,h1,f9,g0,g1,g2,g3,g4,h5,h7⟩:=E.r;obtain⟨gQ,r,i⟩:=bX E.g;rw[i]at c5;have f:=Z E;have a8:=Z i;have a2:=Z G;have a1:=Z e2;by_cases m:d.s.e=0
 .have M:(d.s.e != 0)=false:=by rw[m];rfl
  have J:=Z (λH=>ol ((f.b.t ((ah [] e).d H)).t (ah [] _).ae) c8 x.text);rw[a8.b]at J;go_wp2_with fail;refine cR (λy=>y.cell? ⟨b,8,none⟩=some (.slice gQ d.g.length r)/\y.cell? ⟨e.heap.size,1,none⟩=some (.string ⟨x.text.toArray⟩)) (L:=8) (by kernel_rfl) rfl (by kernel_rfl) (by kernel_rfl) ?_ (λK=>?_)
  .go_keep
  refine bH [0,1,2,3,4,5,6] ?_;iterate 7 (refine bO (v:=?_) rfl (by kernel_rfl) (λ_ _ _ C=>C) (by kernel_rfl) (by assumption) ?_ ?_;rotate_left;focus (intro w D;(try dsimp only at D);go_simp;(try with_reducible rfl));(try simp only[aK,aL,List.set]))
  refine bI ?_;refine cj 7 (by kernel_rfl) rfl λI h=>?_;(go_simp;refine(J.b _).mono ?_;rintro b2 i6 ⟨rfl,rfl⟩);refine h.out _ _ ?_ (λK=>?_)
  .go_keep
  (try simp only[aK,aL,List.set]);refine cP (by kernel_rfl) rfl λI h=>?_;go_simp;refine h.out _ _ ?_;(try simp only[aK,aL,List.set]);have e5:=Z (λH=>(a9.b.d H).ae);by_cases a4:0<=bz d x.text
  .have z:U (aG t g a=(x,bo 6 x.m d)):=by
    show _=_;unfold aG;rw[a2.b,Y2 (by simpa using m),Y9 a4]
   have J:=Z (λH=>iP (e5.b H) 6 x.m);go_wp2_with fail;refine(J.b _).mono ?_;rintro b2 c0 ⟨rfl,e6,a7⟩;have u:c0.heap[w.heap.size]? = some oZ:=(a7.i _ (by simp;omega) (Y8 kr)).trans ((Below.heap_alloc _ _ _ a5).trans a0.b);have S:c0.heap[e.heap.size]? = some (oW x):=(a7.i _ (by simp) kr).trans (aJ rfl);obtain⟨e9,f0,f1,f2,f3,f4,f5,f6⟩:=dX u;obtain⟨h8,h9,i0,i1,i2,i3,i4,i5⟩:=dX S;have Q:=Z (Yp e6 (Yp ((a3.b.d _).ae.a a7.az.az) u));go_wp2;refine ns (R:=w.heap.size) (x:=x) (by rfl) (by rfl) rfl (yI x Q.b.2.2) ?_;rw[z.b];exact⟨rfl,(Q.b.1.hO (Y8 kr)).az.az.L (by omega),Q.b.2.1.hO (Y4 _),a1.b⟩
  .have z:U (aG t g a=(x,{ d with g:=d.g++[⟨x.text,g,-1,x.m⟩] })):=by
    show _=_;unfold aG;rw[a2.b,Y2 (by simpa using m),Y2 a4]
   have h4:¬(0<=bz d x.text):=a4;have i:=a8.b;obtain⟨e1,c9,d7,d8,d9⟩:=info_parts AX;have c7:=f.b.aP;unfold ac.sz at c7;have d0:d.g.length+1<=maxLen:=by unfold maxLen;omega
   have d1:(d.g.length+1)*40<=140737488355328:=by omega
   have e0:(Value.agg #[.string ⟨#[]⟩,.int .i64 0,.int .i64 0,.int .i64 0]).cells.size=4:=by decide
   have d5:∀b9∈hz ⟨x.text,g,-1,x.m⟩,b9.oneCell'=true:=by
    intro b9 b7;simp[hz]at b7;rcases b7 with rfl|rfl|rfl|rfl<;>rfl
   have d3:(Value.slice gQ d.g.length r).ownBlock≠some b:=by rw[<-i];exact f.b.H.n
   have d4:∀q,(Value.slice gQ d.g.length r).ownBlock=some q->q<e.heap.size/\q≠w.heap.size:=λq M=>⟨(gH f.b.g (by rw[i];exact M)).2,λm=>f.b.aZ q (Y8 (ha (by rw[i];exact M))) (by rw[m];exact kr)⟩;have d6:=Z (i▸f.b.g);have l:=Z (Yp i (Yp d3 d4));have A:=Z (λe3 e4=>((((ah [] e).d e3).ae.d e4).ae));go_wp2_with fail;refine cR (λy=>y.cell? ⟨b,8,none⟩=some (.slice gQ d.g.length r)/\y.cell? ⟨e.heap.size,1,none⟩=some (.string ⟨x.text.toArray⟩)/\y.cell? ⟨e.heap.size,2,none⟩=some (.int .i64 x.m)) (L:=17) (by kernel_rfl) rfl (by kernel_rfl) (by kernel_rfl) ?_ (λK=>?_)
   .go_keep
   refine bH [0,1,2,3,4,5,6,7,8,9,10,11] ?_;iterate 12 (refine bO (v:=?_) rfl (by kernel_rfl) (λ_ _ _ C=>C) (by kernel_rfl) (by assumption) ?_ ?_;rotate_left;focus (intro w D;(try dsimp only at D);go_simp;(try with_reducible rfl));(try simp only[aK,aL,List.set]))
   refine bI ?_;refine cj 12 (by kernel_rfl) rfl λI h=>?_;go_simp;refine h.out _ _ ?_ (λK=>?_)
   .go_keep
   (try simp only[aK,aL,List.set]);refine cj 13 (by kernel_rfl) rfl λI h=>?_;(refine step_append_lies _ (by rfl) _ _ _ (by rfl) 0 119 e1 _ 4 40 underlying59 c9 d7 d8 d9 e0 (by omega) (.slice gQ d.g.length r) d.g.length (d.g.flatMap hz) (by rfl) (aX d6.b (A.b _ _) (by simp)) ⟨e.heap.size+1,0,none⟩ 1 1 (hz ⟨x.text,g,-1,x.m⟩) (by rfl) (by rfl) (World.news_of_block (cs:=(hz ⟨x.text,g,-1,x.m⟩).toArray) (t:=119) (fr:=(0,0)) (aJ (w:=(e.alloc _).drew) (by simp))) d5 (by omega) d0 d1 (by omega) (e.heap.size+2) (by simp) ?_;intro b3 b1 j b6 F b4 d2;have O:=(f.b.t (A.b _ _)).h0 F l.b.2.1;have k1:j.cell? ⟨b,8,none⟩=some (.slice gQ d.g.length r):=(by rw[<-l.b.1];exact aR O rfl);have k3:=cF O;have k5:=aj O;have u:j.heap[w.heap.size]? = some oZ:=((F.block _ (by simp;omega) (λB=>(l.b.2.2 _ B.symm).2 rfl)).trans (((A.b _ _).i _ a5 (by simp)).trans a0.b));have S:j.heap[e.heap.size]? = some (oW x):=((F.block _ (by simp;omega) (λB=>by have:=(l.b.2.2 _ B.symm).1;omega)).trans ((Below.heap_alloc _ _ _ (by simp)).trans (aJ rfl)));obtain⟨i7,i8,i9,j0,j1,j2,j3,j4⟩:=dX S;obtain⟨e9,f0,f1,f2,f3,f4,f5,f6⟩:=dX u;have o:=Z (Yp F (Yp b4 (Yp b6 u)));clear F b4 b6 O u S);refine h.out _ _ ?_ (λK=>?_)
   .go_keep
   (try simp only[aK,aL,List.set]);refine bH [14,15,16] ?_;iterate 3 (refine bO (v:=?_) rfl (by kernel_rfl) (λ_ _ _ C=>C) (by kernel_rfl) (by assumption) ?_ ?_;rotate_left;focus (intro w D;(try dsimp only at D);go_simp;(try with_reducible rfl));(try simp only[aK,aL,List.set]))
   refine bI ?_;refine cP (by kernel_rfl) rfl λI h=>?_;go_simp;refine h.out _ _ ?_;(try simp only[aK,aL,List.set]);have b5:=o.b.1;rw[<-l.b.1]at b5;have c2:=Z ((f.b.t (A.b _ _)).kw (m:=⟨x.text,g,-1,x.m⟩) b5 o.b.2.2.1 (by rw[l.b.1];exact o.b.2.1.imp id (λB=>by rw[B];simp)) d2);have c1:U (Fr c w (j.setCell ⟨b,8,none⟩ (.slice (some ⟨b3,0,none⟩) (d.g.length+1) b1))):=by
    have c6:Fr c w j:=(a3.b.b6 (A.b _ _) (by simp)).b6 (eJ o.b.1) (λP N G=>absurd (Y8 G) (f.b.aZ P (Y8 (ha (by rw[l.b.1];simpa using N)))));exact c6.b6 ((ah [b] j).O (p:=⟨b,8,none⟩) (by simp) _) (λP N G=>absurd (Y8 G) (f.b.aZ P (Y8 (by simp only[Yc]at N;rw[N];simp[PV.a5]))))
   have e7:U ((j.setCell ⟨b,8,none⟩ (.slice (some ⟨b3,0,none⟩) (d.g.length+1) b1)).heap[w.heap.size]? = some oZ):=Z (((ah [b] j).O (p:=⟨b,8,none⟩) (by simp) _).i _ (aj o.b.2.2.2) (by simp;omega) |>.trans o.b.2.2.2);have h2:b≠e.heap.size:=by omega
   have h3:b≠w.heap.size:=by omega
   go_wp2;refine ns (R:=w.heap.size) (x:=x) (by rfl) (by rfl) rfl (yI x e7.b) ?_;rw[z.b];exact⟨rfl,bt.az (b:=w.heap.size) (bt.hO ⟨_,c2.b⟩ kr),c1.b.hO (Y4 _),a1.b⟩
 .have M:(d.s.e != 0)=true:=by simpa using m
  have z:U (aG t g a=(x,d)):=by
   show _=_;unfold aG;rw[a2.b,Y9 m]
  go_wp2;refine ns (R:=w.heap.size) (x:=x) (by rfl) (by rfl) rfl ((Below.heap_alloc _ _ _ (by simpa using a5)).trans (yI x a0.b)) ?_;rw[z.b];exact⟨rfl,(((a9.b.hO kr).d _).az.az).L (by omega),(a3.b.hO (Y4 _)).d _,a1.b⟩
end
variable {d t : Nat -> Prop} {f h r : Nat} {g : List UInt8} {l s : ac} {c p q : World}
inductive Th
 |obj (b:Nat) (o:Obj)
 |row (e:TypeId) (size:Nat) (v:Value) (n:Nat) (xs:List Value)
def Th.bb:Th->Option Nat
 |.obj a _=>some a
 |.row _ _ v _ _=>v.ownBlock
def Th.At(c:World):Th->Prop
 |.obj a e=>c.heap[a]? = some e
 |.row b f v d g=>c.ownsRow 0 b f v d g
abbrev cV(v:Value)(a:List Int):Th:=.row 3 1 v a.length (a.map (Value.int .i64))
abbrev bD(v:Value)(a:List (List UInt8)):Th:=.row 9 1 v a.length (a.map λb=>Value.string ⟨b.toArray⟩)
abbrev eC(v:Value)(a:List bi):Th:=.row 288 5 v a.length (a.flatMap eg)
def gR(d:Nat->Prop)(b:List Th):Nat->Prop:=λa=>d a\/∃c∈b,c.bb=some a
def Th.At.fr{a:Th}(b:a.At c)(h:Fr d c q)(g:∀f,a.bb=some f->d f):a.At q:=by
 cases a with
 |obj e k=>exact(h.i e (aj b) (g e rfl)).trans b
 |row i l v j m=>exact ox b h g
def Th.At.h{a:Th}{d:List Nat}(b:a.At c)(h:ai d c q)(g:∀f,a.bb=some f->f ∉ d):a.At q:=by
 cases a with
 |obj e k=>exact(h.i e (aj b) (g e rfl)).trans b
 |row i l v j m=>exact aX b h g
def Th.At.K{a:Th}(e:a.At c):∀b,a.bb=some b->b<c.heap.size:=by
 intro b d;cases a with
 |obj f i=>simp[Th.bb]at d;subst d;exact aj e
 |row g j v h k=>exact(gH e d).2
structure aD(d:Nat->Prop)(f:Nat)(g:List UInt8)(h:Nat)(l:ac)(L:List Th)(p c:World):Prop where
 J:bt (gR d L) f g h l c
 fr:Fr d p c
 m:∀a∈L,a.At c
 E:∀a∈L,∀b,a.bb=some b->¬d b
 b7:∀(i j:Nat) (a b:Th),i≠j->L[i]? = some a->L[j]? = some b->∀k,a.bb=some k->b.bb≠some k
def iF(e:bt d f g h l c):aD d f g h l [] c c:=⟨e.a9 λj a=>by rcases a with a|⟨i,b,_⟩;exact a;simp at b,iH _ _,by simp,by simp,by simp⟩
def aD.al{b:List Th}(i:aD d f g h l b p c):∀a,d a->a<c.heap.size:=λa e=>i.J.al a (Y8 e)
def aD.call{a:List Th}(b:aD d f g h l a p c)(e:bt (gR d a) f g r s q/\Fr (gR d a) c q):aD d f g r s a p q:=
 ⟨e.1,b.fr.a (e.2.a9 λ_ _=>Y8),λi j=>(b.m i j).fr e.2 λm k=>Ya ⟨i,j,k⟩,b.E,b.b7⟩
def aD.h{a:List Th}(e:aD d f g h l a p c)(b:ai [] c q):aD d f g h l a p q:=e.call ⟨e.J.h b (by simp),si b (by simp)⟩
def aD.ae{a:List Th}(b:aD d f g h l a p c):aD d f g h l a p c.drew:=b.h (ah [] c).ae
def aD.L{b:List Th}(a:aD d f g h l b p c)(e:h<=r):aD d f g r l b p c:=⟨a.J.L e,a.fr,a.m,a.E,a.b7⟩
def aD.d{r:List Th}(m:aD d f g h l r p c)(i:Obj):aD d f g h l (.obj c.heap.size i::r) p (c.alloc i):=by
 have v:ai [] c (c.alloc i):=(ah [] c).d i;refine⟨(m.J.d i).a9 ?_,m.fr.d i,?_,?_,?_⟩
 .intro j b;rcases b with b|⟨e,a,b⟩
  .exact Y8 (Y8 b)
  .rcases Yg.1 a with rfl|a
   .simp[Th.bb]at b;subst b;exact kr
   .exact Y8 (Ya ⟨e,a,b⟩)
 .intro e a;rcases Yg.1 a with rfl|a
  .exact aJ rfl
  .exact(m.m e a).h v (by simp)
 .intro e a j b s;rcases Yg.1 a with rfl|a
  .simp[Th.bb]at b;subst b;exact absurd (m.al _ s) (by omega)
  .exact m.E e a j b s
 .intro q k e j t a b u n o;cases q with
  |zero=>
   cases k with
   |zero=>exact t rfl
   |succ k=>
    simp at a b;subst a;simp[Th.bb]at n;subst n;exact absurd ((m.m j (Yh b)).K _ o) (by omega)
  |succ q=>
   cases k with
   |zero=>
    simp at a b;subst b;simp[Th.bb]at o;subst o;exact absurd ((m.m e (Yh a)).K _ n) (by omega)
   |succ k=>exact m.b7 q k e j (by omega) (by simpa using a) (by simpa using b) u n o
def aD.a4{w:List Th}{I:List Nat}{i:Nat}{o a':Th}(j:aD d f g h l w p c)(x:w[i]? = some o)(y:ai I c q)(F:∀a∈I,o.bb=some a)(K:a'.At q)(z:∀a,a'.bb=some a->o.bb=some a\/c.heap.size<=a):aD d f g h l (w.set i a') p q:=by
 have H:=(YB.1 x).1;have C:=Yh x;have D:∀b∈w.set i a',b=a'\/∃n,n≠i/\w[n]? = some b:=by
  intro b e;obtain⟨n,m⟩:=List.getElem?_of_mem e;rw[YP]at m;split at m
  .simp[H]at m;exact Y8 m.symm
  .rename_i k;exact Ya ⟨n,λM=>k M.symm,m⟩
 refine⟨j.J.f0 y (λa s=>Ya ⟨o,C,F a s⟩) ?_ ?_,j.fr.b6 y (λa s t=>absurd t (j.E o C a (F a s))),?_,?_,?_⟩
 .intro r G;rcases G with t|⟨b,e,u⟩
  .exact Y8 (Y8 t)
  .rcases D b e with rfl|⟨n,_,m⟩
   .rcases z r u with k|k
    .exact Y8 (Ya ⟨o,C,k⟩)
    .exact Ya k
   .exact Y8 (Ya ⟨b,Yh m,u⟩)
 .intro r G;rcases G with t|⟨b,e,u⟩
  .exact Yr (j.al r t) y.F
  .rcases D b e with rfl|⟨n,_,m⟩
   .exact K.K r u
   .exact Yr ((j.m b (Yh m)).K r u) y.F
 .intro b e;rcases D b e with rfl|⟨n,P,m⟩
  .exact K
  .exact(j.m b (Yh m)).h y λa s O=>j.b7 n i b o P m x a s (F a O)
 .intro b e r u t;rcases D b e with rfl|⟨n,_,m⟩
  .rcases z r u with k|k
   .exact j.E o C r k t
   .exact absurd (j.al r t) (by omega)
  .exact j.E b (Yh m) r u t
 .intro n L b E B e v a s A;rw[YP]at e v;split at e
  .rename_i J;subst J;simp[H]at e;subst e;rw[Y2 B]at v;rcases z a s with k|k
   .exact j.b7 i L o E B x v a k A
   .exact absurd ((j.m E (Yh v)).K a A) (by omega)
  .split at v
   .rename_i J N;subst N;simp[H]at v;subst v;rcases z a A with k|k
    .exact j.b7 n i b o B e x a s k
    .exact absurd ((j.m b (Yh e)).K a s) (by omega)
   .exact j.b7 n L b E B e v a s A
def aD.az{j:List Th}{k:Th}(i:aD d f g h l (k::j) p c):aD d f g h l j p c:=by
 refine⟨i.J.a9 ?_,i.fr,λa b=>i.m a (Y5 _ b),λa b=>i.E a (Y5 _ b),λo q a m s b n=>i.b7 (o+1) (q+1) a m (by omega) (by simpa using b) (by simpa using n)⟩;intro r e;rcases e with e|⟨a,b,e⟩
 .exact Y8 e
 .exact Ya ⟨a,Y5 _ b,e⟩
def aD.fin{L:List Th}(a:aD d f g h l L p c):bt d f g h l c/\Fr d p c:=⟨a.J.a9 λ_=>Y8,a.fr⟩
def aD.co{j:List Th}{i R:Nat}{y:ee}(m:aD d f g h l j p c)(k:j[i]? = some (.obj R (oW y)))(a:ee):aD d f g h l (j.set i (.obj R (oW a))) p (rP c R (.int .i64 a.f) (.string ⟨a.text.toArray⟩) (.int .i64 a.m) (.int .i64 a.fin) (.int .i64 a.n) (.int .i64 a.e)):=
 m.a4 k (xC _ _ _ _ _ _ _ _) (λo b=>by simp at b;rw[b];rfl) (tK (m.m _ (Yh k))) (λo b=>Y8 b)
def aD.r{a:List Th}{i R:Nat}{x:ee}(j:aD d f g h l a p c)(b:a[i]? = some (.obj R (oW x))) :
  c.cell? ⟨R,0,none⟩=some (.int .i64 x.f)/\c.cell? ⟨R,1,none⟩=some (.string ⟨x.text.toArray⟩)/\c.cell? ⟨R,2,none⟩=some (.int .i64 x.m)/\c.cell? ⟨R,3,none⟩=some (.int .i64 x.fin)/\c.cell? ⟨R,4,none⟩=some (.int .i64 x.n)/\c.cell? ⟨R,5,none⟩=some (.int .i64 x.e)/\(∀i,c.frozen? ⟨R,i,none⟩=false)/\R<c.heap.size:=dX (j.m _ (Yh b))
def aA{d:Nat->Prop}{c g h:Nat}{e:List UInt8}{l m:ac}{b:List Th}{k a:World}{i:Nat}{args:Array Value}{v:Value}{Q:Ending->World->Prop}
  (j:U (aD d c e g l b k a)) (n:bt (gR d b) c e g l a->Calls Tryz.prog i args a (GP (gR d b) c e h m v a))
  (o:∀f,U (aD d c e h m b k f)->Q (.returned v) f):Calls Tryz.prog i args a Q:=
 (n j.b.J).mono λ_ f ⟨p,r,q⟩=>p▸o f (Z (j.b.call ⟨r,q⟩))
def dV(b:List UInt8)(a:ac):ac:={ a with b:=a.b++b }
def bB(a:Int):List UInt8:=(Lib.itoa a)
def eh(e:List UInt8)(d c b:Int)(a:ac):(Int×Int)×ac:=if b<d\/c<b then ((0,0),bo 8 a.s.x.m a)else ((b,a.s.x.m),aI e a)
def bM(a:ac):de:=a.g.getD (bz a a.s.x.text).toNat gT
def aV(d:List UInt8)(c b:Int)(a:ac):(Int×Int)×ac:=
 if a.s.e≠0 then ((0,0),a)
 else if a.s.x.f=3 then eh d c b a.s.x.n a
 else if ax a 2 [84,82,85,69]=true then eh d c b 1 a
 else if ax a 2 [70,65,76,83,69]=true then eh d c b 0 a
 else if a.s.x.f=1 then
  if bz a a.s.x.text<0\/(bM a).ag≠0 then ((0,0),bo 7 a.s.x.m a)else eh d c b (bM a).n a
 else ((0,0),da a)
def iD(b:List UInt8)(a:ac):(Int×List UInt8)×ac:=
 if ax a 2 [104,121,112,101,114]=true then ((3,[117,110,115,105,103,110,101,100,32,104,121,112,101,114]),aI b a)
 else if ax a 2 [105,110,116]=true then ((1,[117,110,115,105,103,110,101,100]),aI b a)
 else ((1,[117,110,115,105,103,110,101,100]),a)
def nr(b:List UInt8)(a:Int):bc:=⟨14,0,-1,[],[],0,b,a⟩
def ch(b:List UInt8)(a:ac):(Int×List UInt8)×ac:=
 if a.s.e≠0 then ((0,[]),a)
 else if a.s.x.f=1 then (((aI b a).e.length,a.s.x.text),bJ (nr a.s.x.text a.s.x.m) (aI b a))
 else if a.s.x.f=2/\a.s.x.text=[105,110,116]then ((0,[105,110,116]),aI b a)
 else if a.s.x.f=2/\a.s.x.text=[104,121,112,101,114]then ((2,[104,121,112,101,114]),aI b a)
 else if a.s.x.f=2/\a.s.x.text=[98,111,111,108]then ((4,[98,111,111,108]),aI b a)
 else if a.s.x.f=2/\a.s.x.text=[117,110,115,105,103,110,101,100]then iD b (aI b a)
 else ((0,[]),da a)
def bp(a:List UInt8)(e:Bool)(d:ac):Int×ac:=
 if e=true then
  let b:=aV a 1 1000 (ab a 4 [91] d)
  (b.1.1,ab a 4 [93] b.2)
 else
  let c:=ab a 4 [60] d
  if ax c 4 [62]=true then (4294967295,ab a 4 [62] c)
  else
   let b:=aV a 0 4294967295 c
   (b.1.1,ab a 4 [62] b.2)
def bV(c:List UInt8)(b:List (List UInt8))(all:Bool)(d:ac):ee×ac:=
 let a:=cJ c d
 if a.2.s.e=0/\(if all=true then decide (0<=bz a.2 a.1.text)else b.contains a.1.text)=true then (a.1,bo 6 a.1.m a.2)else a
structure jb where
 r:Int
 cW:List UInt8
 dR:List UInt8
 x:ee
def ej(a b:Int):bc:=⟨a,b,0,[],[],0,[],0⟩
def dH(a b c:Int):bc:=⟨a,b,c,[],[],0,[],0⟩
def gq(c:List UInt8)(e:List (List UInt8))(all f:Bool)(d:ac):jb×ac:=
 let b:=bV c e all (aI c d)
 if ax b.2 4 [91]=true/\f=true then
  let a:=bp c true b.2
  (⟨a.2.e.length,d.s.x.text++[32],[91]++bB a.1++[93],b.1⟩,bJ (ej 6 a.1) a.2)
 else
  let a:=bp c false b.2
  (⟨a.2.e.length,d.s.x.text++[32],[60]++bB a.1++[62],b.1⟩,bJ (ej (if ax d 2 [115,116,114,105,110,103]=true then 8 else 7) a.1) a.2)
def gn(d:List UInt8)(e:List (List UInt8))(all:Bool)(f:ac):jb×ac:=
 let b:=ch d f
 if ax b.2 4 [42]=true then
  let a:=bV d e all (aI d b.2)
  (⟨a.2.e.length,b.1.2++[32,42],[],a.1⟩,bJ (dH 11 0 b.1.1) a.2)
 else
  let a:=bV d e all b.2
  if ax a.2 4 [91]=true then
   let c:=bp d true a.2
   (⟨c.2.e.length,b.1.2++[32],[91]++bB c.1++[93],a.1⟩,bJ (dH 9 c.1 b.1.1) c.2)
  else if ax a.2 4 [60]=true then
   let c:=bp d false a.2
   (⟨c.2.e.length,b.1.2++[32],[60]++bB c.1++[62],a.1⟩,bJ (dH 10 c.1 b.1.1) c.2)
  else (⟨b.1.1,b.1.2++[32],[],a.1⟩,a.2)
def bQ(c:List UInt8)(b:List (List UInt8))(all:Bool)(a:ac):jb×ac:=
 if ax a 2 [111,112,97,113,117,101]=true\/ax a 2 [115,116,114,105,110,103]=true then gq c b all (ax a 2 [111,112,97,113,117,101]) a else gn c b all a
def fL(a:List UInt8)(d:ac):ac:=
 let b:=aG a 2 (ab a 2 [99,111,110,115,116] (ar d.D 40 d))
 let v:=aV a (-2147483648) 4294967295 (ab a 4 [61] b.2)
 let c:=ab a 4 [59] v.2
 if c.s.e≠0 then c else dV ([99,111,110,115,116,32]++b.1.text++[32,61,32]++bB v.1.1++[59,10]) (dA b.1.text v.1.1 c)
def gf(b:List UInt8)(c:ac):ac:=
 let a:=bQ b [] true (ab b 2 [116,121,112,101,100,101,102] c)
 if a.2.s.e≠0 then a.2
 else dV ([116,121,112,101,100,101,102,32]++a.1.cW++a.1.x.text++a.1.dR++[59,10]) (ab b 4 [59] { a.2 with g:=a.2.g++[⟨a.1.x.text,1,a.1.r,a.1.x.m⟩] })
def dh(c:List UInt8):Nat->List Int->List UInt8->ac->Bool×List Int×List UInt8×ac
 |0,a,b,d=>(false,a,b,d)
 |k+1,a,b,d=>
  if d.s.e≠0 then (false,a,b,d)
  else
   let j:=ar a.length 12 d
   let f:=aG c 2 (ar j.D 40 j)
   let v:=aV c (-2147483648) 2147483647 (ab c 4 [61] f.2)
   let g:=if v.2.s.e=0/\a.contains v.1.1=true then bo 6 v.1.2 v.2 else v.2
   if g.s.e≠0 then (true,a,b,g)
   else
    let h:=dA f.1.text v.1.1 g
    let i:=b++f.1.text++[32,61,32]++bB v.1.1
    if ax h 4 [44]=true then dh c k (a++[v.1.1]) (i++[44,32]) (aI c h)else (false,a++[v.1.1],i,h)
def gD(a:List UInt8)(e:ac):ac:=
 let c:=aG a 2 (ab a 2 [101,110,117,109] e)
 let b:=dh a 13 [] ([101,110,117,109,32]++c.1.text++[32,123,32]) (ab a 4 [123] c.2)
 if b.1=true then b.2.2.2
 else
  let d:=ab a 4 [59] (ab a 4 [125] b.2.2.2)
  dV (b.2.2.1++[32,125,59,10]) (cX c.1.text d.e.length (bJ ⟨5,0,0,b.2.1,[],0,[],0⟩ d))
def dI(f:List UInt8):Nat->List Int->List (List UInt8)->List UInt8->ac->List Int×List UInt8×ac
 |0,b,_,d,c=>(b,d,c)
 |k+1,b,h,d,c=>
  if c.s.e≠0 then (b,d,c)
  else
   let a:=bQ f h false (ar b.length 12 c)
   let g:=ab f 4 [59] a.2
   let i:=d++a.1.cW++a.1.x.text++a.1.dR++[59,32]
   if ax g 4 [125]=true then (b++[a.1.r],i,g)else dI f k (b++[a.1.r]) (h++[a.1.x.text]) i g
def gt(a:List UInt8)(e:ac):ac:=
 let c:=aG a 2 (ab a 2 [115,116,114,117,99,116] e)
 let b:=dI a 14 [] [] ([115,116,114,117,99,116,32]++c.1.text++[32,123,32]) (ab a 4 [123] c.2)
 let d:=ab a 4 [59] (ab a 4 [125] b.2.2)
 dV (b.2.1++[125,59,10]) (cX c.1.text d.e.length (bJ ⟨12,0,0,[],b.1,0,[],0⟩ d))
def fC(b:ac)(a:Int):bc:=b.e.getD a.toNat cS
def bR(b:List UInt8)(a:ac):(Int×List UInt8)×ac:=
 if a.s.e=0/\a.s.x.f=1 then
  if bz a a.s.x.text<0\/(bM a).ag≠1\/(fC a (bM a).n).f≠5 then ((0,[]),bo 7 a.s.x.m a)
  else (((bM a).n,a.s.x.text),aI b a)
 else if a.s.e=0/\a.s.x.f=2/\(a.s.x.text=[105,110,116]\/a.s.x.text=[117,110,115,105,103,110,101,100]\/a.s.x.text=[98,111,111,108])then
  if a.s.x.text=[105,110,116]then ((0,[105,110,116]),aI b a)
  else if a.s.x.text=[98,111,111,108]then ((4,[98,111,111,108]),aI b a)
  else if ax (aI b a) 2 [105,110,116]=true then ((1,[117,110,115,105,103,110,101,100]),aI b (aI b a))
  else ((1,[117,110,115,105,103,110,101,100]),aI b a)
 else ((0,[]),da a)
def ce(b:List UInt8)(c:List (List UInt8))(d:ac):(Int×List UInt8×List (List UInt8))×ac:=
 if ax d 2 [118,111,105,100]=true then ((-1,[118,111,105,100,59,32],c),ab b 4 [59] (aI b d))
 else
  let a:=bQ b c false d
  ((a.1.r,a.1.cW++a.1.x.text++a.1.dR++[59,32],c++[a.1.x.text]),ab b 4 [59] a.2)
def eQ(of:Int):Int:=if of=1\/of=4 then 0 else -2147483648
def eP(of:Int):Int:=if of=1 then 4294967295 else if of=4 then 1 else 2147483647
def bT(t:List UInt8)(of:Int):Nat->List Int->List UInt8->ac->(List Int×List UInt8)×ac
 |0,a,c,b=>((a,c),b)
 |k+1,a,c,b=>
  if b.s.e≠0 then ((a,c),b)
  else
   let v:=aV t (eQ of) (eP of) (ab t 2 [99,97,115,101] (ar a.length 12 b))
   let d:=if v.2.s.e=0/\4<of/\(fC v.2 of).a0.contains v.1.1=false then bo 8 v.1.2 v.2 else v.2
   let h:=if d.s.e=0/\a.contains v.1.1=true then bo 6 v.1.2 d else d
   let f:=ab t 4 [58] h
   let g:=c++[99,97,115,101,32]++bB v.1.1++[58,32]
   if ax f 2 [99,97,115,101]=true then bT t of k (a++[v.1.1]) g f else ((a++[v.1.1],g),f)
def jR(b:Nat)(c:Int)(a:List Int):List Int:=a++List.replicate (b-a.length) c
def dO(i:List UInt8)(of:Int):Nat->List Int->List Int->List (List UInt8)->List UInt8->ac->(List Int×List Int×List (List UInt8)×List UInt8)×ac
 |0,c,h,f,g,d=>((c,h,f,g),d)
 |k+1,c,h,f,g,d=>
  if d.s.e≠0 then ((c,h,f,g),d)
  else
   let b:=bT i of (14-c.length) c [] d
   let a:=ce i f b.2
   let l:=jR b.1.1.length a.1.1 h
   let j:=g++b.1.2++a.1.2.1
   if ax a.2 2 [99,97,115,101]=true then dO i of k b.1.1 l a.1.2.2 j a.2 else ((b.1.1,l,a.1.2.2,j),a.2)
def gj(b:List UInt8)(d:List (List UInt8))(c:ac):(Int×List UInt8)×ac:=
 if ax c 2 [100,101,102,97,117,108,116]=true then
  let a:=ce b d (ab b 4 [58] (aI b c))
  ((a.1.1,[100,101,102,97,117,108,116,58,32]++a.1.2.1),a.2)
 else ((-2,[]),c)
def fU(a:List UInt8)(h:ac):ac:=
 let f:=aG a 2 (ab a 2 [117,110,105,111,110] h)
 let c:=bR a (ab a 4 [40] (ab a 2 [115,119,105,116,99,104] f.2))
 let e:=cJ a c.2
 let i:=ab a 4 [123] (ab a 4 [41] e.2)
 let b:=dO a c.1.1 14 [] [] [e.1.text] ([117,110,105,111,110,32]++f.1.text++[32,115,119,105,116,99,104,32,40]++c.1.2++[32]++e.1.text++[41,32,123,32]) i
 let d:=gj a b.1.2.2.1 b.2
 let g:=ab a 4 [59] (ab a 4 [125] d.2)
 dV (b.1.2.2.2++d.1.2++[125,59,10]) (cX f.1.text g.e.length (bJ ⟨13,0,c.1.1,b.1.1,b.1.2.1,d.1.1,[],0⟩ g))
def eA(b:List UInt8)(a:ac):(Int×List UInt8)×ac:=if ax a 2 [118,111,105,100]=true then ((-1,[118,111,105,100]),aI b a)else ch b a
def bC(a:List UInt8)(b:List Int)(c:ac):Int×ac:=
 let v:=aV a 0 4294967295 (ab a 4 [61] c)
 (v.1.1,ab a 4 [59] (if v.2.s.e=0/\b.contains v.1.1=true then bo 6 v.1.2 v.2 else v.2))
def eX(a:List UInt8):Nat->List bi->List (List UInt8)->List Int->List UInt8->ac->(List bi×List UInt8)×ac
 |0,c,_,_,f,d=>((c,f),d)
 |k+1,c,n,l,f,d=>
  if d.s.e≠0 then ((c,f),d)
  else
   let i:=eA a (ar c.length 8 d)
   let h:=bV a n false i.2
   let g:=eA a (ab a 4 [40] h.2)
   let b:=bC a l (ab a 4 [41] g.2)
   let m:=f++i.1.2++[32]++h.1.text++[40]++g.1.2++[41,32,61,32]++bB b.1++[59,32]
   let j:=c++[⟨0,0,b.1,g.1.1,i.1.1⟩]
   if ax b.2 4 [125]=true then ((j,m),b.2)else eX a k j (n++[h.1.text]) (l++[b.1]) m b.2
structure sx where
 a8:List UInt8
 num:Int
 l:List bi
 b:List UInt8
def eE(a:List UInt8)(e:List (List UInt8))(f:List Int)(h:ac):sx×ac:=
 let d:=bV a e false (ab a 2 [118,101,114,115,105,111,110] h)
 let c:=eX a 10 [] [] [] ([118,101,114,115,105,111,110,32]++d.1.text++[32,123,32]) (ab a 4 [123] d.2)
 let b:=bC a f (ab a 4 [125] c.2)
 (⟨d.1.text,b.1,c.1.1.map (λg=>{ g with cv:=b.1 }),c.1.2++[125,32,61,32]++bB b.1++[59,32]⟩,b.2)
def ep(h:List UInt8):Nat->List (List UInt8)->List Int->List bi->List UInt8->ac->(List bi×List UInt8)×ac
 |0,_,_,all,b,a=>((all,b),a)
 |k+1,f,c,all,b,a=>
  if a.s.e≠0 then ((all,b),a)
  else
   let v:=eE h f c (ar c.length 4 a)
   let d:=all++v.1.l
   let g:=b++v.1.b
   if ax v.2 4 [125]=true then ((d,g),v.2)else ep h k (f++[v.1.a8]) (c++[v.1.num]) d g v.2
def gr(b:List UInt8)(d:ac):ac:=
 let c:=aG b 2 (ab b 2 [112,114,111,103,114,97,109] (ar d.o.length 4 d))
 let v:=ep b 6 [] [] [] ([112,114,111,103,114,97,109,32]++c.1.text++[32,123,32]) (ab b 4 [123] c.2)
 let e:=ab b 4 [125] v.2
 let a:=bC b e.o e
 dV (v.1.2++[125,32,61,32]++bB a.1++[59,10]) { a.2 with o:=a.2.o++[a.1],u:=a.2.u++v.1.1.map (λf=>{ f with prog:=a.1 }) }
def bG(b:List UInt8)(a:ac):ac:=
 if ax a 2 [99,111,110,115,116]=true then fL b a
 else if ax a 2 [112,114,111,103,114,97,109]=true then gr b a
 else if a.s.x.f≠2\/(a.s.x.text≠[116,121,112,101,100,101,102]/\a.s.x.text≠[101,110,117,109]/\a.s.x.text≠[115,116,114,117,99,116]/\a.s.x.text≠[117,110,105,111,110])then da a
 else
  let d:=ar a.j 24 a
  let c:ac:={ d with j:=d.j+1 }
  if a.s.x.text=[116,121,112,101,100,101,102]then gf b c
  else if a.s.x.text=[101,110,117,109]then gD b c
  else if a.s.x.text=[115,116,114,117,99,116]then gt b c
  else fU b c
variable {g j : Nat -> Prop} {f h : Nat} {d : List UInt8} {a : ac} {c : World} {i : PV}
def GV(g:Nat->Prop)(f:Nat)(d:List UInt8)(h:Nat)(i:PV)(e:ac)(v:Value)(c:World)(b:Ending)(a:World):Prop:=b=.returned v/\bf g f d h e i a/\Fr g c a
def kB(b:bf g f d h a i c)(j e:Int):Calls prog 51 #[.pointer (some ⟨f,0,none⟩),.int .i64 j,.int .i64 e] c (GV g f d h i (bo j e a) (.tuple #[]) c):=by
 refine(uF b.I j e).mono ?_;rintro m n ⟨rfl,l,k⟩;exact⟨rfl,b.a4 (s:=⟨a.s.x,_,_⟩) l k b.fin b.b1,b.fr k⟩
def FM(b:bf g f d h a i c):Calls prog 84 #[.pointer (some ⟨f,0,none⟩)] c (GV g f d h i (da a) (.tuple #[]) c):=by
 refine(uq b.I).mono ?_;rintro k l ⟨rfl,j,e⟩;exact⟨rfl,b.a4 (s:=jK a.s) j e b.fin b.b1,b.fr e⟩
def vp(b:bf g f d h a i c):Calls prog 47 #[.pointer (some ⟨f,0,none⟩)] c (GV g f d h i (aI d a) (.tuple #[]) c):=by
 refine(vo b.I b.fin b.b5).mono ?_;rintro k l ⟨rfl,j,e⟩;exact⟨rfl,b.a4 (s:=pX d a.s) j e (vm b.fin) (vn b.b5),b.fr e⟩
def md(k:bf g f d h a i c)(b:Nat)(e:List UInt8):Calls prog 81 #[.pointer (some ⟨f,0,none⟩),.int .i64 b,.string ⟨e.toArray⟩] c λj l=>j=.returned (.bool (ax a b e))/\l=c:=xB k.I b e
def oP(b:bf g f d h a i c)(e:Nat)(j:List UInt8):Calls prog 141 #[.pointer (some ⟨f,0,none⟩),.int .i64 e,.string ⟨j.toArray⟩] c (GV g f d h i (ab d e j a) (.tuple #[]) c):=by
 refine(Ef b.I b.fin b.b5 e j).mono ?_;rintro n o ⟨rfl,m,k,l⟩;exact⟨rfl,b.a4 m k l (Ed b.b5 b.b1),b.fr k⟩
def bf.d(k:bf g f d h a i c)(e:Obj):bf (ad g c.heap.size) f d h a i (c.alloc e):=by
 refine k.f0 ((ah [] c).d e) (by simp) ?_ ?_
 .intro j b;rcases b with b|rfl
  .exact Y8 b
  .exact Ya (Y4 _)
 .intro j b;have l:(c.alloc e).heap.size=c.heap.size+1:=by simp
  rcases b with b|rfl
  .have:=k.al j b;omega
  .omega
def bf.az{b:Nat}(j:bf (ad g b) f d h a i c):bf g f d h a i c:=j.f0 (ah [] c) (by simp) (λb e=>Y8 (Y8 e)) (λb e=>j.al b (Y8 e))
def GN(g:Nat->Prop)(f:Nat)(d:List UInt8)(h:Nat)(i:PV)(a:(Int×Int)×ac)(c:World)(b:Ending)(e:World):Prop:=GV g f d h i a.2 (.tuple #[.int .i64 a.1.1,.int .i64 a.1.2]) c b e
def ze(M:bf g f d h a i c)(k m:Int)(c3:h<=1000000000):Calls prog 143 #[.pointer (some ⟨f,0,none⟩),.int .i64 k,.int .i64 m] c (GN g f d h i (aV d k m a) c):=by
 obtain⟨d5,d7,d8,d9,e0,e1,b8,b9,c0,b3,d6,b4,b5,b6,b7,e4,e8⟩:=M.r;have w:=Z M;have l:U (bf (ad g c.heap.size) f d h a i (c.alloc (oW a.s.x))/\Fr g c (c.alloc (oW a.s.x))/\(c.alloc (oW a.s.x)).heap[c.heap.size]? = some (oW a.s.x)):=Z ⟨M.d _,(iH g c).d _,aJ rfl⟩;clear M b8 c0 b3 b4 b5 b6 b7;by_cases z:a.s.e=0
 .have c5:(a.s.e != 0)=false:=by rw[z];rfl
  by_cases C:a.s.x.f=3
  .have E:U (aV d k m a=eh d k m a.s.x.n a):=by show _=_;unfold aV;rw[Y2 (by simpa using z),Y9 C]
   have c7:((a.s.x.f:Int)==3)=true:=by rw[C];rfl
   clear C z;go_in;go_wp2_with fail;refine(md (w.b.d _) 2 [84,82,85,69]).mono ?_;rintro t D ⟨rfl,rfl⟩;go_wp2_with fail;refine(md (w.b.d _) 2 [70,65,76,83,69]).mono ?_;rintro t D ⟨rfl,rfl⟩;by_cases o:a.s.x.n<k\/m<a.s.x.n
   .have r:U (aV d k m a=((0,0),bo 8 a.s.x.m a)):=by show _=_;rw[E.b];unfold eh;rw[Y9 o]
    have y:¬(a.s.x.n<k)->m<a.s.x.n:=λq=>o.resolve_left q;by_cases A:a.s.x.n<k
    .clear o y;go_wp2_with fail;refine(kB l.b.1 8 a.s.x.m).mono ?_;rintro t u ⟨rfl,j,b⟩;have p:=Z (Yp j.az (l.b.2.1.a b.az));clear j b;go_wp2;go_ret2;rw[r.b];exact⟨rfl,p.b⟩
    .have F:=y A;clear o y;go_wp2_with fail;refine(kB l.b.1 8 a.s.x.m).mono ?_;rintro t u ⟨rfl,j,b⟩;have p:=Z (Yp j.az (l.b.2.1.a b.az));clear j b;go_wp2;go_ret2;rw[r.b];exact⟨rfl,p.b⟩
   .have r:U (aV d k m a=((a.s.x.n,(a.s.x.m:Int)),aI d a)):=by show _=_;rw[E.b];unfold eh;rw[Y2 o]
    have A:¬(a.s.x.n<k):=λq=>o (Y8 q);have F:¬(m<a.s.x.n):=λq=>o (Ya q);clear o;go_wp2_with fail;refine(vp l.b.1).mono ?_;rintro t u ⟨rfl,j,b⟩;have B:u.heap[c.heap.size]? = some (oW a.s.x):=(b.i _ (aj l.b.2.2) kr).trans l.b.2.2;obtain⟨a1,a2,a3,a4,a5,a6,a7,a8⟩:=dX B;have p:=Z (Yp j.az (l.b.2.1.a b.az));clear j b B;go_wp2;go_region;go_wp2;go_ret2;rw[r.b];exact⟨rfl,p.b.1.t (ah [] _).ae,p.b.2.ae⟩
  .have c7:((a.s.x.f:Int)==3)=false:=by rw[Yi];omega
   cases S:ax a 2 [84,82,85,69]with
   |true=>
    have E:U (aV d k m a=eh d k m 1 a):=by show _=_;unfold aV;rw[Y2 (by simpa using z),Y2 C,Y9 S]
    clear C z;go_in;go_wp2_with fail;refine(md (w.b.d _) 2 [84,82,85,69]).mono ?_;rintro t D ⟨rfl,rfl⟩;go_wp2_with fail;refine(md (w.b.d _) 2 [70,65,76,83,69]).mono ?_;rintro t D ⟨rfl,rfl⟩;by_cases o:1<k\/m<1
    .have r:U (aV d k m a=((0,0),bo 8 a.s.x.m a)):=by show _=_;rw[E.b];unfold eh;rw[Y9 o]
     have y:¬(1<k)->m<1:=λq=>o.resolve_left q;by_cases A:1<k
     .clear o y;go_wp2_with fail;refine(kB l.b.1 8 a.s.x.m).mono ?_;rintro t u ⟨rfl,j,b⟩;have p:=Z (Yp j.az (l.b.2.1.a b.az));clear j b;go_wp2;go_ret2;rw[r.b];exact⟨rfl,p.b⟩
     .have F:=y A;clear o y;go_wp2_with fail;refine(kB l.b.1 8 a.s.x.m).mono ?_;rintro t u ⟨rfl,j,b⟩;have p:=Z (Yp j.az (l.b.2.1.a b.az));clear j b;go_wp2;go_ret2;rw[r.b];exact⟨rfl,p.b⟩
    .have r:U (aV d k m a=((1,(a.s.x.m:Int)),aI d a)):=by show _=_;rw[E.b];unfold eh;rw[Y2 o]
     have A:¬(1<k):=λq=>o (Y8 q);have F:¬(m<1):=λq=>o (Ya q);clear o;go_wp2_with fail;refine(vp l.b.1).mono ?_;rintro t u ⟨rfl,j,b⟩;have B:u.heap[c.heap.size]? = some (oW a.s.x):=(b.i _ (aj l.b.2.2) kr).trans l.b.2.2;obtain⟨a1,a2,a3,a4,a5,a6,a7,a8⟩:=dX B;have p:=Z (Yp j.az (l.b.2.1.a b.az));clear j b B;go_wp2;go_region;go_wp2;go_ret2;rw[r.b];exact⟨rfl,p.b.1.t (ah [] _).ae,p.b.2.ae⟩
   |false=>
    cases hF:ax a 2 [70,65,76,83,69]with
    |true=>
     have E:U (aV d k m a=eh d k m 0 a):=by show _=_;unfold aV;rw[Y2 (by simpa using z),Y2 C,Y2 (by simp[S]),Y9 hF]
     clear C z;go_in;go_wp2_with fail;refine(md (w.b.d _) 2 [84,82,85,69]).mono ?_;rintro t D ⟨rfl,rfl⟩;go_wp2_with fail;refine(md (w.b.d _) 2 [70,65,76,83,69]).mono ?_;rintro t D ⟨rfl,rfl⟩;by_cases o:0<k\/m<0
     .have r:U (aV d k m a=((0,0),bo 8 a.s.x.m a)):=by show _=_;rw[E.b];unfold eh;rw[Y9 o]
      have y:¬(0<k)->m<0:=λq=>o.resolve_left q;by_cases A:0<k
      .clear o y;go_wp2_with fail;refine(kB l.b.1 8 a.s.x.m).mono ?_;rintro t u ⟨rfl,j,b⟩;have p:=Z (Yp j.az (l.b.2.1.a b.az));clear j b;go_wp2;go_ret2;rw[r.b];exact⟨rfl,p.b⟩
      .have F:=y A;clear o y;go_wp2_with fail;refine(kB l.b.1 8 a.s.x.m).mono ?_;rintro t u ⟨rfl,j,b⟩;have p:=Z (Yp j.az (l.b.2.1.a b.az));clear j b;go_wp2;go_ret2;rw[r.b];exact⟨rfl,p.b⟩
     .have r:U (aV d k m a=((0,(a.s.x.m:Int)),aI d a)):=by show _=_;rw[E.b];unfold eh;rw[Y2 o]
      have A:¬(0<k):=λq=>o (Y8 q);have F:¬(m<0):=λq=>o (Ya q);clear o;go_wp2_with fail;refine(vp l.b.1).mono ?_;rintro t u ⟨rfl,j,b⟩;have B:u.heap[c.heap.size]? = some (oW a.s.x):=(b.i _ (aj l.b.2.2) kr).trans l.b.2.2;obtain⟨a1,a2,a3,a4,a5,a6,a7,a8⟩:=dX B;have p:=Z (Yp j.az (l.b.2.1.a b.az));clear j b B;go_wp2;go_region;go_wp2;go_ret2;rw[r.b];exact⟨rfl,p.b.1.t (ah [] _).ae,p.b.2.ae⟩
    |false=>
     have N:U (aV d k m a=if a.s.x.f=1 then if bz a a.s.x.text<0\/(bM a).ag≠0 then ((0,0),bo 7 a.s.x.m a)else eh d k m (bM a).n a else ((0,0),da a)):=by show _=_;unfold aV;rw[Y2 (by simpa using z),Y2 C,Y2 (by simp[S]),Y2 (by simp[hF])]
     clear C z;by_cases I:a.s.x.f=1
     .have c6:((a.s.x.f:Int)==1)=true:=by rw[I];rfl
      obtain⟨gQ,c1,b1⟩:=bX w.b.g;have P:=Z (λd2=>ol (w.b.t (((ah [] c).d d2).ae)) c3 a.s.x.text);rw[b1]at P b9;have G:U (aV d k m a=if bz a a.s.x.text<0\/(bM a).ag≠0 then ((0,0),bo 7 a.s.x.m a)else eh d k m (bM a).n a):=by show _=_;rw[N.b,Y9 I]
      clear I N;go_in;go_wp2_with fail;refine(md (w.b.d _) 2 [84,82,85,69]).mono ?_;rintro t D ⟨rfl,rfl⟩;go_wp2_with fail;refine(md (w.b.d _) 2 [70,65,76,83,69]).mono ?_;rintro t D ⟨rfl,rfl⟩;go_wp2_with fail;refine cR (λb2=>b2.cell? ⟨f,8,none⟩=some (.slice gQ a.g.length c1)/\b2.cell? ⟨c.heap.size,1,none⟩=some (.string ⟨a.s.x.text.toArray⟩)) (L:=8) (by kernel_rfl) rfl (by kernel_rfl) (by kernel_rfl) ?_ (λc2=>?_)
      .go_keep
      refine bH [0,1,2,3,4,5,6] ?_;iterate 7 (refine bO (v:=?_) rfl (by kernel_rfl) (λ_ _ _ q=>q) (by kernel_rfl) (by assumption) ?_ ?_;rotate_left;focus (intro c c4;(try dsimp only at c4);go_simp;(try with_reducible rfl));(try simp only[aK,aL,List.set]))
      refine bI ?_;refine cj 7 (by kernel_rfl) rfl λO J=>?_;(go_simp;refine(P.b _).mono ?_;rintro t e9 ⟨rfl,rfl⟩);refine J.out _ _ ?_ (λc2=>?_)
      .go_keep
      clear J O;(try simp only[aK,aL,List.set]);refine cP (by kernel_rfl) rfl λO J=>?_;go_simp;refine J.out _ _ ?_;clear J O;(try simp only[aK,aL,List.set]);have b0:U (bf (ad g c.heap.size) f d h a i (c.alloc (oW a.s.x)).drew/\Fr g c (c.alloc (oW a.s.x)).drew/\(c.alloc (oW a.s.x)).drew.heap[c.heap.size]? = some (oW a.s.x)):=Z ⟨l.b.1.t (ah [] _).ae,l.b.2.1.ae,l.b.2.2⟩;clear l;have l:=b0;clear b0 P;by_cases R:bz a a.s.x.text<0
      .have r:U (aV d k m a=((0,0),bo 7 a.s.x.m a)):=by show _=_;rw[G.b,Y9 (Y8 R)]
       clear G;go_wp2_with fail;refine(kB l.b.1 7 a.s.x.m).mono ?_;rintro t u ⟨rfl,j,b⟩;have p:=Z (Yp j.az (l.b.2.1.a b.az));clear j b;go_wp2;go_ret2;rw[r.b];exact⟨rfl,p.b⟩
      .have c9:=rm (by omega:0<=bz a a.s.x.text);obtain⟨e3,e2,a0,-,d3,d4,-,f0,f1,e5⟩:=ow w.b c9;rw[b1]at a0;simp at a0;obtain⟨rfl,rfl⟩:=a0;change c.cell? _=some (.int .i64 (bM a).ag)at d3;change c.cell? _=some (.int .i64 (bM a).n)at d4;generalize c8:bz a a.s.x.text=K at *
       obtain⟨K,rfl⟩:∃d1:Nat,K=d1:=⟨K.toNat,by omega⟩;simp only[Int.toNat_natCast]at *
       have e7:(K:Int)<(a.g.length:Int):=by omega
       have e6:¬((K:Int)<0):=R;clear c8 R;by_cases H:(bM a).ag=0
       .have a9:U (aV d k m a=eh d k m (bM a).n a):=by show _=_;rw[G.b,Y2 (by rintro(q|q);omega;exact q H)]
        have d0:((bM a).ag != 0)=false:=by rw[H];rfl
        clear G H;by_cases o:(bM a).n<k\/m<(bM a).n
        .have r:U (aV d k m a=((0,0),bo 8 a.s.x.m a)):=by show _=_;rw[a9.b];unfold eh;rw[Y9 o]
         have y:¬((bM a).n<k)->m<(bM a).n:=λq=>o.resolve_left q;by_cases A:(bM a).n<k
         .clear o y;go_wp2_with fail;refine(kB l.b.1 8 a.s.x.m).mono ?_;rintro t u ⟨rfl,j,b⟩;have p:=Z (Yp j.az (l.b.2.1.a b.az));clear j b;go_wp2;go_ret2;rw[r.b];exact⟨rfl,p.b⟩
         .have F:=y A;clear o y;go_wp2_with fail;refine(kB l.b.1 8 a.s.x.m).mono ?_;rintro t u ⟨rfl,j,b⟩;have p:=Z (Yp j.az (l.b.2.1.a b.az));clear j b;go_wp2;go_ret2;rw[r.b];exact⟨rfl,p.b⟩
        .have r:U (aV d k m a=(((bM a).n,(a.s.x.m:Int)),aI d a)):=by show _=_;rw[a9.b];unfold eh;rw[Y2 o]
         have A:¬((bM a).n<k):=λq=>o (Y8 q);have F:¬(m<(bM a).n):=λq=>o (Ya q);clear o;go_wp2_with fail;refine(vp l.b.1).mono ?_;rintro t u ⟨rfl,j,b⟩;have B:u.heap[c.heap.size]? = some (oW a.s.x):=(b.i _ (aj l.b.2.2) kr).trans l.b.2.2;obtain⟨a1,a2,a3,a4,a5,a6,a7,a8⟩:=dX B;have p:=Z (Yp j.az (l.b.2.1.a b.az));clear j b B;go_wp2;go_region;go_wp2;go_ret2;rw[r.b];exact⟨rfl,p.b.1.t (ah [] _).ae,p.b.2.ae⟩
       .have r:U (aV d k m a=((0,0),bo 7 a.s.x.m a)):=by show _=_;rw[G.b,Y9 (Ya H)]
        have d0:((bM a).ag != 0)=true:=by simpa using H
        clear G H;go_wp2_with fail;refine(kB l.b.1 7 a.s.x.m).mono ?_;rintro t u ⟨rfl,j,b⟩;have p:=Z (Yp j.az (l.b.2.1.a b.az));clear j b;go_wp2;go_ret2;rw[r.b];exact⟨rfl,p.b⟩
     .have c6:((a.s.x.f:Int)==1)=false:=by rw[Yi];omega
      have r:U (aV d k m a=((0,0),da a)):=by show _=_;rw[N.b,Y2 I]
      clear I;go_in;go_wp2_with fail;refine(md (w.b.d _) 2 [84,82,85,69]).mono ?_;rintro t D ⟨rfl,rfl⟩;go_wp2_with fail;refine(md (w.b.d _) 2 [70,65,76,83,69]).mono ?_;rintro t D ⟨rfl,rfl⟩;go_wp2_with fail;refine(FM (w.b.d _)).mono ?_;rintro t u ⟨rfl,j,b⟩;have p:=Z (Yp j.az (((iH g c).d _).a b.az));clear j b;go_wp2;go_ret2;rw[r.b];exact⟨rfl,p.b⟩
 .have c5:(a.s.e != 0)=true:=by simpa using z
  have r:U (aV d k m a=((0,0),a)):=by show _=_;unfold aV;rw[Y9 z]
  clear z;go_in;go_wp2;go_ret2;rw[r.b];exact⟨rfl,w.b,iH _ _⟩
end Go.Proofs.YtjdhaegijjednaaGreatDoor
