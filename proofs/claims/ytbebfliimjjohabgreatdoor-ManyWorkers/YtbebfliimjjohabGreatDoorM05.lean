/- Parts of the proof. -/
import Derived.Test.YtbebfliimjjohabGreatDoorM04
set_option maxRecDepth 100000
set_option maxHeartbeats 8000000
set_option linter.all false
namespace Go.Eqv
variable{es:Array Event}{k:CallKind}{c:Code}{d:Deferred}{f:Fn}{fr:Frame}{vs:List PanicEntry}{o:Obj}{x:Operand}{U ρ:Pm}{P:Ft}{t:Target}{α β:Type}{w w1:Ba}{κ:iW}{g:α->β}{pa:Pm->α->α}{s:Sem α}
def Mm(κ:iW)(n:Nat):Target->Prop
 |.fn fn c=>qP κ n fn/\gA κ n c
 |.collected r=>fU κ n r
 |.coroexit _=>False
 |.nil=>True
 |.builtin ..=>False
def uC(κ:iW)(n:Nat)(d:Deferred):Prop:=Mm κ n d.target/\gA κ n d.args
def Ml(κ:iW)(n:Nat):Obj->Prop
 |.cells c _ _=>gA κ n c
 |.pending c _=>gA κ n c
 |.view a _=>fU κ n a.block
 |.number a _=>fU κ n a.block
 |.map es _=>∀e∈es,gQ κ n e.key/\gQ κ n e.val
 |.chan _ b _ _ _ _=>gA κ n b
 |.stringIter _ _=>True
 |.mapIter m _ _ _=>∀x,m=some x->fU κ n x
 |.loop l=>κ.b l.fn=true/\gA κ n l.tmps/\fU κ n l.defers/\κ.e l.assign=true/\κ.e l.body=true/\∀c,l.pending=some c->U1 c=true
 |.deferred f=>∀l,f=some l->∀d∈l,uC κ n d
 |.coro _=>True
 |.finalizers g _=>∀x∈g,fU κ n x.1/\uC κ n x.2
section
variable{n:Nat}
def KC(h:nk κ n U ρ)(hc:κ.e c=true):pC U c=pC ρ c:=by simp only[pC,h.1.2.2,h.2.1.2.2,hc,dG]
def P1(_:nk κ n U ρ){o:Option Code}(hc:∀c,o=some c->U1 c=true):o.map (pJ U)=o.map (pJ ρ):=by
 cases o with
 |none=>rfl
 |some c=>simp only[Option.map,pJ,hc c rfl,dG]
def KD(h:kq κ n U ρ)(e:pC U c=pC ρ c):κ.e c=true:=by
 simp only[pC,h.1.2.2,h.2.1.2.2]at e;cases q:κ.e c with
 |true=>rfl
 |false=>rw[q]at e;exact absurd (Code.label.inj e) h.2.2.1
def P2(h:kq κ n U ρ){o:Option Code}(e:o.map (pJ U)=o.map (pJ ρ)):∀c,o=some c->U1 c=true:=by
 rintro c rfl;replace e:=bb e;simp only[pJ]at e;cases q:U1 c with
 |true=>rfl
 |false=>rw[q]at e;exact absurd (Code.label.inj e) h.2.2.1
def fU.e{m b:Nat}(h:fU κ n b)(a:n<=m):fU κ m b:=⟨aN h.1 a,h.2⟩
def qP.e{m:Nat}(a:n<=m)(h:qP κ n f):qP κ m f:=by
 cases f<;>first|exact h|exact fU.e h a
mutual
theorem gQ.e{m:Nat}(hm:n<=m):∀{v},gQ κ n v->gQ κ m v
 |.pointer _,h=>λx e=>(h x e).e hm
 |.slice _ _ _,h=>λx e=>(h x e).e hm
 |.map _,h=>λx e=>(h x e).e hm
 |.chan _,h=>λx e=>(h x e).e hm
 |.func _ _ _,h=>⟨h.1.e hm,gA.e hm h.2.1,gA.e hm h.2.2⟩
 |.iface _ v,h=>gQ.e hm (v:=v) h
 |.agg cs,h=>gA.e hm (a:=cs) h
 |.tuple cs,h=>gA.e hm (a:=cs) h
 |.bool _,_=>aB
 |.int _ _,_=>aB
 |.float _ _,_=>aB
 |.complex _ _ _,_=>aB
 |.string _,_=>aB
 |.nilFunc,_=>aB
 |.nilIface,_=>aB
theorem gA.e{m:Nat}(hm:n<=m):∀{a},gA κ n a->gA κ m a
 |⟨l⟩,h=>p9.e hm (l:=l) h
theorem p9.e{m:Nat}(hm:n<=m):∀{l},p9 κ n l->p9 κ m l
 | [],_=>aB
 |v::l,h=>⟨gQ.e hm (v:=v) h.1,p9.e hm (l:=l) h.2⟩
end
def Mm.e{m:Nat}(a:n<=m)(h:Mm κ n t):Mm κ m t:=by
 cases t<;>first|exact h|exact fU.e h a|exact⟨h.1.e a,h.2.e a⟩
def uC.e{m:Nat}(a:n<=m)(h:uC κ n d):uC κ m d:=⟨h.1.e a,h.2.e a⟩
def Ml.e{m:Nat}(f:n<=m)(h:Ml κ n o):Ml κ m o:=by
 cases o with
 |cells c t z=>exact gA.e f (a:=c) h
 |pending c t=>exact gA.e f (a:=c) h
 |view a t=>exact fU.e h f
 |number a b=>exact fU.e h f
 |map es c=>exactλe g=>⟨(h e g).1.e f,(h e g).2.e f⟩
 |chan c b k s r t=>exact gA.e f (a:=b) h
 |stringIter s p=>trivial
 |mapIter q s u v=>exactλx e=>(h x e).e f
 |loop l=>exact⟨h.1,h.2.1.e f,h.2.2.1.e f,h.2.2.2⟩
 |deferred w=>exactλl e d j=>(h l e d j).e f
 |coro p=>trivial
 |finalizers y r=>exactλx i=>⟨(h x i).1.e f,(h x i).2.e f⟩
def Vl(h:nk κ n U ρ)(a:Mm κ n t):gO U t=gO ρ t:=by
 cases t with
 |fn fn c=>simp only[gO];rw[ET h a.1,jJ h c a.2]
 |collected r=>simp only[gO];rw[h.2.2 r a]
 |coroexit r=>exact a.elim
 |builtin b _ _ _=>exact a.elim
 |nil=>rfl
def Dd(h:nk κ n U ρ)(a:uC κ n d):kQ U d=kQ ρ d:=by
 simp only[kQ];rw[Vl h a.1,jJ h d.args a.2]
def UZ(h:nk κ n U ρ)(f:Ml κ n o):dR U o=dR ρ o:=by
 cases o with
 |cells c t z=>simp only[dR];rw[jJ h c f]
 |pending c t=>simp only[dR];rw[jJ h c f]
 |view a t=>simp only[dR,bh];rw[h.2.2 _ f]
 |number a b=>simp only[dR,bh];rw[h.2.2 _ f]
 |map es c=>
  simp only[dR];congr 1;refine gK λe g=>?_;simp only[dU];rw[rW h _ (f e g).1,rW h _ (f e g).2]
 |chan c b m s r t=>simp only[dR];rw[jJ h b f]
 |stringIter s p=>rfl
 |mapIter q s u v=>simp only[dR];rw[tJ h f]
 |loop l=>
  simp only[dR,oz,oy,h.1.1,h.2.1.1,f.1,dG];rw[jJ h _ f.2.1,h.2.2 _ f.2.2.1,KC h f.2.2.2.1,KC h f.2.2.2.2.1,P1 h f.2.2.2.2.2]
 |deferred j=>
  cases j with
  |none=>rfl
  |some l=>
   simp only[dR,Option.map];congr 2;exact gl λd k=>Dd h (f l rfl d k)
 |coro p=>rfl
 |finalizers w r=>
  simp only[dR];congr 1;refine gK λx i=>?_;rw[h.2.2 _ (f x i).1,Dd h (f x i).2]
def C7{f:α->β}{a:Array α}(e:a.map f=a.map g):∀x∈a,f x=g x:=by
 intro x b;obtain⟨i,c,rfl⟩:=wR.1 b;have:=cr (·[i]?) e;simp only[b9,aW c,Option.map,ba]at this;exact this
def uG{f:α->β}:∀{l:List α},l.map f=l.map g->∀x∈l,f x=g x
 | [],_,x,b=>by cases b
 |a::l,e,x,b=>by
  simp only[bT,gr]at e;rcases bG.1 b with rfl|b
  exact e.1;exact uG e.2 x b
def aaB(h:kq κ n U ρ)(e:gO U t=gO ρ t):Mm κ n t:=by
 cases t with
 |fn fn c=>simp only[gO,Target.fn.injEq]at e;exact⟨yO h e.1,lV h c e.2⟩
 |collected r=>simp only[gO,Target.collected.injEq]at e;exact kz h e
 |coroexit r=>exact h.2.2.1 (Target.collected.inj e)
 |builtin b _ _ _=>exact h.2.2.1 (Target.collected.inj e)
 |nil=>trivial
def EP(h:kq κ n U ρ)(e:kQ U d=kQ ρ d):uC κ n d:=by
 simp only[kQ,Deferred.mk.injEq]at e;exact⟨aaB h e.1,lV h _ e.2⟩
def Xk(h:kq κ n U ρ)(e:dR U o=dR ρ o):Ml κ n o:=by
 cases o with
 |cells c t z=>simp only[dR,Obj.cells.injEq,lD]at e;exact lV h c e
 |pending c t=>simp only[dR,Obj.pending.injEq,lD]at e;exact lV h c e
 |view a t=>simp only[dR,Obj.view.injEq,bh,jY]at e;exact kz h e.1.1
 |number a b=>simp only[dR,Obj.number.injEq,bh,jY]at e;exact kz h e.1.1
 |map es c=>
  simp only[dR,Obj.map.injEq,lD]at e;intro x f;have:=C7 e x f;simp only[dU,MapEntry.mk.injEq]at this;exact⟨xk h _ this.1,xk h _ this.2.1⟩
 |chan c b k s r t=>simp only[dR,Obj.chan.injEq]at e;exact lV h b e.2.1
 |stringIter s p=>trivial
 |mapIter g s m q=>simp only[dR,Obj.mapIter.injEq]at e;exact zi h g e.1
 |loop l=>
  simp only[dR,oz,Obj.loop.injEq,Loop.mk.injEq]at e;refine⟨?_,lV h _ e.2.2.2.1,kz h (dD e.2.2.2.2.2.2.2),KD h e.2.2.2.2.2.1,KD h e.2.2.2.2.2.2.1,P2 h e.2.1⟩;exact yO (fn:=.func l.fn) h (by simp only[nN];rw[e.2.2.1])
 |deferred u=>
  intro l i d j;subst i;simp only[dR,Option.map,Obj.deferred.injEq,ba]at e;exact EP h (uG e d j)
 |coro p=>trivial
 |finalizers v r=>
  simp only[dR,Obj.finalizers.injEq,lD]at e;intro x f;have:=C7 e x f;simp at this;exact⟨kz h this.1,EP h this.2⟩
end
structure Sh(κ:iW)(X:Nat->Bool)(w:World):Prop where
 h:∀b o,X b=false->w.heap[b]?=some o->Ml κ w.heap.size o
 x:∀b,X b=true->κ.G b=false/\∃c t,w.heap[b]?=some (.pending c t)/\c.size≠0
 g:∀b,κ.G b=true->∃c t z,w.heap[b]?=some (.cells c t z)
structure tn(κ:iW)(X:Nat->Bool)(n:Nat)(U:Pm):Prop where
 i:Of κ U
 x:U.X=X
 e:∀b,fU κ n b->U.f b=b
 j:U.wk=false->∀b,b<n->U.f b=b
 o:∀b,U.f b<n->U.f b=b
section
variable{X:Nat->Bool}
def sJ(n a j:Nat)(G:Nat->Bool)(mv:Bool)(b:Nat):Nat:=
 if b<n then (if mv&&G b then n+b else b) else if b<a then b+n else 2*b+4*a+4*n+j
def UP{n c j:Nat}{G:Nat->Bool}{mv:Bool}(d:n<=c){a b:Nat}(h:sJ n c j G mv a=sJ n c j G mv b):a=b:=by
 unfold sJ at h;repeat' split at h
 all_goals omega
def qX(κ:iW)(X:Nat->Bool)(n d j:Nat)(mv:Bool)(i:n<=d)(g:∀b,X b=true->b<n/\κ.G b=false)(N:Nat):Pm where
 f:=sJ n d j κ.G mv
 EH:=UP i
 yy:=κ.b
 wS:=κ.h
 TZ:=κ.e
 k:=j
 X:=X
 Y:=X
 xy:=by
  intro b;unfold sJ;have a:∀c,n<=c->X c=false:=λc hc=>by
   cases q:X c with
   |false=>rfl
   |true=>exact absurd (g c q).1 (Nat.not_lt.2 hc)
  split
  .split
   .rename_i h;simp only[aR]at h;rw[a _ ak];cases q:X b with
    |false=>rfl
    |true=>rw[(g b q).2]at h;cases h.2
   .rfl
  .rw[a b ak];split
   .exact a _ ak
   .exact a _ ak
 wk:=mv
 N:=N
 pn:=true
def LR(κ:iW)(n:Nat)(U:Pm):Prop:=Of κ U/\∀b,fU κ n b->U.f b=b
section
variable{n:Nat}
def Xe(h:LR κ n U)(hc:κ.e c=true):pC U c=c:=by simp only[pC,h.1.2.2,hc,dG]
def Yd(_:LR κ n U){o:Option Code}(hc:∀c,o=some c->U1 c=true):o.map (pJ U)=o:=by
 cases o with
 |none=>rfl
 |some c=>simp only[Option.map,pJ,hc c rfl,dG]
def P9(h:LR κ n U){fn:Fn}(a:qP κ n fn):nN U fn=fn:=by
 obtain⟨⟨c,d,_⟩,e⟩:=h;cases fn with
 |func f=>replace a:κ.b f=true:=a;simp[nN,oy,c,a]
 |via t p f b=>replace a:κ.b f=true:=a;simp[nN,oy,c,a]
 |method m=>replace a:κ.h m=true:=a;simp[nN,d,a]
 |methodOf t m=>replace a:κ.h m=true:=a;simp[nN,d,a]
 |yield l=>simp only[nN];rw[e l a]
def KQ(h:LR κ n U){a:Option Addr}(b:∀x,a=some x->fU κ n x.block):a.map (bh U)=a:=by
 cases a with
 |none=>rfl
 |some a=>simp only[Option.map,bh];rw[h.2 _ (b a rfl)]
def zk(h:LR κ n U){a:Option Nat}(b:∀x,a=some x->fU κ n x):a.map U.f=a:=by
 cases a with
 |none=>rfl
 |some a=>simp;rw[h.2 _ (b a rfl)]
mutual
theorem rl(h:LR κ n U):∀v,gQ κ n v->pV U v=v
 |.pointer a,hv=>by simp only[pV];rw[KQ h (a:=a) hv]
 |.slice a _ _,hv=>by simp only[pV];rw[KQ h (a:=a) hv]
 |.map r,hv=>by simp only[pV];rw[zk h (a:=r) hv]
 |.chan r,hv=>by simp only[pV];rw[zk h (a:=r) hv]
 |.func fn a b,hv=>by simp only[pV];rw[P9 h hv.1,ll h a hv.2.1,ll h b hv.2.2]
 |.iface _ v,hv=>by simp only[pV];rw[rl h v hv]
 |.agg cs,hv=>by simp only[pV];rw[ll h cs hv]
 |.tuple cs,hv=>by simp only[pV];rw[ll h cs hv]
 |.bool _,_=>rfl
 |.int _ _,_=>rfl
 |.float _ _,_=>rfl
 |.complex _ _ _,_=>rfl
 |.string _,_=>rfl
 |.nilFunc,_=>rfl
 |.nilIface,_=>rfl
theorem ll(h:LR κ n U):∀a,gA κ n a->dx U a=a
 |⟨l⟩,hv=>by simp only[dx];rw[QX h l hv]
theorem QX(h:LR κ n U):∀l,p9 κ n l->qe U l=l
 | [],_=>rfl
 |v::l,hv=>by simp only[qe];rw[rl h v hv.1,QX h l hv.2]
end
def Xr(h:LR κ n U)(a:Mm κ n t):gO U t=t:=by
 cases t with
 |fn fn c=>simp only[gO];rw[P9 h a.1,ll h c a.2]
 |collected r=>simp only[gO];rw[h.2 r a]
 |coroexit r=>exact a.elim
 |builtin b _ _ _=>exact a.elim
 |nil=>rfl
def P3(h:LR κ n U)(a:uC κ n d):kQ U d=d:=by
 simp only[kQ];rw[Xr h a.1,ll h d.args a.2]
def Qs(h:LR κ n U)(g:Ml κ n o):dR U o=o:=by
 cases o with
 |cells c t z=>simp only[dR];rw[ll h c g]
 |pending c t=>simp only[dR];rw[ll h c g]
 |view a t=>simp only[dR,bh];rw[h.2 _ g]
 |number a b=>simp only[dR,bh];rw[h.2 _ g]
 |map es c=>
  simp only[dR];congr 1;have:es.map (dU U)=es.map id:=gK λe i=>by
   simp only[dU,id];rw[rl h _ (g e i).1,rl h _ (g e i).2]
  rw[this,Array.map_id]
 |chan c b u s r t=>simp only[dR];rw[ll h b g]
 |stringIter s p=>rfl
 |mapIter v s w y=>simp only[dR];rw[zk h g]
 |loop l=>
  simp only[dR,oz,oy,h.1.1,g.1,dG];rw[ll h _ g.2.1,h.2 _ g.2.2.1,Xe h g.2.2.2.1,Xe h g.2.2.2.2.1,Yd h g.2.2.2.2.2]
 |deferred m=>
  cases m with
  |none=>rfl
  |some l=>
   simp only[dR,Option.map];congr 2;have:l.map (kQ U)=l.map id:=gl λd q=>P3 h (g l rfl d q);rw[this,ZT]
 |coro p=>rfl
 |finalizers j r=>
  simp only[dR];congr 1;have:(j.map λx=>(U.f x.1,kQ U x.2))=j.map id:=gK λx k=>by
   rw[h.2 _ (g x k).1,P3 h (g x k).2];rfl
  rw[this,Array.map_id]
end
section
variable{n:Nat}
def Yl(h:Of κ U){g:Fn}(a:qP κ n f)(b:qP κ n g)(e:nN U f=nN U g):f=g:=by
 let ⟨c,d⟩:=h
 cases f<;>cases g<;>simp only[qP]at a b<;>simp[nN,oy,c,d,a,b]at e<;>first|exact e.elim|(simp[e];done)|(rw[U.EH e])|skip
 all_goals simp_all
def Fc{a b:Option Addr}(e:a.map (bh U)=b.map (bh U)):a=b:=by
 cases a<;>cases b<;>simp at e<;>first|rfl|(cases e;done)|skip
 rename_i a b;let ⟨b1,c,d⟩:=a
 let ⟨b2,f,g⟩:=b
 simp only[bh,ba,jY]at e;rw[U.EH e.1,e.2.1,e.2.2]
def Fd{a b:Option Nat}(e:a.map U.f=b.map U.f):a=b:=by
 cases a<;>cases b<;>simp only[Option.map]at e<;>first|rfl|(cases e;done)|skip
 rw[U.EH (bb e)]
mutual
theorem Xs(h:Of κ U):∀v u,gQ κ n v->gQ κ n u->pV U v=pV U u->v=u
 |.pointer a,u,hv,hu,e=>by cases u<;>simp only[pV,reduceCtorEq]at e;simp only[Value.pointer.injEq]at e⊢;exact Fc e
 |.slice a l c,u,hv,hu,e=>by cases u<;>simp only[pV,reduceCtorEq]at e;simp only[Value.slice.injEq]at e⊢;exact⟨Fc e.1,e.2⟩
 |.map r,u,hv,hu,e=>by cases u<;>simp only[pV,reduceCtorEq]at e;simp only[Value.map.injEq]at e⊢;exact Fd e
 |.chan r,u,hv,hu,e=>by cases u<;>simp only[pV,reduceCtorEq]at e;simp only[Value.chan.injEq]at e⊢;exact Fd e
 |.func fn a b,u,hv,hu,e=>by
  cases u<;>simp only[pV,reduceCtorEq]at e;simp only[Value.func.injEq]at e⊢;exact⟨Yl h hv.1 hu.1 e.1,zL (h:=h) a _ hv.2.1 hu.2.1 e.2.1,zL (h:=h) b _ hv.2.2 hu.2.2 e.2.2⟩
 |.iface t v,u,hv,hu,e=>by cases u<;>simp only[pV,reduceCtorEq]at e;simp only[Value.iface.injEq]at e⊢;exact⟨e.1,Xs h v _ hv hu e.2⟩
 |.agg cs,u,hv,hu,e=>by cases u<;>simp only[pV,reduceCtorEq]at e;simp only[Value.agg.injEq]at e⊢;exact zL (h:=h) cs _ hv hu e
 |.tuple cs,u,hv,hu,e=>by cases u<;>simp only[pV,reduceCtorEq]at e;simp only[Value.tuple.injEq]at e⊢;exact zL (h:=h) cs _ hv hu e
 |.bool _,u,hv,hu,e=>by cases u<;>simp only[pV,reduceCtorEq]at e;exact e
 |.int _ _,u,hv,hu,e=>by cases u<;>simp only[pV,reduceCtorEq]at e;exact e
 |.float _ _,u,hv,hu,e=>by cases u<;>simp only[pV,reduceCtorEq]at e;exact e
 |.complex _ _ _,u,hv,hu,e=>by cases u<;>simp only[pV,reduceCtorEq]at e;exact e
 |.string _,u,hv,hu,e=>by cases u<;>simp only[pV,reduceCtorEq]at e;exact e
 |.nilFunc,u,hv,hu,e=>by cases u<;>simp only[pV,reduceCtorEq]at e;rfl
 |.nilIface,u,hv,hu,e=>by cases u<;>simp only[pV,reduceCtorEq]at e;rfl
theorem zL{h:Of κ U}:∀a b,gA κ n a->gA κ n b->dx U a=dx U b->a=b
 |⟨l⟩,⟨m⟩,ha,hb,e=>by
  simp only[dx,xW]at e;rw[QY h l m ha hb e]
theorem QY(h:Of κ U):∀l m,p9 κ n l->p9 κ n m->qe U l=qe U m->l=m
 | [],[],_,_,_=>rfl
 | [],_::_,_,_,e=>by simp[qe]at e
 |_::_,[],_,_,e=>by simp[qe]at e
 |v::l,u::m,ha,hb,e=>by
  simp only[qe,gr]at e;rw[Xs h v u ha.1 hb.1 e.1,QY h l m ha.2 hb.2 e.2]
end
end
end
def Mk(κ:iW)(n:Nat)(e:Event):Prop:=match e.loc with
 |.cell a=>fU κ n a.block
 |.obj r=>fU κ n r
 |.mark m=>m=.noRoom\/∃f,m=.extern f
 |_=>True
def BQ(X:Nat->Bool)(e:Event):Bool:=match e.loc with|.obj r=>!X r|.cell a=>!X a.block|_=>true
structure Ui(κ:iW)(X:Nat->Bool)(w w1:World)(es:Array Event):Prop where
 i:Sh κ X w1
 g:∀b,κ.G b=true->w1.heap[b]?=w.heap[b]?
 h:∀e∈es,BQ X e=true->Mk κ w1.heap.size e
section
variable{X:Nat->Bool}
def Sh.e(a:Sh κ X w):∀b,X b=true->b<w.heap.size/\κ.G b=false:=λb d=>by
 let ⟨f,c,t,g,_⟩:=a.x b d
 exact⟨gu g,f⟩
def Sh.H(a:Sh κ X w):∀b,κ.G b=true->b<w.heap.size:=λb d=>by
 let ⟨c,t,z,e⟩:=a.g b d
 exact gu e
def rj(w:World):World:={w with heap:=w.heap++w.heap}
def oZ(f:Sh κ X w){c N:Nat}(g:w.heap.size<=c)(j:Nat)(mv:Bool):tn κ X w.heap.size (qX κ X w.heap.size c j mv g f.e N):=by
 refine⟨⟨rfl,rfl,rfl⟩,rfl,λb a=>?_,λd b a=>?_,λb a=>?_⟩;show sJ w.heap.size c j κ.G mv b=b;unfold sJ;rw[aH a.1,a.2];simp;replace d:mv=false:=d;show sJ w.heap.size c j κ.G mv b=b;unfold sJ;rw[aH a,d];simp
 .replace a:sJ w.heap.size c j κ.G mv b<w.heap.size:=a;show sJ w.heap.size c j κ.G mv b=b;unfold sJ at a⊢;repeat' split
  all_goals first|rfl|(exfalso;repeat' split at a;all_goals first|omega|(simp_all;done)|(simp_all;omega))
def DC(d:Sh κ X w){g N:Nat}(m:w.heap.size<=g)(j:Nat)(mv:Bool):tu (qX κ X w.heap.size g j mv m d.e N) w (rj w):=by
 have p:=oZ (N:=N) d m j mv;have k:∀b o,w.heap[b]?=some o->(rj w).heap[sJ w.heap.size g j κ.G mv b]?=some o:=λb o a=>by
  have l:=gu a;unfold sJ rj;rw[aH l];split;rw[jS ak,l7];exact a;rw[Ps l];exact a
 refine⟨λb o n a=>?_,λb n=>?_,λb u=>?_,λi q _=>rfl,rfl⟩;rw[show (rj w).heap[(qX κ X w.heap.size g j mv m d.e N).f b]?=_ from k b o a,Qs (⟨p.i,p.e⟩) (d.h b o n a)];obtain⟨_,c,t,r,s⟩:=d.x b n;exact⟨c,t,r,s,c,t,rfl,.inl ⟨rfl,k b _ r⟩⟩;show (w.heap++w.heap).size<=sJ w.heap.size g j κ.G mv b;unfold sJ;rw[ay ak,jT];split<;>omega
def DN(a:Sh κ X w)(c:w.heap.size<=w1.heap.size)(j:Nat)(mv:Bool):C5 (qX κ X w.heap.size w1.heap.size j mv c a.e w1.drawn) w (rj w) w1:=by
 refine⟨λb f d=>?_,aj _⟩;show sJ w.heap.size w1.heap.size j κ.G mv b=(w.heap++w.heap).size+(b-w.heap.size);unfold sJ;rw[ay ak,aH d,jT];omega
def yB(d:Sh κ X w){a N:Nat}(g:w.heap.size<=a):kq κ a (qX κ X w.heap.size a 0 false g d.e N) (qX κ X w.heap.size a 1 true g d.e N):=by
 refine⟨⟨rfl,rfl,rfl⟩,⟨rfl,rfl,rfl⟩,(by show (0:Nat)≠1;omega),λb h=>?_⟩;show sJ w.heap.size a 0 κ.G false b≠sJ w.heap.size a 1 κ.G true b;unfold sJ;by_cases c:b<w.heap.size;have i:κ.G b=true:=by
  cases q:κ.G b with
  |true=>rfl
  |false=>exact absurd ⟨ak,q⟩ h
 rw[aH c,aH c,i];show (if (true&&false)=true then w.heap.size+b else b)≠if (true&&true)=true then w.heap.size+b else b
 rw[ay cn,aH cn];omega;rw[ay c,ay c];by_cases f:b<a;exact absurd ⟨f,by
  cases q:κ.G b with
  |false=>rfl
  |true=>exact absurd (d.H b q) c⟩ h
 rw[ay f,ay f];omega
def UV{n:Nat}(h:kq κ n U ρ){e:Event}(q:sL U e=sL ρ e):Mk κ n e:=by
 obtain⟨l,a,b⟩:=e;simp only[sL,Event.mk.injEq,lD]at q;unfold Mk;cases l with
 |cell a=>simp only[lU,Loc.cell.injEq,bh,jY]at q;exact kz h q.1
 |obj r=>simp only[lU,Loc.obj.injEq]at q;exact kz h q
 |output=>trivial
 |goroutines=>trivial
 |mark m=>
  cases m<;>first|exact .inl rfl|exact .inr ⟨_,rfl⟩|(simp only[lU,uK,Loc.mark.injEq,Mark.read.injEq,jY]at q;exact absurd q.1 h.2.2.1)
def aal(a:Sh κ X w){w2:Ba}{y:Array Event}{d:w.heap.size<=w1.heap.size}(F:ko (qX κ X w.heap.size w1.heap.size 0 false d a.e w1.drawn) w (rj w) w1 w2)(I:ko (qX κ X w.heap.size w1.heap.size 1 true d a.e w1.drawn) w (rj w) w1 w2)(J:yx (qX κ X w.heap.size w1.heap.size 0 false d a.e w1.drawn) es y)(K:yx (qX κ X w.heap.size w1.heap.size 1 true d a.e w1.drawn) es y):Ui κ X w w1 es:=by
 have l:=yB (N:=w1.drawn) a d;have m:=oZ (N:=w1.drawn) a d 0 false;have A:=oZ (N:=w1.drawn) a d 1 true;have O:LR κ w.heap.size (qX κ X w.heap.size w1.heap.size 1 true d a.e w1.drawn):=⟨A.i,A.e⟩;have L:∀b,κ.G b=true->w1.heap[b]?=w.heap[b]?:=by
  intro b k;have j:=a.H b k;have p:X b=false:=by
   cases q:X b with
   |false=>rfl
   |true=>rw[(a.x b q).1]at k;cases k
  obtain⟨B,r⟩:∃o,w1.heap[b]?=some o:=⟨_,aW (aN j d)⟩;obtain⟨c,t,z,hc⟩:=a.g b k;have P:sJ w.heap.size w1.heap.size 0 κ.G false b=b:=by unfold sJ;rw[aH j];simp
  have Q:sJ w.heap.size w1.heap.size 1 κ.G true b=w.heap.size+b:=by unfold sJ;rw[aH j,k];simp
  have C:w2.heap[b]?=some (dR (qX κ X w.heap.size w1.heap.size 0 false d a.e w1.drawn) B):=by have:=F.h.e b B p r;rwa [show (qX κ X w.heap.size w1.heap.size 0 false d a.e w1.drawn).f b=b from P]at this
  have M:w2.heap[w.heap.size+b]?=some (dR (qX κ X w.heap.size w1.heap.size 1 true d a.e w1.drawn) B):=by have:=I.h.e b B p r;rwa [show (qX κ X w.heap.size w1.heap.size 1 true d a.e w1.drawn).f b=w.heap.size+b from Q]at this
  have R:w2.heap[b]?=w.heap[b]?:=by
   rw[I.i b (by show b<(w.heap++w.heap).size;rw[jT];omega) λb2 D _ q=>?_];exact Ps j;replace q:sJ w.heap.size w1.heap.size 1 κ.G true b2=b:=q;unfold sJ at q;rw[aH D]at q;split at q;omega;subst q;simp[k]at *
  have S:w2.heap[w.heap.size+b]?=w.heap[b]?:=by
   rw[F.i _ (by show w.heap.size+b<(w.heap++w.heap).size;rw[jT];omega) λb2 D _ q=>?_];show (w.heap++w.heap)[w.heap.size+b]?=_;rw[jS ak,l7];replace q:sJ w.heap.size w1.heap.size 0 κ.G false b2=w.heap.size+b:=q;unfold sJ at q;rw[aH D]at q;simp at q;omega
  rw[R,hc]at C;rw[S,hc]at M;have u:=bb C;have s:=Xk l (u.symm.trans (bb M));cases B with
  |cells c1 W Y=>
   simp only[dR,Obj.cells.injEq]at u;have E:=a.h b _ p hc;have:c=c1:=by
    have e:dx _ c=dx _ c1:=(ll (⟨m.i,m.e⟩) c E).trans u.1;exact zL (n:=w1.heap.size) (h:=m.i) c c1 (gA.e d E) s e
   rw[r,hc,this,u.2.1,u.2.2]
  |_=>simp only[dR,reduceCtorEq]at u
 refine⟨⟨λb o v s=>?_,λb v=>?_,λb k=>?_⟩,L,λe T U=>?_⟩;cases hG:κ.G b with
 |true=>
  rw[L b hG]at s;exact Ml.e d (a.h b o v s)
 |false=>
  have C:=F.h.e b o v s;have j:=gu s;have:(qX κ X w.heap.size w1.heap.size 0 false d a.e w1.drawn).f b=(qX κ X w.heap.size w1.heap.size 1 true d a.e w1.drawn).f b:=by
   show sJ w.heap.size w1.heap.size 0 κ.G false b=sJ w.heap.size w1.heap.size 1 κ.G true b;unfold sJ;rw[hG];split;simp;first|rfl|rw[if_pos j,if_pos j]
  rw[this,(I.h.e b o v s)]at C;exact Xk l (bb C).symm
 obtain⟨c,t,V,D,_⟩:=F.h.x b v;exact⟨(a.x b v).1,c,t,V,D⟩;rw[L b k];exact a.g b k;replace J:=J.h;replace K:=K.h;have:(es.filter _).map _=(es.filter _).map _:=J.symm.trans K;exact UV l (C7 this e (by simp;exact⟨T,U⟩))
def pk(b:Sh κ X w)(hs:∀U,tn κ X w.heap.size U->bU P U (pa U) s s){a:α}(run:s.runT P w #[]=(.ok a w1,es)):
  Ui κ X w w1 es/\∃U ρ,kq κ w1.heap.size U ρ/\pa U a=pa ρ a:=by
 have c:w.heap.size<=w1.heap.size:=by
  have:=(pq P s w #[]).1;rw[run]at this;exact this
 have h0:=hs _ (oZ (N:=w1.drawn) b c 0 false) w (rj w) #[] #[] (DC b c 0 false) ⟨aY,λ_ e d=>absurd d aY⟩;have g:=hs _ (oZ (N:=w1.drawn) b c 1 true) w (rj w) #[] #[] (DC b c 1 true) ⟨aY,λ_ e d=>absurd d aY⟩;rw[run]at h0 g;rcases h0 (DN b c 0 false) with⟨j,_⟩|⟨w2,k,h,l,m⟩
 cases j;rcases g (DN b c 1 true) with⟨_,i⟩|⟨w3,n,f,o,p⟩
 rw[h]at i;exact i.elim;rw[h]at f;simp at f;obtain⟨⟨q,rfl⟩,rfl⟩:=f;exact⟨aal b m p l o,_,_,yB b c,q⟩
def mS(a:Sh κ X w)(hs:∀U,tn κ X w.heap.size U->bU P U (pa U) s s){v:Dv}(run:s.runT P w #[]=(.halt (.panic v) w1,es)):
  Ui κ X w w1 es/\gQ κ w1.heap.size v:=by
 have b:w.heap.size<=w1.heap.size:=by
  have:=(pq P s w #[]).1;rw[run]at this;exact this
 have h0:=hs _ (oZ (N:=w1.drawn) a b 0 false) w (rj w) #[] #[] (DC a b 0 false) ⟨aY,λ_ e c=>absurd c aY⟩;have f:=hs _ (oZ (N:=w1.drawn) a b 1 true) w (rj w) #[] #[] (DC a b 1 true) ⟨aY,λ_ e c=>absurd c aY⟩;rw[run]at h0 f;rcases h0 (DN a b 0 false) with⟨i,_⟩|⟨w2,j,g,k,l⟩
 cases i;rcases f (DN a b 1 true) with⟨_,h⟩|⟨w3,m,d,n,o⟩
 rw[g]at h;exact h.elim;rw[g]at d;simp at d;obtain⟨⟨p,rfl⟩,rfl⟩:=d;exact⟨aal a l o k n,xk (yB a b) v p⟩
end
def zp:Value->Bool
 |.bool _=>true
 |.int _ _=>true
 |.string _=>true
 |.nilFunc=>true
 |.nilIface=>true
 |.pointer none=>true
 |.slice none _ _=>true
 |_=>false
def Mz(P:Program)(κ:iW)(X:Nat->Bool)(a:Option Nat):Operand->Bool
 |.tmp t=>!(a==some t)
 |.const v=>zp v
 |.global g=>X g&&decide (g<P.globals.size)
 |.func f=>κ.b f
def UU(P:Program)(e:TypeId):Bool:=match P.underlying e with|some (.int .u8)=>true|_=>false
def Iu(P:Program)(s d:TypeId):Bool:=match P.underlying s,P.underlying d with
 |some (.int _),some (.int _)=>true
 |some (.slice e),some .string=>UU P e
 |some .string,some (.slice e)=>UU P e
 |some (.pointer _),some .unsafePointer=>true
 |some .unsafePointer,some (.pointer _)=>true
 |_,_=>false
def Qt(P:Program)(a:Array TypeId):Bool:=match (a[1]?).bind P.underlying with
 |some (.int _)=>false
 |some _=>true
 |none=>false
def Yu(P:Program)(b:Builtin)(a:Array TypeId):Bool:=match b with
 |.append=>Qt P a
 |.cap|.clear|.copy|.delete|.len|.max|.min|.recover|.unsafeSliceData|.unsafeString=>true
 |_=>false
def Iv(P:Program)(κ:iW):Op->Bool
 |.move _|.assign _|.pick ..|.alloc _|.box ..|.build ..|.buildSlice ..|.load ..|.store ..|.nilCheck _|.binOp ..|.unOp ..|.makeInterface ..|.makeMap ..|.makeSlice ..|.slice ..|.fieldAddr ..|.field ..
 |.indexAddr ..|.index ..|.lookup ..|.mapUpdate ..|.insert ..|.range ..|.next ..|.entry _|.typeAssert ..|.extract ..|.panic _=>true
 |.convert s d _=>Iu P s d
 |.makeFunc (.func f) _ _=>κ.b f
 |.call c=>match c.callee with|.builtin b=>Yu P b c.argTypes|.invoke _ n=>κ.h n|.value _=>true
 |.defer c=>match c.callee with|.builtin _=>false|.invoke _ n=>κ.h n|.value _=>true
 |_=>false
def one(P:Program)(t:TypeId):Bool:=match P.underlying t with|some (.struct _)=>false|some (.array _ _)=>false|some _=>true|none=>false
def pv(P:Program)(κ:iW)(X:Nat->Bool)(a:Option Nat)(o:Oper):Bool:=match o.op with
 |.load t (.global g)=>κ.G g&&one P t
 |.load t (.tmp x)=>a==some x&&one P t
 |.indexAddr _ (.global g) i=>κ.G g&&Mz P κ X a i&&(match o.dst with|some d=>a==some d|none=>false)
 |_=>false
def Xn:Option Nat:=some 1000000
def aaw(a:Option Nat):Op->Bool
 |.defer _=>!(a==Xn)
 |_=>true
def pc(P:Program)(κ:iW)(X:Nat->Bool)(a:Option Nat)(o:Oper):Bool:=aaw a o.op&&(pv P κ X a o||(Iv P κ o.op&&o.op.operands.all (Mz P κ X a)))
def gM(P:Program)(κ:iW)(X:Nat->Bool)(a:Option Nat):Code->Bool
 |.skip|.ret|.exit _|.refuse _=>true
 |.region _ b _=>b.all (pc P κ X a)
 |.seq c d=>gM P κ X a c&&gM P κ X a d
 |.cond x c d=>Mz P κ X a x&&gM P κ X a c&&gM P κ X a d
 |.block _ c|.loop c=>gM P κ X a c
 |.rangeFunc f _ c d=>a.isNone&&Mz P κ X a f&&κ.e c&&κ.e d
 |_=>false
structure jE(P:Program)(κ:iW)(X:Nat->Bool)(A:Nat->Option Nat):Prop where
 aaa:∀f fn c,κ.b f=true->P.funcs[f]?=some fn->fn.body=some c->gM P κ X (A f) c=true
 res:∀f fn,κ.b f=true->P.funcs[f]?=some fn->∀r∈fn.results,∀t,(r=.tmp t\/∃u,r=.cell t u)->A f≠some t/\Xn≠some t
 PK:∀c,κ.e c=true->gM P κ X Xn c=true
 aac:∀g,P.stepOf g=none
 PL:∀f,κ.b f=true->∃fn,P.funcs[f]?=some fn
 aab:∀f,κ.b f=true->P.inits.idxOf? f=none
 Xc:P.follows .staticDataAhead=true
 Ky:P.follows .rangeFuncRecover=true
 PM:X P.globals.size=true
 abF:∀g,g<P.globals.size->κ.G g=true\/X g=true
 g:∀g,κ.G g=true->g<P.globals.size
 PJ:∀U,Of κ U->U.f P.globals.size=P.globals.size->(U.wk=false->∀b,b<P.globals.size->U.f b<P.globals.size)->(∀b,U.f b<P.globals.size->b<P.globals.size)->fD P U
 ext:∀U,Of κ U->(∀b,X b=true->b<P.globals.size->U.f b=b)->fD P U->qK P U
structure nu(P:Program)(κ:iW)(X:Nat->Bool)(U:Pm):Prop where
 h:Of κ U
 x:U.X=X
 j:U.wk=false
 i:∀b,b<=P.globals.size->U.f b=b
def ja(U:Pm):Item->Item
 |.inRangeFunc l=>.inRangeFunc (U.f l)
 |.endRangeFunc l=>.endRangeFunc (U.f l)
 |.call d w r s=>.call (kQ U d) w r (dx U s)
 |.extern r a=>.extern r (dx U a)
 |i=>i
def xN(U:Pm)(e:PanicEntry):PanicEntry:={e with v:=pV U e.v}
def jZ(U:Pm):FrameMode->FrameMode
 |.panicking c=>.panicking (c.map (xN U))
 |m=>m
def i9(U:Pm)(fr:Frame):Frame:={fr with tmps:=dx U fr.tmps,todo:=fr.todo.map (ja U),defers:=fr.defers.map (kQ U),mode:=jZ U fr.mode,roundOf:=fr.roundOf.map U.f}
def Ih(P:Program)(κ:iW)(X:Nat->Bool)(n:Nat)(a:Option Nat):Item->Prop
 |.code c=>gM P κ X a c=true
 |.inBlock _=>True
 |.inLoop c=>gM P κ X a c=true
 |.inScope _=>False
 |.inRegion b _=>b.all (pc P κ X a)=true
 |.inRangeFunc l=>fU κ n l
 |.endRangeFunc l=>fU κ n l
 |.beginRound=>True
 |.call ..=>False
 |.extern ..=>False
def yM(κ:iW)(n:Nat)(a:Option Nat)(t:Nat)(v:Value):Prop:=gQ κ n v\/(a=some t/\∃p,v=.pointer (some p)/\κ.G p.block=true)
def UJ(κ:iW)(n:Nat):FrameMode->Prop
 |.panicking c=>∀e∈c,gQ κ n e.v
 |_=>True
def aF(A:Nat->Option Nat)(fr:Frame):Option Nat:=match fr.roundOf with|some _=>Xn|none=>A fr.fn
structure gp(P:Program)(κ:iW)(X:Nat->Bool)(A:Nat->Option Nat)(n:Nat)(fr:Frame):Prop where
 u:κ.b fr.fn=true
 j:∀t v,fr.tmps[t]?=some v->yM κ n (aF A fr) t v
 p:∀i∈fr.todo,Ih P κ X n (aF A fr) i
 b:∀d∈fr.defers,uC κ n d
 s:UJ κ n fr.mode
 o:fr.kind=.normal\/fr.kind=.deferred
 h:∀l,fr.roundOf=some l->fU κ n l
section
variable{X:Nat->Bool}{A:Nat->Option Nat}{n:Nat}
def vX{v:Dv}(h:zp v=true):gQ κ n v:=by
 cases v with
 |pointer a=>cases a with
  |none=>intro x e;cases e
  |some a=>cases h
 |slice a l c=>cases a with
  |none=>intro x e;cases e
  |some a=>cases h
 |bool b=>trivial
 |int k m=>trivial
 |string s=>trivial
 |nilFunc=>trivial
 |nilIface=>trivial
 |_=>cases h
def MC(a:Of κ U){v:Dv}(h:zp v=true):pV U v=v:=rl (κ:=κ) (n:=0) ⟨a,λb c=>absurd c.1 (gV _)⟩ v (vX h)
def Mx{s d:DU}(h:Iu P s d=true):OkConv P s d:=by
 unfold Iu at h;have f:∀e,UU P e=true->P.underlying e=some (.int .u8):=λe c=>by
  unfold UU at c;split at c;assumption;cases c
 split at h;rename_i k g a b;exact .ints _ _ a b;rename_i e a b;exact .bytes e a b (f e h);rename_i e a b;exact .text e a b (f e h);rename_i t a b;exact .ptr t a b;rename_i t a b;exact .back t a b;cases h
def U0{b:Builtin}{a:Array DU}(h:Yu P b a=true):okB P b a:=by
 unfold Yu at h;split at h;unfold Qt at h;show Io P a;cases h1:a[1]? with
 |none=>simp[h1]at h
 |some c=>
  simp only[h1,H0]at h;cases h2:P.underlying c with
  |none=>simp[h2]at h
  |some d=>exact⟨c,d,h1,h2,λk e=>by subst e;simp[h2]at h⟩
 all_goals first|trivial|cases h
def KL(i:Of κ U){o:Op}(h:Iv P κ o=true):Z7 P U o:=by
 cases o<;>first|exact aB|cases h|skip
 case convert s d x=>exact Mx h
 case makeFunc fn a b=>
  cases fn with
  |func f=>show Fn.func (oy U f)=.func f;rw[kA (i.1▸h)]
  |_=>cases h
 case call c=>
  let ⟨e,g,j⟩:=c
  cases e with
  |builtin b=>exact U0 h
  |invoke r m=>show U.wS m=true;rw[i.2.1];exact h
  |value f=>trivial
 case defer c=>
  let ⟨e,g,j⟩:=c
  cases e with
  |builtin b=>cases h
  |invoke r m=>show U.wS m=true;rw[i.2.1];exact h
  |value f=>trivial
def zD{a:Option Nat}{o:Oper}(h:pv P κ X a o=true):Iv P κ o.op=true:=by
 unfold pv at h;split at h<;>first|cases h|(rename_i q;rw[q];rfl)
def lh:gQ κ n undef:=aB
end
section
variable{X:Nat->Bool}{A:Nat->Option Nat}{n:Nat}
def jq:∀{a:Array Dv},gA κ n a↔∀v∈a,gQ κ n v
 |⟨l⟩=>by
  have:∀l:List Dv,p9 κ n l↔∀v∈l,gQ κ n v:=by
   intro l;induction l with
   |nil=>exact⟨λ_ v h=>absurd h aY,λ_=>aB⟩
   |cons v l c=>exact⟨λh x b=>by rcases bG.1 b with rfl|b;exact h.1;exact c.1 h.2 x b,λh=>⟨h v aY,c.2 λx b=>h x (by simp[b])⟩⟩
  show p9 κ n l↔_;rw[this];simp
def yM.e{m:Nat}(b:n<=m){a:Option Nat}{t:Nat}{v:Dv}(h:yM κ n a t v):yM κ m a t v:=h.imp (gQ.e b) id
def Ih.e{m:Nat}(b:n<=m){a:Option Nat}{i:Item}(h:Ih P κ X n a i):Ih P κ X m a i:=by
 cases i<;>first|exact h|exact fU.e h b
def UJ.e{m:Nat}(a:n<=m){x:FrameMode}(h:UJ κ n x):UJ κ m x:=by
 cases x<;>first|trivial|exactλe b=>gQ.e a (h e b)
def gp.e{m:Nat}(a:n<=m)(h:gp P κ X A n fr):gp P κ X A m fr:=
 ⟨h.u,λt v e=>(h.j t v e).e a,λi c=>(h.p i c).e a,λd f=>uC.e a (h.b d f),h.s.e a,h.o,λl e=>(h.h l e).e a⟩
def okY(P:Program)(κ:iW):Operand->Prop
 |.tmp _=>True
 |.const v=>zp v=true
 |.global g=>g<P.globals.size
 |.func f=>κ.b f=true
theorem yc:pV U undef=undef:=rfl
def vN(T:nu P κ X U)(h:okY P κ x):(i9 U fr).eval x=pV U (fr.eval x):=by
 cases x with
 |tmp t=>
  show (dx U fr.tmps).getD t undef=pV U (fr.tmps.getD t undef);rw[dF,bD,bD,b9];cases fr.tmps[t]?<;>rfl
 |const v=>exact(MC T.h h).symm
 |global g=>show Value.pointer (some (aA g 0))=.pointer (some (aA (U.f g) 0));rw[T.i g (vH h)]
 |func f=>show Value.func (.func f) #[] #[]=.func (.func (oy U f)) #[] #[];rw[kA (T.h.1▸h)]
def uA(R:jE P κ X A)(b:Sh κ X w)(c:gp P κ X A w.heap.size fr)(h:Mz P κ X (aF A fr) x=true):gQ κ w.heap.size (fr.eval x):=by
 cases x with
 |tmp t=>
  show gQ κ _ (fr.tmps.getD t undef);rw[bD];cases q:fr.tmps[t]? with
  |none=>exact lh
  |some v=>
   rcases c.j t v q with a|⟨a,_⟩
   exact a;simp[Mz,a]at h
 |const v=>exact vX h
 |global g=>
  intro y e;cases e;simp only[Mz,aR]at h;exact⟨(b.e g h.1).1,(b.e g h.1).2⟩
 |func f=>exact⟨h,aB,aB⟩
theorem mR:(i9 U fr).todo=fr.todo.map (ja U):=rfl
def QF(a:Array Dv)(d:Nat)(v:Dv):(dx U a).setIfInBounds d (pV U v)=dx U (a.setIfInBounds d v):=by
 rw[dF,dF];rw[Array.map_setIfInBounds]
def jg(fr:Frame)(v:Dv):(i9 U fr).finish (pV U v)=i9 U (fr.finish v):=by
 obtain⟨fn,e,a,b,f,g,m⟩:=fr;cases a with
 |nil=>rfl
 |cons i k=>
  cases i with
  |inRegion c l=>
   cases l with
   |nil=>rfl
   |cons j rest=>
    simp only[i9,Frame.finish,List.map,ja];cases (c[j]?).bind (·.dst) with
    |none=>rfl
    |some d=>simp only[QF]
  |inRangeFunc l=>rfl
  |beginRound=>rfl
  |call d w r s=>
   simp only[i9,Frame.finish,List.map,ja,Frame.mk.injEq,gr,Item.extern.injEq,lD,true_and,dF,Array.map_push]
  |extern r h=>
   simp only[i9,Frame.finish,List.map,ja];rfl
  |_=>rfl
def jV(h:gp P κ X A n fr){v:Dv}(L:∀o d,fr.oper?=some o->o.dst=some d->yM κ n (aF A fr) d v):gp P κ X A n (fr.finish v):=by
 let ⟨fn,C,D,c,E,F,M⟩:=fr
 let ⟨g,f,z,m,p,x,y⟩:=h
 dsimp only at g f z m p x y;cases D with
 |nil=>exact⟨g,f,z,m,p,x,y⟩
 |cons H k=>
  have I:∀i∈k,Ih P κ X n (aF A ⟨fn,C,H::k,c,E,F,M⟩) i:=λi B=>z i (by simp[B]);have B:=z H aY;cases H with
  |inRegion G l=>
   cases l with
   |nil=>exact⟨g,f,z,m,p,x,y⟩
   |cons j rest=>
    refine⟨g,?_,?_,m,p,x,y⟩;intro t u b;simp only[Frame.finish]at b⊢;cases q:(G[j]?).bind (·.dst) with
    |none=>rw[q]at b;exact f t u b
    |some d=>
     rw[q]at b;dsimp only at b;rw[ee]at b;by_cases e:d=t;subst e;rw[aH rfl]at b;split at b;cases b;cases qo:G[j]? with
     |none=>simp[qo]at q
     |some o=>exact L o d qo (by simpa[qo] using q)
     cases b;rw[ay e]at b;exact f t u b
    intro J a;rcases bG.1 a with rfl|a
    exact B;exact I J a
  |inRangeFunc l=>
   refine⟨g,f,?_,m,p,x,y⟩;intro J a;rcases bG.1 a with rfl|a
   exact B;exact I J a
  |beginRound=>exact⟨g,f,I,m,p,x,y⟩
  |call d w r s=>exact B.elim
  |extern r K=>exact B.elim
  |_=>exact⟨g,f,z,m,p,x,y⟩
def po(fr:Frame)(vs:List PanicEntry):(i9 U fr).raise (vs.map (xN U))=i9 U (fr.raise vs):=by
 let ⟨fn,c,d,b,a,e,f⟩:=fr
 cases a<;>simp[Frame.raise,i9,jZ]
def rS(h:gp P κ X A n fr)(m:∀e∈vs,gQ κ n e.v):gp P κ X A n (fr.raise vs):=by
 let ⟨fn,o,p,d,a,q,s⟩:=fr
 let ⟨f,g,i,j,r,k,l⟩:=h
 dsimp only at f g i j r k l;cases a with
 |panicking c=>
  refine⟨f,g,i,j,?_,k,l⟩;intro e b;rcases cI.1 b with b|b
  exact m e b;exact r e b
 |_=>exact⟨f,g,i,j,m,k,l⟩
def pm(fr:Frame):(fr.raise vs).kind=fr.kind:=by
 let ⟨fn,c,d,b,a,e,f⟩:=fr
 cases a<;>rfl
def jf(fr:Frame)(v:Dv):(fr.finish v).kind=fr.kind:=by
 let ⟨fn,b,c,a,d,e,f⟩:=fr
 unfold Frame.finish;repeat' split
 all_goals rfl
def yJ(f:FuncId)(args:Array Dv)(k:CallKind):Frame.enter P f (dx U args) k=i9 U (Frame.enter P f args k):=by
 simp only[Frame.enter,i9,dF,eh,nj,AS,yc,List.map,ja,jZ];rfl
def oa(R:jE P κ X A){f:FuncId}(a:κ.b f=true){args:Array Dv}(g:gA κ n args)(j:k=.normal\/k=.deferred):gp P κ X A n (Frame.enter P f args k):=by
 refine⟨a,λt v e=>?_,λi m=>?_,λd o=>?_,aB,j,λl e=>by cases e⟩;refine .inl ?_;have:=dK e;rcases cE.1 this with h|h
 exact jq.1 g v h;rw[PC h];exact lh;have:i=_:=bA.1 m;subst this;show gM P κ X (A f) _=true;cases q:P.funcs[f]? with
 |none=>rfl
 |some fn=>
  cases qb:fn.body with
  |none=>simp[qb,gM]
  |some c=>simp only[H0,qb,di];exact R.aaa f fn c a q qb
 exact absurd o gD
theorem zy(l:Nat)(f:FuncId)(c:Array Dv)(a b:Code)(k:CallKind):Frame.round (U.f l) f (dx U c) a b k=i9 U (Frame.round l f c a b k):=rfl
def B5(R:jE P κ X A){l:Nat}{f:FuncId}(h:κ.b f=true){c:Array Dv}(j:gA κ n c)(m:fU κ n l){a b:Code}(o:κ.e a=true)(p:κ.e b=true)(q:k=.normal\/k=.deferred):gp P κ X A n (Frame.round l f c a b k):=by
 refine⟨h,λt v e=>.inl (jq.1 j v (dK e)),λi g=>?_,λd r=>absurd r gD,aB,q,λs e=>by cases e;exact m⟩;simp only[Frame.round,bG,gD,yv]at g;rcases g with rfl|rfl|rfl
 exact R.PK _ o;trivial;exact R.PK _ p
def vO{id:Nat}:∀k:List Item,exitTo id (k.map (ja U))=(exitTo id k).map (·.map (ja U))
 | []=>rfl
 |i::k=>by
  cases i with
  |inBlock a=>
   simp only[List.map,ja,exitTo];split;rfl;exact vO k
  |_=>simp;exact vO k
def yK(id:Nat):∀(k k1:List Item),exitTo id k=some k1->∀i∈k1,i∈k
 | [],k1,h=>by cases h
 |i::k,k1,h=>by
  intro j a;cases i with
  |inBlock b=>
   simp only[exitTo]at h;split at h;cases h;simp[a];simp[yK id k k1 h j a]
  |_=>simp only[exitTo]at h;simp[yK id k k1 h j a]
def A0:Frame->List Frame->Prop
 |fr,[]=>fr.kind=.normal
 |_,c::a=>A0 c a
def A0.e{a b:Frame}(h:a.kind=b.kind):∀{c:List Frame},A0 a c->A0 b c
 | [],q=>by show b.kind=_;rw[<-h];exact q
 |_::_,q=>q
def UL:gQ κ n .nilIface:=aB
end
end Go.Eqv
