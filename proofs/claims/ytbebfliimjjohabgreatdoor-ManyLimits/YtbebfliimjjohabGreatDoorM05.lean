/- Parts of the proof. -/
import Derived.Test.YtbebfliimjjohabGreatDoorM04
set_option maxRecDepth 100000
set_option maxHeartbeats 8000000
set_option linter.all false
namespace Go.Eqv
variable{es:Array Event}{k:CallKind}{c:Code}{d:Deferred}{f:Fn}{fr:Frame}{vs:List PanicEntry}{o:Obj}{x:Operand}{U ρ:Pm}{P:Bo}{t:Target}{α β:Type}{w w1:A1}{κ:ju}{g:α->β}{pa:Pm->α->α}{s:Sem α}
def Oa(κ:ju)(n:Nat):Target->Prop
 |.fn fn c=>rQ κ n fn/\gX κ n c
 |.collected r=>gC κ n r
 |.coroexit _=>False
 |.nil=>True
 |.builtin ..=>False
def vI(κ:ju)(n:Nat)(d:Deferred):Prop:=Oa κ n d.target/\gX κ n d.args
def N9(κ:ju)(n:Nat):Obj->Prop
 |.cells c _ _=>gX κ n c
 |.pending c _=>gX κ n c
 |.view a _=>gC κ n a.block
 |.number a _=>gC κ n a.block
 |.map es _=>∀e∈es,ix κ n e.key/\ix κ n e.val
 |.chan _ b _ _ _ _=>gX κ n b
 |.stringIter _ _=>True
 |.mapIter m _ _ _=>∀x,m=some x->gC κ n x
 |.loop l=>κ.b l.fn=true/\gX κ n l.tmps/\gC κ n l.defers/\κ.e l.assign=true/\κ.e l.body=true/\∀c,l.pending=some c->WK c=true
 |.deferred f=>∀l,f=some l->∀d∈l,vI κ n d
 |.coro _=>True
 |.finalizers g _=>∀x∈g,gC κ n x.1/\vI κ n x.2
section
variable{n:Nat}
def Mm(h:oI κ n U ρ)(hc:κ.e c=true):pC U c=pC ρ c:=by simp only[pC,h.1.2.2,h.2.1.2.2,hc,dC]
def RL(_:oI κ n U ρ){o:Option Code}(hc:∀c,o=some c->WK c=true):o.map (pJ U)=o.map (pJ ρ):=by
 cases o with
 |none=>rfl
 |some c=>simp only[Option.map,pJ,hc c rfl,dC]
def Mn(h:lm κ n U ρ)(e:pC U c=pC ρ c):κ.e c=true:=by
 simp only[pC,h.1.2.2,h.2.1.2.2]at e;cases q:κ.e c with
 |true=>rfl
 |false=>rw[q]at e;exact absurd (Code.label.inj e) h.2.2.1
def RM(h:lm κ n U ρ){o:Option Code}(e:o.map (pJ U)=o.map (pJ ρ)):∀c,o=some c->WK c=true:=by
 rintro c rfl;replace e:=aZ e;simp only[pJ]at e;cases q:WK c with
 |true=>rfl
 |false=>rw[q]at e;exact absurd (Code.label.inj e) h.2.2.1
def gC.e{m b:Nat}(h:gC κ n b)(a:n<=m):gC κ m b:=⟨aO h.1 a,h.2⟩
def rQ.e{m:Nat}(a:n<=m)(h:rQ κ n f):rQ κ m f:=by
 cases f<;>first|exact h|exact gC.e h a
mutual
theorem ix.e{m:Nat}(hm:n<=m):∀{v},ix κ n v->ix κ m v
 |.pointer _,h=>λx e=>(h x e).e hm
 |.slice _ _ _,h=>λx e=>(h x e).e hm
 |.map _,h=>λx e=>(h x e).e hm
 |.chan _,h=>λx e=>(h x e).e hm
 |.func _ _ _,h=>⟨h.1.e hm,gX.e hm h.2.1,gX.e hm h.2.2⟩
 |.iface _ v,h=>ix.e hm (v:=v) h
 |.agg cs,h=>gX.e hm (a:=cs) h
 |.tuple cs,h=>gX.e hm (a:=cs) h
 |.bool _,_=>aE
 |.int _ _,_=>aE
 |.float _ _,_=>aE
 |.complex _ _ _,_=>aE
 |.string _,_=>aE
 |.nilFunc,_=>aE
 |.nilIface,_=>aE
theorem gX.e{m:Nat}(hm:n<=m):∀{a},gX κ n a->gX κ m a
 |⟨l⟩,h=>rh.e hm (l:=l) h
theorem rh.e{m:Nat}(hm:n<=m):∀{l},rh κ n l->rh κ m l
 | [],_=>aE
 |v::l,h=>⟨ix.e hm (v:=v) h.1,rh.e hm (l:=l) h.2⟩
end
def Oa.e{m:Nat}(a:n<=m)(h:Oa κ n t):Oa κ m t:=by
 cases t<;>first|exact h|exact gC.e h a|exact⟨h.1.e a,h.2.e a⟩
def vI.e{m:Nat}(a:n<=m)(h:vI κ n d):vI κ m d:=⟨h.1.e a,h.2.e a⟩
def N9.e{m:Nat}(f:n<=m)(h:N9 κ n o):N9 κ m o:=by
 cases o with
 |cells c t z=>exact gX.e f (a:=c) h
 |pending c t=>exact gX.e f (a:=c) h
 |view a t=>exact gC.e h f
 |number a b=>exact gC.e h f
 |map es c=>exactλe g=>⟨(h e g).1.e f,(h e g).2.e f⟩
 |chan c b j s r t=>exact gX.e f (a:=b) h
 |stringIter s p=>trivial
 |mapIter k s q u=>exactλx e=>(h x e).e f
 |loop l=>exact⟨h.1,h.2.1.e f,h.2.2.1.e f,h.2.2.2⟩
 |deferred v=>exactλl e d hd=>(h l e d hd).e f
 |coro p=>trivial
 |finalizers w r=>exactλx i=>⟨(h x i).1.e f,(h x i).2.e f⟩
def W8(h:oI κ n U ρ)(a:Oa κ n t):ir U t=ir ρ t:=by
 cases t with
 |fn fn c=>simp only[ir];rw[Gp h a.1,kj h c a.2]
 |collected r=>simp only[ir];rw[h.2.2 r a]
 |coroexit r=>exact a.elim
 |builtin b _ _ _=>exact a.elim
 |nil=>rfl
def El(h:oI κ n U ρ)(hd:vI κ n d):lN U d=lN ρ d:=by
 simp only[lN];rw[W8 h hd.1,kj h d.args hd.2]
def WI(h:oI κ n U ρ)(f:N9 κ n o):ei U o=ei ρ o:=by
 cases o with
 |cells c t z=>simp only[ei];rw[kj h c f]
 |pending c t=>simp only[ei];rw[kj h c f]
 |view a t=>simp only[ei,br];rw[h.2.2 _ f]
 |number a b=>simp only[ei,br];rw[h.2.2 _ f]
 |map es c=>
  simp only[ei];congr 1;refine il λe g=>?_;simp only[ew];rw[tq h _ (f e g).1,tq h _ (f e g).2]
 |chan c b k s r t=>simp only[ei];rw[kj h b f]
 |stringIter s p=>rfl
 |mapIter m s q u=>simp only[ei];rw[uA h f]
 |loop l=>
  simp only[ei,pP,pM,h.1.1,h.2.1.1,f.1,dC];rw[kj h _ f.2.1,h.2.2 _ f.2.2.1,Mm h f.2.2.2.1,Mm h f.2.2.2.2.1,RL h f.2.2.2.2.2]
 |deferred j=>
  cases j with
  |none=>rfl
  |some l=>
   simp only[ei,Option.map];congr 2;exact gL λd hd=>El h (f l rfl d hd)
 |coro p=>rfl
 |finalizers v r=>
  simp only[ei];congr 1;refine il λx i=>?_;rw[h.2.2 _ (f x i).1,El h (f x i).2]
def Eg{f:α->β}{a:Array α}(e:a.map f=a.map g):∀x∈a,f x=g x:=by
 intro x b;obtain⟨i,c,rfl⟩:=xR.1 b;have:=bY (·[i]?) e;simp only[cD,bj c,Option.map,aW]at this;exact this
def vM{f:α->β}:∀{l:List α},l.map f=l.map g->∀x∈l,f x=g x
 | [],_,x,b=>by cases b
 |a::l,e,x,b=>by
  simp only[cE,gP]at e;rcases bN.1 b with rfl|b
  exact e.1;exact vM e.2 x b
def acv(h:lm κ n U ρ)(e:ir U t=ir ρ t):Oa κ n t:=by
 cases t with
 |fn fn c=>simp only[ir,Target.fn.injEq]at e;exact⟨zQ h e.1,mY h c e.2⟩
 |collected r=>simp only[ir,Target.collected.injEq]at e;exact lu h e
 |coroexit r=>exact h.2.2.1 (Target.collected.inj e)
 |builtin b _ _ _=>exact h.2.2.1 (Target.collected.inj e)
 |nil=>trivial
def Gj(h:lm κ n U ρ)(e:lN U d=lN ρ d):vI κ n d:=by
 simp only[lN,Deferred.mk.injEq]at e;exact⟨acv h e.1,mY h _ e.2⟩
def Y0(h:lm κ n U ρ)(e:ei U o=ei ρ o):N9 κ n o:=by
 cases o with
 |cells c t z=>simp only[ei,Obj.cells.injEq,mh]at e;exact mY h c e
 |pending c t=>simp only[ei,Obj.pending.injEq,mh]at e;exact mY h c e
 |view a t=>simp only[ei,Obj.view.injEq,br,kK]at e;exact lu h e.1.1
 |number a b=>simp only[ei,Obj.number.injEq,br,kK]at e;exact lu h e.1.1
 |map es c=>
  simp only[ei,Obj.map.injEq,mh]at e;intro x f;have:=Eg e x f;simp only[ew,MapEntry.mk.injEq]at this;exact⟨ye h _ this.1,ye h _ this.2.1⟩
 |chan c b j s r t=>simp only[ei,Obj.chan.injEq]at e;exact mY h b e.2.1
 |stringIter s p=>trivial
 |mapIter g s k m=>simp only[ei,Obj.mapIter.injEq]at e;exact Ao h g e.1
 |loop l=>
  simp only[ei,pP,Obj.loop.injEq,Loop.mk.injEq]at e;refine⟨?_,mY h _ e.2.2.2.1,lu h (by simpa using e.2.2.2.2.2.2.2),Mn h e.2.2.2.2.2.1,Mn h e.2.2.2.2.2.2.1,RM h e.2.1⟩;exact zQ (fn:=.func l.fn) h (by simp only[oZ];rw[e.2.2.1])
 |deferred q=>
  intro l i d hd;subst i;simp only[ei,Option.map,Obj.deferred.injEq,aW]at e;exact Gj h (vM e d hd)
 |coro p=>trivial
 |finalizers u r=>
  simp only[ei,Obj.finalizers.injEq,mh]at e;intro x f;have:=Eg e x f;simp at this;exact⟨lu h this.1,Gj h this.2⟩
end
structure Sh(κ:ju)(X:Nat->Bool)(w:World):Prop where
 h:∀b o,X b=false->w.heap[b]?=some o->N9 κ w.heap.size o
 x:∀b,X b=true->κ.G b=false/\∃c t,w.heap[b]?=some (.pending c t)/\c.size≠0
 g:∀b,κ.G b=true->∃c t z,w.heap[b]?=some (.cells c t z)
structure uq(κ:ju)(X:Nat->Bool)(n:Nat)(U:Pm):Prop where
 i:Of κ U
 x:U.X=X
 e:∀b,gC κ n b->U.f b=b
 j:U.wk=false->∀b,b<n->U.f b=b
 o:∀b,U.f b<n->U.f b=b
section
variable{X:Nat->Bool}
def tY(n a j:Nat)(G:Nat->Bool)(mv:Bool)(b:Nat):Nat:=
 if b<n then (if mv&&G b then n+b else b) else if b<a then b+n else 2*b+4*a+4*n+j
def Wu{n c j:Nat}{G:Nat->Bool}{mv:Bool}(d:n<=c){a b:Nat}(h:tY n c j G mv a=tY n c j G mv b):a=b:=by
 unfold tY at h;repeat' split at h
 all_goals omega
def rX(κ:ju)(X:Nat->Bool)(n d j:Nat)(mv:Bool)(i:n<=d)(g:∀b,X b=true->b<n/\κ.G b=false)(N:Nat):Pm where
 f:=tY n d j κ.G mv
 Gc:=Wu i
 zx:=κ.b
 xT:=κ.h
 VL:=κ.e
 k:=j
 X:=X
 Y:=X
 xy:=by
  intro b;unfold tY;have a:∀c,n<=c->X c=false:=λc hc=>by
   cases q:X c with
   |false=>rfl
   |true=>exact absurd (g c q).1 (Nat.not_lt.2 hc)
  split
  .split
   .rename_i h;simp only[bh]at h;rw[a _ (by omega)];cases q:X b with
    |false=>rfl
    |true=>rw[(g b q).2]at h;cases h.2
   .rfl
  .rw[a b (by omega)];split
   .exact a _ (by omega)
   .exact a _ (by omega)
 wk:=mv
 N:=N
 pn:=true
def NI(κ:ju)(n:Nat)(U:Pm):Prop:=Of κ U/\∀b,gC κ n b->U.f b=b
section
variable{n:Nat}
def YT(h:NI κ n U)(hc:κ.e c=true):pC U c=c:=by simp only[pC,h.1.2.2,hc,dC]
def ZV(_:NI κ n U){o:Option Code}(hc:∀c,o=some c->WK c=true):o.map (pJ U)=o:=by
 cases o with
 |none=>rfl
 |some c=>simp only[Option.map,pJ,hc c rfl,dC]
def RU(h:NI κ n U){fn:Fn}(a:rQ κ n fn):oZ U fn=fn:=by
 obtain⟨⟨c,d,_⟩,e⟩:=h;cases fn with
 |func f=>replace a:κ.b f=true:=a;simp[oZ,pM,c,a]
 |via t p f b=>replace a:κ.b f=true:=a;simp[oZ,pM,c,a]
 |method m=>replace a:κ.h m=true:=a;simp[oZ,d,a]
 |methodOf t m=>replace a:κ.h m=true:=a;simp[oZ,d,a]
 |yield l=>simp only[oZ];rw[e l a]
def MF(h:NI κ n U){a:Option Addr}(b:∀x,a=some x->gC κ n x.block):a.map (br U)=a:=by
 cases a with
 |none=>rfl
 |some a=>simp only[Option.map,br];rw[h.2 _ (b a rfl)]
def Aq(h:NI κ n U){a:Option Nat}(b:∀x,a=some x->gC κ n x):a.map U.f=a:=by
 cases a with
 |none=>rfl
 |some a=>simp;rw[h.2 _ (b a rfl)]
mutual
theorem su(h:NI κ n U):∀v,ix κ n v->pV U v=v
 |.pointer a,hv=>by simp only[pV];rw[MF h hv]
 |.slice a _ _,hv=>by simp only[pV];rw[MF h hv]
 |.map r,hv=>by simp only[pV];rw[Aq h hv]
 |.chan r,hv=>by simp only[pV];rw[Aq h hv]
 |.func fn a b,hv=>by simp only[pV];rw[RU h hv.1,lX h a hv.2.1,lX h b hv.2.2]
 |.iface _ v,hv=>by simp only[pV];rw[su h v hv]
 |.agg cs,hv=>by simp only[pV];rw[lX h cs hv]
 |.tuple cs,hv=>by simp only[pV];rw[lX h cs hv]
 |.bool _,_=>rfl
 |.int _ _,_=>rfl
 |.float _ _,_=>rfl
 |.complex _ _ _,_=>rfl
 |.string _,_=>rfl
 |.nilFunc,_=>rfl
 |.nilIface,_=>rfl
theorem lX(h:NI κ n U):∀a,gX κ n a->dI U a=a
 |⟨l⟩,hv=>by simp only[dI];rw[SX h l hv]
theorem SX(h:NI κ n U):∀l,rh κ n l->qj U l=l
 | [],_=>rfl
 |v::l,hv=>by simp only[qj];rw[su h v hv.1,SX h l hv.2]
end
def Y7(h:NI κ n U)(a:Oa κ n t):ir U t=t:=by
 cases t with
 |fn fn c=>simp only[ir];rw[RU h a.1,lX h c a.2]
 |collected r=>simp only[ir];rw[h.2 r a]
 |coroexit r=>exact a.elim
 |builtin b _ _ _=>exact a.elim
 |nil=>rfl
def RN(h:NI κ n U)(hd:vI κ n d):lN U d=d:=by
 simp only[lN];rw[Y7 h hd.1,lX h d.args hd.2]
def Sk(h:NI κ n U)(g:N9 κ n o):ei U o=o:=by
 cases o with
 |cells c t z=>simp only[ei];rw[lX h c g]
 |pending c t=>simp only[ei];rw[lX h c g]
 |view a t=>simp only[ei,br];rw[h.2 _ g]
 |number a b=>simp only[ei,br];rw[h.2 _ g]
 |map es c=>
  simp only[ei];congr 1;have:es.map (ew U)=es.map id:=il λe i=>by
   simp only[ew,id];rw[su h _ (g e i).1,su h _ (g e i).2]
  rw[this,Array.map_id]
 |chan c b q s r t=>simp only[ei];rw[lX h b g]
 |stringIter s p=>rfl
 |mapIter u s v w=>simp only[ei];rw[Aq h g]
 |loop l=>
  simp only[ei,pP,pM,h.1.1,g.1,dC];rw[lX h _ g.2.1,h.2 _ g.2.2.1,YT h g.2.2.2.1,YT h g.2.2.2.2.1,ZV h g.2.2.2.2.2]
 |deferred m=>
  cases m with
  |none=>rfl
  |some l=>
   simp only[ei,Option.map];congr 2;have:l.map (lN U)=l.map id:=gL λd hd=>RN h (g l rfl d hd);rw[this,List.map_id]
 |coro p=>rfl
 |finalizers j r=>
  simp only[ei];congr 1;have:(j.map λx=>(U.f x.1,lN U x.2))=j.map id:=il λx k=>by
   rw[h.2 _ (g x k).1,RN h (g x k).2];rfl
  rw[this,Array.map_id]
end
section
variable{n:Nat}
def Z8(h:Of κ U){g:Fn}(a:rQ κ n f)(b:rQ κ n g)(e:oZ U f=oZ U g):f=g:=by
 let ⟨c,d⟩:=h
 cases f<;>cases g<;>simp only[rQ]at a b<;>simp[oZ,pM,c,d,a,b]at e<;>first|exact e.elim|(simp[e];done)|(rw[U.Gc e])|skip
 all_goals simp_all
def GH{a b:Option Addr}(e:a.map (br U)=b.map (br U)):a=b:=by
 cases a<;>cases b<;>simp at e<;>first|rfl|(cases e;done)|skip
 rename_i a b;let ⟨c,d,f⟩:=a
 let ⟨g,h,i⟩:=b
 simp only[br,aW,kK]at e;rw[U.Gc e.1,e.2.1,e.2.2]
def GI{a b:Option Nat}(e:a.map U.f=b.map U.f):a=b:=by
 cases a<;>cases b<;>simp only[Option.map]at e<;>first|rfl|(cases e;done)|skip
 rw[U.Gc (aZ e)]
mutual
theorem Y8(h:Of κ U):∀v u,ix κ n v->ix κ n u->pV U v=pV U u->v=u
 |.pointer a,u,hv,hu,e=>by cases u<;>simp only[pV,reduceCtorEq]at e;simp only[Value.pointer.injEq]at e⊢;exact GH e
 |.slice a l c,u,hv,hu,e=>by cases u<;>simp only[pV,reduceCtorEq]at e;simp only[Value.slice.injEq]at e⊢;exact⟨GH e.1,e.2⟩
 |.map r,u,hv,hu,e=>by cases u<;>simp only[pV,reduceCtorEq]at e;simp only[Value.map.injEq]at e⊢;exact GI e
 |.chan r,u,hv,hu,e=>by cases u<;>simp only[pV,reduceCtorEq]at e;simp only[Value.chan.injEq]at e⊢;exact GI e
 |.func fn a b,u,hv,hu,e=>by
  cases u<;>simp only[pV,reduceCtorEq]at e;simp only[Value.func.injEq]at e⊢;exact⟨Z8 h hv.1 hu.1 e.1,AU (h:=h) a _ hv.2.1 hu.2.1 e.2.1,AU (h:=h) b _ hv.2.2 hu.2.2 e.2.2⟩
 |.iface t v,u,hv,hu,e=>by cases u<;>simp only[pV,reduceCtorEq]at e;simp only[Value.iface.injEq]at e⊢;exact⟨e.1,Y8 h v _ hv hu e.2⟩
 |.agg cs,u,hv,hu,e=>by cases u<;>simp only[pV,reduceCtorEq]at e;simp only[Value.agg.injEq]at e⊢;exact AU (h:=h) cs _ hv hu e
 |.tuple cs,u,hv,hu,e=>by cases u<;>simp only[pV,reduceCtorEq]at e;simp only[Value.tuple.injEq]at e⊢;exact AU (h:=h) cs _ hv hu e
 |.bool _,u,hv,hu,e=>by cases u<;>simp only[pV,reduceCtorEq]at e;exact e
 |.int _ _,u,hv,hu,e=>by cases u<;>simp only[pV,reduceCtorEq]at e;exact e
 |.float _ _,u,hv,hu,e=>by cases u<;>simp only[pV,reduceCtorEq]at e;exact e
 |.complex _ _ _,u,hv,hu,e=>by cases u<;>simp only[pV,reduceCtorEq]at e;exact e
 |.string _,u,hv,hu,e=>by cases u<;>simp only[pV,reduceCtorEq]at e;exact e
 |.nilFunc,u,hv,hu,e=>by cases u<;>simp only[pV,reduceCtorEq]at e;rfl
 |.nilIface,u,hv,hu,e=>by cases u<;>simp only[pV,reduceCtorEq]at e;rfl
theorem AU{h:Of κ U}:∀a b,gX κ n a->gX κ n b->dI U a=dI U b->a=b
 |⟨l⟩,⟨m⟩,ha,hb,e=>by
  simp only[dI,yQ]at e;rw[SY h l m ha hb e]
theorem SY(h:Of κ U):∀l m,rh κ n l->rh κ n m->qj U l=qj U m->l=m
 | [],[],_,_,_=>rfl
 | [],_::_,_,_,e=>by simp[qj]at e
 |_::_,[],_,_,e=>by simp[qj]at e
 |v::l,u::m,ha,hb,e=>by
  simp only[qj,gP]at e;rw[Y8 h v u ha.1 hb.1 e.1,SY h l m ha.2 hb.2 e.2]
end
end
end
def N8(κ:ju)(n:Nat)(e:Event):Prop:=match e.loc with
 |.cell a=>gC κ n a.block
 |.obj r=>gC κ n r
 |.mark m=>m=.noRoom\/∃f,m=.extern f
 |_=>True
def CS(X:Nat->Bool)(e:Event):Bool:=match e.loc with|.obj r=>!X r|.cell a=>!X a.block|_=>true
structure VX(κ:ju)(X:Nat->Bool)(w w1:World)(es:Array Event):Prop where
 i:Sh κ X w1
 g:∀b,κ.G b=true->w1.heap[b]?=w.heap[b]?
 h:∀e∈es,CS X e=true->N8 κ w1.heap.size e
section
variable{X:Nat->Bool}
def Sh.e(a:Sh κ X w):∀b,X b=true->b<w.heap.size/\κ.G b=false:=λb d=>by
 let ⟨f,c,t,g,_⟩:=a.x b d
 exact⟨gT g,f⟩
def Sh.H(a:Sh κ X w):∀b,κ.G b=true->b<w.heap.size:=λb d=>by
 let ⟨c,t,z,e⟩:=a.g b d
 exact gT e
def sr(w:World):World:={w with heap:=w.heap++w.heap}
def qA(f:Sh κ X w){c N:Nat}(g:w.heap.size<=c)(j:Nat)(mv:Bool):uq κ X w.heap.size (rX κ X w.heap.size c j mv g f.e N):=by
 refine⟨⟨rfl,rfl,rfl⟩,rfl,λb a=>?_,λd b a=>?_,λb a=>?_⟩;show tY w.heap.size c j κ.G mv b=b;unfold tY;rw[az a.1,a.2];simp;replace d:mv=false:=d;show tY w.heap.size c j κ.G mv b=b;unfold tY;rw[az a,d];simp
 .replace a:tY w.heap.size c j κ.G mv b<w.heap.size:=a;show tY w.heap.size c j κ.G mv b=b;unfold tY at a⊢;repeat' split
  all_goals first|rfl|(exfalso;repeat' split at a;all_goals first|omega|(simp_all;done)|(simp_all;omega))
def EL(d:Sh κ X w){g N:Nat}(m:w.heap.size<=g)(j:Nat)(mv:Bool):ur (rX κ X w.heap.size g j mv m d.e N) w (sr w):=by
 have p:=qA (N:=N) d m j mv;have k:∀b o,w.heap[b]?=some o->(sr w).heap[tY w.heap.size g j κ.G mv b]?=some o:=λb o a=>by
  have l:=gT a;unfold tY sr;rw[az l];split;rw[kC (by omega),ng];exact a;rw[Re l];exact a
 refine⟨λb o n a=>?_,λb n=>?_,λb u=>?_,λi q _=>rfl,rfl⟩;rw[show (sr w).heap[(rX κ X w.heap.size g j mv m d.e N).f b]?=_ from k b o a,Sk (⟨p.i,p.e⟩) (d.h b o n a)];obtain⟨_,c,t,r,s⟩:=d.x b n;exact⟨c,t,r,s,c,t,rfl,.inl ⟨rfl,k b _ r⟩⟩;show (w.heap++w.heap).size<=tY w.heap.size g j κ.G mv b;unfold tY;rw[ax (by omega),kD];split<;>omega
def EX(a:Sh κ X w)(c:w.heap.size<=w1.heap.size)(j:Nat)(mv:Bool):Ee (rX κ X w.heap.size w1.heap.size j mv c a.e w1.drawn) w (sr w) w1:=by
 refine⟨λb f d=>?_,aa _⟩;show tY w.heap.size w1.heap.size j κ.G mv b=(w.heap++w.heap).size+(b-w.heap.size);unfold tY;rw[ax (by omega),az d,kD];omega
def zC(d:Sh κ X w){a N:Nat}(g:w.heap.size<=a):lm κ a (rX κ X w.heap.size a 0 false g d.e N) (rX κ X w.heap.size a 1 true g d.e N):=by
 refine⟨⟨rfl,rfl,rfl⟩,⟨rfl,rfl,rfl⟩,(by show (0:Nat)≠1;omega),λb h=>?_⟩;show tY w.heap.size a 0 κ.G false b≠tY w.heap.size a 1 κ.G true b;unfold tY;by_cases c:b<w.heap.size;have i:κ.G b=true:=by
  cases q:κ.G b with
  |true=>rfl
  |false=>exact absurd ⟨by omega,q⟩ h
 rw[az c,az c,i];show (if (true&&false)=true then w.heap.size+b else b)≠if (true&&true)=true then w.heap.size+b else b
 rw[ax (by decide),az (by decide)];omega;rw[ax c,ax c];by_cases f:b<a;exact absurd ⟨f,by
  cases q:κ.G b with
  |false=>rfl
  |true=>exact absurd (d.H b q) c⟩ h
 rw[ax f,ax f];omega
def WC{n:Nat}(h:lm κ n U ρ){e:Event}(q:ua U e=ua ρ e):N8 κ n e:=by
 obtain⟨l,a,b⟩:=e;simp only[ua,Event.mk.injEq,mh]at q;unfold N8;cases l with
 |cell a=>simp only[mX,Loc.cell.injEq,br,kK]at q;exact lu h q.1
 |obj r=>simp only[mX,Loc.obj.injEq]at q;exact lu h q
 |output=>trivial
 |goroutines=>trivial
 |mark m=>
  cases m<;>first|exact .inl rfl|exact .inr ⟨_,rfl⟩|(simp only[mX,vR,Loc.mark.injEq,Mark.read.injEq,kK]at q;exact absurd q.1 h.2.2.1)
def acb(a:Sh κ X w){w2:A1}{y:Array Event}{d:w.heap.size<=w1.heap.size}(F:ll (rX κ X w.heap.size w1.heap.size 0 false d a.e w1.drawn) w (sr w) w1 w2)(I:ll (rX κ X w.heap.size w1.heap.size 1 true d a.e w1.drawn) w (sr w) w1 w2)(J:zu (rX κ X w.heap.size w1.heap.size 0 false d a.e w1.drawn) es y)(K:zu (rX κ X w.heap.size w1.heap.size 1 true d a.e w1.drawn) es y):VX κ X w w1 es:=by
 have l:=zC (N:=w1.drawn) a d;have m:=qA (N:=w1.drawn) a d 0 false;have A:=qA (N:=w1.drawn) a d 1 true;have P:NI κ w.heap.size (rX κ X w.heap.size w1.heap.size 1 true d a.e w1.drawn):=⟨A.i,A.e⟩;have L:∀b,κ.G b=true->w1.heap[b]?=w.heap[b]?:=by
  intro b k;have j:=a.H b k;have p:X b=false:=by
   cases q:X b with
   |false=>rfl
   |true=>rw[(a.x b q).1]at k;cases k
  obtain⟨B,r⟩:∃o,w1.heap[b]?=some o:=⟨_,bj (aO j d)⟩;obtain⟨c,t,z,hc⟩:=a.g b k;have Q:tY w.heap.size w1.heap.size 0 κ.G false b=b:=by unfold tY;rw[az j];simp
  have R:tY w.heap.size w1.heap.size 1 κ.G true b=w.heap.size+b:=by unfold tY;rw[az j,k];simp
  have C:w2.heap[b]?=some (ei (rX κ X w.heap.size w1.heap.size 0 false d a.e w1.drawn) B):=by have:=F.h.e b B p r;rwa [show (rX κ X w.heap.size w1.heap.size 0 false d a.e w1.drawn).f b=b from Q]at this
  have O:w2.heap[w.heap.size+b]?=some (ei (rX κ X w.heap.size w1.heap.size 1 true d a.e w1.drawn) B):=by have:=I.h.e b B p r;rwa [show (rX κ X w.heap.size w1.heap.size 1 true d a.e w1.drawn).f b=w.heap.size+b from R]at this
  have S:w2.heap[b]?=w.heap[b]?:=by
   rw[I.i b (by show b<(w.heap++w.heap).size;rw[kD];omega) λM D _ q=>?_];exact Re j;replace q:tY w.heap.size w1.heap.size 1 κ.G true M=b:=q;unfold tY at q;rw[az D]at q;split at q;omega;subst q;simp[k]at *
  have T:w2.heap[w.heap.size+b]?=w.heap[b]?:=by
   rw[F.i _ (by show w.heap.size+b<(w.heap++w.heap).size;rw[kD];omega) λM D _ q=>?_];show (w.heap++w.heap)[w.heap.size+b]?=_;rw[kC (by omega),ng];replace q:tY w.heap.size w1.heap.size 0 κ.G false M=w.heap.size+b:=q;unfold tY at q;rw[az D]at q;simp at q;omega
  rw[S,hc]at C;rw[T,hc]at O;have u:=aZ C;have s:=Y0 l (u.symm.trans (aZ O));cases B with
  |cells c1 Y Z=>
   simp only[ei,Obj.cells.injEq]at u;have E:=a.h b _ p hc;have:c=c1:=by
    have e:dI _ c=dI _ c1:=(lX (⟨m.i,m.e⟩) c E).trans u.1;exact AU (n:=w1.heap.size) (h:=m.i) c c1 (gX.e d E) s e
   rw[r,hc,this,u.2.1,u.2.2]
  |_=>simp only[ei,reduceCtorEq]at u
 refine⟨⟨λb o v s=>?_,λb v=>?_,λb k=>?_⟩,L,λe U V=>?_⟩;cases hG:κ.G b with
 |true=>
  rw[L b hG]at s;exact N9.e d (a.h b o v s)
 |false=>
  have C:=F.h.e b o v s;have j:=gT s;have:(rX κ X w.heap.size w1.heap.size 0 false d a.e w1.drawn).f b=(rX κ X w.heap.size w1.heap.size 1 true d a.e w1.drawn).f b:=by
   show tY w.heap.size w1.heap.size 0 κ.G false b=tY w.heap.size w1.heap.size 1 κ.G true b;unfold tY;rw[hG];split;simp;first|rfl|rw[if_pos j,if_pos j]
  rw[this,(I.h.e b o v s)]at C;exact Y0 l (aZ C).symm
 obtain⟨c,t,W,D,_⟩:=F.h.x b v;exact⟨(a.x b v).1,c,t,W,D⟩;rw[L b k];exact a.g b k;replace J:=J.h;replace K:=K.h;have:(es.filter _).map _=(es.filter _).map _:=J.symm.trans K;exact WC l (Eg this e (by simp;exact⟨U,V⟩))
def qC(b:Sh κ X w)(hs:∀U,uq κ X w.heap.size U->bZ P U (pa U) s s){a:α}(run:s.runT P w #[]=(.ok a w1,es)):
  VX κ X w w1 es/\∃U ρ,lm κ w1.heap.size U ρ/\pa U a=pa ρ a:=by
 have c:w.heap.size<=w1.heap.size:=by
  have:=nK P s w #[];rw[run]at this;exact this
 have h0:=hs _ (qA (N:=w1.drawn) b c 0 false) w (sr w) #[] #[] (EL b c 0 false) ⟨by simp,λ_ e d=>absurd d (by simp)⟩;have g:=hs _ (qA (N:=w1.drawn) b c 1 true) w (sr w) #[] #[] (EL b c 1 true) ⟨by simp,λ_ e d=>absurd d (by simp)⟩;rw[run]at h0 g;rcases h0 (EX b c 0 false) with⟨j,_⟩|⟨w2,k,h,l,m⟩
 cases j;rcases g (EX b c 1 true) with⟨_,i⟩|⟨w3,n,f,o,p⟩
 rw[h]at i;exact i.elim;rw[h]at f;simp at f;obtain⟨⟨q,rfl⟩,rfl⟩:=f;exact⟨acb b m p l o,_,_,zC b c,q⟩
def nU(a:Sh κ X w)(hs:∀U,uq κ X w.heap.size U->bZ P U (pa U) s s){v:Bg}(run:s.runT P w #[]=(.halt (.panic v) w1,es)):
  VX κ X w w1 es/\ix κ w1.heap.size v:=by
 have b:w.heap.size<=w1.heap.size:=by
  have:=nK P s w #[];rw[run]at this;exact this
 have h0:=hs _ (qA (N:=w1.drawn) a b 0 false) w (sr w) #[] #[] (EL a b 0 false) ⟨by simp,λ_ e c=>absurd c (by simp)⟩;have f:=hs _ (qA (N:=w1.drawn) a b 1 true) w (sr w) #[] #[] (EL a b 1 true) ⟨by simp,λ_ e c=>absurd c (by simp)⟩;rw[run]at h0 f;rcases h0 (EX a b 0 false) with⟨i,_⟩|⟨w2,j,g,k,l⟩
 cases i;rcases f (EX a b 1 true) with⟨_,h⟩|⟨w3,m,d,n,o⟩
 rw[g]at h;exact h.elim;rw[g]at d;simp at d;obtain⟨⟨p,rfl⟩,rfl⟩:=d;exact⟨acb a l o k n,ye (zC a b) v p⟩
end
def AA:Value->Bool
 |.bool _=>true
 |.int _ _=>true
 |.string _=>true
 |.nilFunc=>true
 |.nilIface=>true
 |.pointer none=>true
 |.slice none _ _=>true
 |_=>false
def Ov(P:Program)(κ:ju)(X:Nat->Bool)(a:Option Nat):Operand->Bool
 |.tmp t=>!(a==some t)
 |.const v=>AA v
 |.global g=>X g&&decide (g<P.globals.size)
 |.func f=>κ.b f
def Wz(P:Program)(e:TypeId):Bool:=match P.underlying e with|some (.int .u8)=>true|_=>false
def JN(P:Program)(s d:TypeId):Bool:=match P.underlying s,P.underlying d with
 |some (.int _),some (.int _)=>true
 |some (.slice e),some .string=>Wz P e
 |some .string,some (.slice e)=>Wz P e
 |some (.pointer _),some .unsafePointer=>true
 |some .unsafePointer,some (.pointer _)=>true
 |_,_=>false
def Sl(P:Program)(a:Array TypeId):Bool:=match (a[1]?).bind P.underlying with
 |some (.int _)=>false
 |some _=>true
 |none=>false
def aao(P:Program)(b:Builtin)(a:Array TypeId):Bool:=match b with
 |.append=>Sl P a
 |.cap|.clear|.copy|.delete|.len|.max|.min|.recover|.unsafeSliceData|.unsafeString=>true
 |_=>false
def JO(P:Program)(κ:ju):Op->Bool
 |.move _|.assign _|.pick ..|.alloc _|.box ..|.build ..|.buildSlice ..|.load ..|.store ..|.nilCheck _|.binOp ..|.unOp ..|.makeInterface ..|.makeMap ..|.makeSlice ..|.slice ..|.fieldAddr ..|.field ..
 |.indexAddr ..|.index ..|.lookup ..|.mapUpdate ..|.insert ..|.range ..|.next ..|.entry _|.typeAssert ..|.extract ..|.panic _=>true
 |.convert s d _=>JN P s d
 |.makeFunc (.func f) _ _=>κ.b f
 |.call c=>match c.callee with|.builtin b=>aao P b c.argTypes|.invoke _ n=>κ.h n|.value _=>true
 |.defer c=>match c.callee with|.builtin _=>false|.invoke _ n=>κ.h n|.value _=>true
 |_=>false
def one(P:Program)(t:TypeId):Bool:=match P.underlying t with|some (.struct _)=>false|some (.array _ _)=>false|some _=>true|none=>false
def qI(P:Program)(κ:ju)(X:Nat->Bool)(a:Option Nat)(o:Oper):Bool:=match o.op with
 |.load t (.global g)=>κ.G g&&one P t
 |.load t (.tmp x)=>a==some x&&one P t
 |.indexAddr _ (.global g) i=>κ.G g&&Ov P κ X a i&&(match o.dst with|some d=>a==some d|none=>false)
 |_=>false
def Y3:Option Nat:=some 1000000
def aco(a:Option Nat):Op->Bool
 |.defer _=>!(a==Y3)
 |_=>true
def qB(P:Program)(κ:ju)(X:Nat->Bool)(a:Option Nat)(o:Oper):Bool:=aco a o.op&&(qI P κ X a o||(JO P κ o.op&&o.op.operands.all (Ov P κ X a)))
def ip(P:Program)(κ:ju)(X:Nat->Bool)(a:Option Nat):Code->Bool
 |.skip|.ret|.exit _|.refuse _=>true
 |.region _ b _=>b.all (qB P κ X a)
 |.seq c d=>ip P κ X a c&&ip P κ X a d
 |.cond x c d=>Ov P κ X a x&&ip P κ X a c&&ip P κ X a d
 |.block _ c|.loop c=>ip P κ X a c
 |.rangeFunc f _ c d=>a.isNone&&Ov P κ X a f&&κ.e c&&κ.e d
 |_=>false
structure j8(P:Program)(κ:ju)(X:Nat->Bool)(A:Nat->Option Nat):Prop where
 ab0:∀f fn c,κ.b f=true->P.funcs[f]?=some fn->fn.body=some c->ip P κ X (A f) c=true
 res:∀f fn,κ.b f=true->P.funcs[f]?=some fn->∀r∈fn.results,∀t,(r=.tmp t\/∃u,r=.cell t u)->A f≠some t/\Y3≠some t
 Rw:∀c,κ.e c=true->ip P κ X Y3 c=true
 ab2:∀g,P.stepOf g=none
 Rx:∀f,κ.b f=true->∃fn,P.funcs[f]?=some fn
 ab1:∀f,κ.b f=true->P.inits.idxOf? f=none
 YQ:P.follows .staticDataAhead=true
 Ct:P.follows .rangeFuncRecover=true
 Ry:X P.globals.size=true
 adN:∀g,g<P.globals.size->κ.G g=true\/X g=true
 g:∀g,κ.G g=true->g<P.globals.size
 Rv:∀U,Of κ U->U.f P.globals.size=P.globals.size->(U.wk=false->∀b,b<P.globals.size->U.f b<P.globals.size)->(∀b,U.f b<P.globals.size->b<P.globals.size)->gi P U
 ext:∀U,Of κ U->(∀b,X b=true->b<P.globals.size->U.f b=b)->gi P U->rL P U
structure oK(P:Program)(κ:ju)(X:Nat->Bool)(U:Pm):Prop where
 h:Of κ U
 x:U.X=X
 j:U.wk=false
 i:∀b,b<=P.globals.size->U.f b=b
def jG(U:Pm):Item->Item
 |.inRangeFunc l=>.inRangeFunc (U.f l)
 |.endRangeFunc l=>.endRangeFunc (U.f l)
 |.call d w r s=>.call (lN U d) w r (dI U s)
 |.extern r a=>.extern r (dI U a)
 |i=>i
def vQ(U:Pm)(e:PanicEntry):PanicEntry:={e with v:=pV U e.v}
def kh(U:Pm):FrameMode->FrameMode
 |.panicking c=>.panicking (c.map (vQ U))
 |m=>m
def iW(U:Pm)(fr:Frame):Frame:={fr with tmps:=dI U fr.tmps,todo:=fr.todo.map (jG U),defers:=fr.defers.map (lN U),mode:=kh U fr.mode,roundOf:=fr.roundOf.map U.f}
def JD(P:Program)(κ:ju)(X:Nat->Bool)(n:Nat)(a:Option Nat):Item->Prop
 |.code c=>ip P κ X a c=true
 |.inBlock _=>True
 |.inLoop c=>ip P κ X a c=true
 |.inScope _=>False
 |.inRegion b _=>b.all (qB P κ X a)=true
 |.inRangeFunc l=>gC κ n l
 |.endRangeFunc l=>gC κ n l
 |.beginRound=>True
 |.call ..=>False
 |.extern ..=>False
def zO(κ:ju)(n:Nat)(a:Option Nat)(t:Nat)(v:Value):Prop:=ix κ n v\/(a=some t/\∃p,v=.pointer (some p)/\κ.G p.block=true)
def Wn(κ:ju)(n:Nat):FrameMode->Prop
 |.panicking c=>∀e∈c,ix κ n e.v
 |_=>True
def aF(A:Nat->Option Nat)(fr:Frame):Option Nat:=match fr.roundOf with|some _=>Y3|none=>A fr.fn
structure gN(P:Program)(κ:ju)(X:Nat->Bool)(A:Nat->Option Nat)(n:Nat)(fr:Frame):Prop where
 u:κ.b fr.fn=true
 j:∀t v,fr.tmps[t]?=some v->zO κ n (aF A fr) t v
 p:∀i∈fr.todo,JD P κ X n (aF A fr) i
 b:∀d∈fr.defers,vI κ n d
 s:Wn κ n fr.mode
 o:fr.kind=.normal\/fr.kind=.deferred
 h:∀l,fr.roundOf=some l->gC κ n l
section
variable{X:Nat->Bool}{A:Nat->Option Nat}{n:Nat}
def xi{v:Bg}(h:AA v=true):ix κ n v:=by
 cases v with
 |pointer a=>cases a with
  |none=>intro x e;cases e
  |some a=>cases h
 |slice a l c=>cases a with
  |none=>intro x e;cases e
  |some a=>cases h
 |bool b=>trivial
 |int k m=>trivial
 |string s=>trivial
 |nilFunc=>trivial
 |nilIface=>trivial
 |_=>cases h
def Ox(a:Of κ U){v:Bg}(h:AA v=true):pV U v=v:=su (κ:=κ) (n:=0) ⟨a,λb c=>absurd c.1 (jt _)⟩ v (xi h)
def Ot{s d:Bi}(h:JN P s d=true):OkConv P s d:=by
 unfold JN at h;have f:∀e,Wz P e=true->P.underlying e=some (.int .u8):=λe c=>by
  unfold Wz at c;split at c;assumption;cases c
 split at h;rename_i k g a b;exact .ints _ _ a b;rename_i e a b;exact .bytes e a b (f e h);rename_i e a b;exact .text e a b (f e h);rename_i t a b;exact .ptr t a b;rename_i t a b;exact .back t a b;cases h
def WJ{b:Builtin}{a:Array Bi}(h:aao P b a=true):okB P b a:=by
 unfold aao at h;split at h;unfold Sl at h;show JK P a;cases h1:a[1]? with
 |none=>simp[h1]at h
 |some c=>
  simp only[h1,Jt]at h;cases h2:P.underlying c with
  |none=>simp[h2]at h
  |some d=>exact⟨c,d,h1,h2,λk e=>by subst e;simp[h2]at h⟩
 all_goals first|trivial|cases h
def Mz(i:Of κ U){o:Op}(h:JO P κ o=true):abX P U o:=by
 cases o<;>first|exact aE|cases h|skip
 case convert s d x=>exact Ot h
 case makeFunc fn a b=>
  cases fn with
  |func f=>show Fn.func (pM U f)=.func f;rw[lx (by rw[i.1];exact h)]
  |_=>cases h
 case call c=>
  let ⟨e,g,j⟩:=c
  cases e with
  |builtin b=>exact WJ h
  |invoke r m=>show U.xT m=true;rw[i.2.1];exact h
  |value f=>trivial
 case defer c=>
  let ⟨e,g,j⟩:=c
  cases e with
  |builtin b=>cases h
  |invoke r m=>show U.xT m=true;rw[i.2.1];exact h
  |value f=>trivial
def AM{a:Option Nat}{o:Oper}(h:qI P κ X a o=true):JO P κ o.op=true:=by
 unfold qI at h;split at h<;>first|cases h|(rename_i q;rw[q];rfl)
def lW:ix κ n undef:=aE
end
section
variable{X:Nat->Bool}{A:Nat->Option Nat}{n:Nat}
def jT:∀{a:Array Bg},gX κ n a↔∀v∈a,ix κ n v
 |⟨l⟩=>by
  have:∀l:List Bg,rh κ n l↔∀v∈l,ix κ n v:=by
   intro l;induction l with
   |nil=>exact⟨λ_ v h=>absurd h (by simp),λ_=>aE⟩
   |cons v l c=>exact⟨λh x b=>by rcases bN.1 b with rfl|b;exact h.1;exact c.1 h.2 x b,λh=>⟨h v (by simp),c.2 λx b=>h x (by simp[b])⟩⟩
  show rh κ n l↔_;rw[this];simp
def zO.e{m:Nat}(b:n<=m){a:Option Nat}{t:Nat}{v:Bg}(h:zO κ n a t v):zO κ m a t v:=h.imp (ix.e b) id
def JD.e{m:Nat}(b:n<=m){a:Option Nat}{i:Item}(h:JD P κ X n a i):JD P κ X m a i:=by
 cases i<;>first|exact h|exact gC.e h b
def Wn.e{m:Nat}(a:n<=m){x:FrameMode}(h:Wn κ n x):Wn κ m x:=by
 cases x<;>first|trivial|exactλe b=>ix.e a (h e b)
def gN.e{m:Nat}(a:n<=m)(h:gN P κ X A n fr):gN P κ X A m fr:=
 ⟨h.u,λt v e=>(h.j t v e).e a,λi c=>(h.p i c).e a,λd hd=>vI.e a (h.b d hd),h.s.e a,h.o,λl e=>(h.h l e).e a⟩
def okY(P:Program)(κ:ju):Operand->Prop
 |.tmp _=>True
 |.const v=>AA v=true
 |.global g=>g<P.globals.size
 |.func f=>κ.b f=true
theorem zb:pV U undef=undef:=rfl
def wY(T:oK P κ X U)(h:okY P κ x):(iW U fr).eval x=pV U (fr.eval x):=by
 cases x with
 |tmp t=>
  show (dI U fr.tmps).getD t undef=pV U (fr.tmps.getD t undef);rw[dR,bL,bL,cD];cases fr.tmps[t]?<;>rfl
 |const v=>exact(Ox T.h h).symm
 |global g=>show Value.pointer (some (aA g 0))=.pointer (some (aA (U.f g) 0));rw[T.i g (wS h)]
 |func f=>show Value.func (.func f) #[] #[]=.func (.func (pM U f)) #[] #[];rw[lx (by rw[T.h.1];exact h)]
def vG(R:j8 P κ X A)(b:Sh κ X w)(c:gN P κ X A w.heap.size fr)(h:Ov P κ X (aF A fr) x=true):ix κ w.heap.size (fr.eval x):=by
 cases x with
 |tmp t=>
  show ix κ _ (fr.tmps.getD t undef);rw[bL];cases q:fr.tmps[t]? with
  |none=>exact lW
  |some v=>
   rcases c.j t v q with a|⟨a,_⟩
   exact a;simp[Ov,a]at h
 |const v=>exact xi h
 |global g=>
  intro y e;cases e;simp only[Ov,bh]at h;exact⟨(b.e g h.1).1,(b.e g h.1).2⟩
 |func f=>exact⟨h,aE,aE⟩
theorem nT:(iW U fr).todo=fr.todo.map (jG U):=rfl
def SF(a:Array Bg)(d:Nat)(v:Bg):(dI U a).setIfInBounds d (pV U v)=dI U (a.setIfInBounds d v):=by
 rw[dR,dR];rw[Array.map_setIfInBounds]
def iL(fr:Frame)(v:Bg):(iW U fr).finish (pV U v)=iW U (fr.finish v):=by
 obtain⟨fn,e,a,b,f,g,m⟩:=fr;cases a with
 |nil=>rfl
 |cons i k=>
  cases i with
  |inRegion c l=>
   cases l with
   |nil=>rfl
   |cons j rest=>
    simp only[iW,Frame.finish,List.map,jG];cases (c[j]?).bind (·.dst) with
    |none=>rfl
    |some d=>simp only[SF]
  |inRangeFunc l=>rfl
  |beginRound=>rfl
  |call d w r s=>
   simp only[iW,Frame.finish,List.map,jG,Frame.mk.injEq,gP,Item.extern.injEq,mh,true_and,dR,Array.map_push]
  |extern r h=>
   simp only[iW,Frame.finish,List.map,jG];rfl
  |_=>rfl
def jn(h:gN P κ X A n fr){v:Bg}(L:∀o d,fr.oper?=some o->o.dst=some d->zO κ n (aF A fr) d v):gN P κ X A n (fr.finish v):=by
 let ⟨fn,C,D,c,E,F,M⟩:=fr
 let ⟨g,f,z,m,p,x,y⟩:=h
 dsimp only at g f z m p x y;cases D with
 |nil=>exact⟨g,f,z,m,p,x,y⟩
 |cons H k=>
  have I:∀i∈k,JD P κ X n (aF A ⟨fn,C,H::k,c,E,F,M⟩) i:=λi B=>z i (by simp[B]);have B:=z H (by simp);cases H with
  |inRegion G l=>
   cases l with
   |nil=>exact⟨g,f,z,m,p,x,y⟩
   |cons j rest=>
    refine⟨g,?_,?_,m,p,x,y⟩;intro t u b;simp only[Frame.finish]at b⊢;cases q:(G[j]?).bind (·.dst) with
    |none=>rw[q]at b;exact f t u b
    |some d=>
     rw[q]at b;dsimp only at b;rw[eP]at b;by_cases e:d=t;subst e;rw[az rfl]at b;split at b;cases b;cases qo:G[j]? with
     |none=>simp[qo]at q
     |some o=>exact L o d qo (by simpa[qo] using q)
     cases b;rw[ax e]at b;exact f t u b
    intro J a;rcases bN.1 a with rfl|a
    exact B;exact I J a
  |inRangeFunc l=>
   refine⟨g,f,?_,m,p,x,y⟩;intro J a;rcases bN.1 a with rfl|a
   exact B;exact I J a
  |beginRound=>exact⟨g,f,I,m,p,x,y⟩
  |call d w r s=>exact B.elim
  |extern r K=>exact B.elim
  |_=>exact⟨g,f,z,m,p,x,y⟩
def qE(fr:Frame)(vs:List PanicEntry):(iW U fr).raise (vs.map (vQ U))=iW U (fr.raise vs):=by
 let ⟨fn,c,d,b,a,e,f⟩:=fr
 cases a<;>simp[Frame.raise,iW,kh]
def tf(h:gN P κ X A n fr)(m:∀e∈vs,ix κ n e.v):gN P κ X A n (fr.raise vs):=by
 let ⟨fn,o,p,d,a,q,s⟩:=fr
 let ⟨f,g,i,j,r,k,l⟩:=h
 dsimp only at f g i j r k l;cases a with
 |panicking c=>
  refine⟨f,g,i,j,?_,k,l⟩;intro e b;rcases bq.1 b with b|b
  exact m e b;exact r e b
 |_=>exact⟨f,g,i,j,m,k,l⟩
def qD(fr:Frame):(fr.raise vs).kind=fr.kind:=by
 let ⟨fn,c,d,b,a,e,f⟩:=fr
 cases a<;>rfl
def iK(fr:Frame)(v:Bg):(fr.finish v).kind=fr.kind:=by
 let ⟨fn,b,c,a,d,e,f⟩:=fr
 unfold Frame.finish;repeat' split
 all_goals rfl
def zK(f:FuncId)(args:Array Bg)(k:CallKind):Frame.enter P f (dI U args) k=iW U (Frame.enter P f args k):=by
 simp only[Frame.enter,iW,dR,eR,oH,BN,zb,List.map,jG,kh];rfl
def pB(R:j8 P κ X A){f:FuncId}(a:κ.b f=true){args:Array Bg}(g:gX κ n args)(j:k=.normal\/k=.deferred):gN P κ X A n (Frame.enter P f args k):=by
 refine⟨a,λt v e=>?_,λi m=>?_,λd hd=>?_,aE,j,λl e=>by cases e⟩;refine .inl ?_;have:=dU e;rcases cN.1 this with h|h
 exact jT.1 g v h;rw[Rn h];exact lW;have:i=_:=aL.1 m;subst this;show ip P κ X (A f) _=true;cases q:P.funcs[f]? with
 |none=>rfl
 |some fn=>
  cases qb:fn.body with
  |none=>simp[qb,ip]
  |some c=>simp only[Jt,qb,bP];exact R.ab0 f fn c a q qb
 exact absurd hd oV
theorem AH(l:Nat)(f:FuncId)(c:Array Bg)(a b:Code)(k:CallKind):Frame.round (U.f l) f (dI U c) a b k=iW U (Frame.round l f c a b k):=rfl
def C4(R:j8 P κ X A){l:Nat}{f:FuncId}(h:κ.b f=true){c:Array Bg}(j:gX κ n c)(m:gC κ n l){a b:Code}(o:κ.e a=true)(p:κ.e b=true)(q:k=.normal\/k=.deferred):gN P κ X A n (Frame.round l f c a b k):=by
 refine⟨h,λt v e=>.inl (jT.1 j v (dU e)),λi g=>?_,λd hd=>absurd hd oV,aE,q,λr e=>by cases e;exact m⟩;simp only[Frame.round,bN,oV,or_false]at g;rcases g with rfl|rfl|rfl
 exact R.Rw _ o;trivial;exact R.Rw _ p
def wZ{id:Nat}:∀k:List Item,exitTo id (k.map (jG U))=(exitTo id k).map (·.map (jG U))
 | []=>rfl
 |i::k=>by
  cases i with
  |inBlock a=>
   simp only[List.map,jG,exitTo];split;rfl;exact wZ k
  |_=>simp;exact wZ k
def zL(id:Nat):∀(k k1:List Item),exitTo id k=some k1->∀i∈k1,i∈k
 | [],k1,h=>by cases h
 |i::k,k1,h=>by
  intro j a;cases i with
  |inBlock b=>
   simp only[exitTo]at h;split at h;cases h;simp[a];simp[zL id k k1 h j a]
  |_=>simp only[exitTo]at h;simp[zL id k k1 h j a]
def BU:Frame->List Frame->Prop
 |fr,[]=>fr.kind=.normal
 |_,c::a=>BU c a
def BU.e{a b:Frame}(h:a.kind=b.kind):∀{c:List Frame},BU a c->BU b c
 | [],q=>by show b.kind=_;rw[<-h];exact q
 |_::_,q=>q
def Mu:ix κ n .nilIface:=aE
end
end Go.Eqv
