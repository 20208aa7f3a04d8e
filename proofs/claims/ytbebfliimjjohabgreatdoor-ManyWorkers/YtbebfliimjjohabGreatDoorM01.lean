/- Parts of the proof. -/
import Derived.Test.YtbebfliimjjohabGreatDoorMAl0
import Derived.Test.YtbebfliimjjohabGreatDoorMAl0
set_option maxRecDepth 100000
set_option maxHeartbeats 8000000
set_option linter.all false
namespace Go.Eqv
variable{a a' at_ k:Addr}{m:Bool}{b r r' n:Nat}{o o1 o':Obj}{P:Ft}{α β:Type}{u:DU}{w w' w1 w2:Ba}{pa:α->α}{s':Sem α}{f:α->Sem β}{s:Sem α}{f':α->Sem β}{k':Obj->Sem β}
structure Pm where
 f:Nat->Nat
 EH:∀{a b},f a=f b->a=b
 yy:Nat->Bool
 wS:String->Bool
 TZ:Code->Bool
 k:Nat
 X:Nat->Bool
 Y:Nat->Bool
 xy:∀b,Y (f b)=X b
 /-- Only what the other one can do is told. -/
 wk:Bool
 /-- So many answers of the tape are alike. -/
 N:Nat
 /-- The named blocks hold nothing for the other one,too. -/
 pn:Bool
def Pm.e(U:Pm){a:Nat}:U.f a=U.f b↔a=b:=⟨U.EH,λh=>by rw[h]⟩
def bh(U:Pm)(a:Addr):Addr:={a with block:=U.f a.block}
def oy(U:Pm)(f:Nat):Nat:=if U.yy f then f else f+U.k
def nN(U:Pm):Fn->Fn
 |.yield l=>.yield (U.f l)
 |.func f=>.func (oy U f)
 |.via t p f b=>.via t p (oy U f) b
 |.method n=>if U.wS n then .method n else .yield U.k
 |.methodOf t n=>if U.wS n then .methodOf t n else .yield U.k
mutual
def pV(U:Pm):Value->Value
 |.pointer a=>.pointer (a.map (bh U))
 |.slice a l c=>.slice (a.map (bh U)) l c
 |.map r=>.map (r.map U.f)
 |.chan r=>.chan (r.map U.f)
 |.func fn first captured=>.func (nN U fn) (dx U first) (dx U captured)
 |.iface t v=>.iface t (pV U v)
 |.agg cs=>.agg (dx U cs)
 |.tuple vs=>.tuple (dx U vs)
 |.bool b=>.bool b
 |.int k n=>.int k n
 |.float k b=>.float k b
 |.complex k a b=>.complex k a b
 |.string s=>.string s
 |.nilFunc=>.nilFunc
 |.nilIface=>.nilIface
def dx(U:Pm):Array Value->Array Value
 |⟨l⟩=>⟨qe U l⟩
def qe(U:Pm):List Value->List Value
 | []=>[]
 |v::l=>pV U v::qe U l
end
variable{es es':Array Event}{l:List Addr}{U:Pm}{v':Dv}{x:Result α×Array Event}
def ya(U:Pm):∀l,qe U l=l.map (pV U)
 | []=>rfl
 |v::l=>by rw[qe,ya U l];rfl
def dF(U:Pm)(a:Array Dv):dx U a=a.map (pV U):=by
 cases a;simp[dx,ya]
def dU(U:Pm)(e:MapEntry):MapEntry:={e with key:=pV U e.key,val:=pV U e.val}
def gO(U:Pm):Target->Target
 |.fn fn c=>.fn (nN U fn) (dx U c)
 |.collected r=>.collected (U.f r)
 |.coroexit _=>.collected U.k
 |.builtin ..=>.collected U.k
 |.nil=>.nil
def kQ(U:Pm)(d:Deferred):Deferred:={target:=gO U d.target,args:=dx U d.args}
def pC(U:Pm)(c:Code):Code:=if U.TZ c then c else .label U.k
def U1:Code->Bool
 |.ret=>true
 |.exit _=>true
 |_=>false
def pJ(U:Pm)(c:Code):Code:=if U1 c then c else .label U.k
def oz(U:Pm)(l:Loop):Loop:={l with pending:=l.pending.map (pJ U),fn:=oy U l.fn,tmps:=dx U l.tmps,assign:=pC U l.assign,body:=pC U l.body,defers:=U.f l.defers}
def dR(U:Pm):Obj->Obj
 |.cells c e fz=>.cells (dx U c) e fz
 |.pending c e=>.pending (dx U c) e
 |.view a t=>.view (bh U a) t
 |.number a b=>.number (bh U a) b
 |.map es c=>.map (es.map (dU U)) c
 |.chan c b d s r t=>.chan c (dx U b) d s r t
 |.stringIter s p=>.stringIter s p
 |.mapIter m s g h=>.mapIter (m.map U.f) s g h
 |.loop l=>.loop (oz U l)
 |.deferred i=>.deferred (i.map (·.map (kQ U)))
 |.coro p=>.coro p
 |.finalizers j r=>.finalizers (j.map λx=>(U.f x.1,kQ U x.2)) r
def uK(U:Pm):Mark->Mark
 |.noRoom=>.noRoom
 |.extern f=>.extern f
 |_=>.read ⟨U.k,0,none⟩
def lU(U:Pm):Loc->Loc
 |.cell a=>.cell (bh U a)
 |.obj r=>.obj (U.f r)
 |.mark m=>.mark (uK U m)
 |l=>l
def sL(U:Pm)(e:Event):Event:={e with loc:=lU U e.loc}
def tG(U:Pm)(e:Event):Bool:=match e.loc with|.obj r=>!U.X r|.cell a=>!U.X a.block|_=>true
def xa(U:Pm)(e:Event):Bool:=match e.loc with|.obj r=>!U.Y r|.cell a=>!U.Y a.block|_=>true
structure yx(U:Pm)(es es':Array Event):Prop where
 h:es'.filter (xa U)=(es.filter (tG U)).map (sL U)
 b:U.pn=false->∀e∈es',xa U e=true
def Qf(U:Pm)(e:Event):xa U (sL U e)=tG U e:=by
 let ⟨l,_,_⟩:=e
 cases l<;>first|rfl|(simp only[xa,tG,sL,lU,bh,U.xy])
def yx.e(h:yx U es es')(e:Event)(a:tG U e=true\/U.pn=true:=by exact Or.inl rfl):yx U (es.push e) (es'.push (sL U e)):=by
 refine⟨?_,λc x d=>?_⟩;rw[Es,Es,Qf,h.h];split<;>simp;rcases Array.mem_push.1 d with d|rfl
 exact h.b c x d;rcases a with a|a
 rw[Qf];exact a;rw[a]at c;cases c
def yx.I(h:yx U es es')(l:List Event)(a:∀e∈l,tG U e=true):yx U (es++l.toArray) (es'++(l.map (sL U)).toArray):=by
 induction l generalizing es es' with
 |nil=>simpa using h
 |cons e l b=>
  have:=b (h.e e (.inl (a e aY))) λx c=>a x (by simp[c]);simpa using this
def yx.H(h:yx U es es')(c:U.X r=true)(a b:Bool):yx U (es.push ⟨.obj r,a,b⟩) es':=by
 refine⟨?_,h.b⟩;rw[Es,h.h];simp[tG,c]
structure tu(U:Pm)(w w':World):Prop where
 e:∀b o,U.X b=false->w.heap[b]?=some o->w'.heap[U.f b]?=some (dR U o)
 x:∀b,U.X b=true->∃c t,w.heap[b]?=some (.pending c t)/\c.size≠0/\∃c' t',c'.size=c.size/\((U.pn=true/\w'.heap[U.f b]?=some (.pending c' t'))\/w'.heap[U.f b]?=some (.cells c' t' (0,0)))
 s:∀b,w.heap.size<=b->w'.heap.size<=U.f b
 p:∀i q,w.drawn+i<U.N->w'.tape (w'.drawn+i) q=w.tape (w.drawn+i) q
 j:w'.os.env=w.os.env
structure ko(U:Pm)(w w' w1 w1':World):Prop where
 h:tu U w1 w1'
 o:w.heap.size<=w1.heap.size
 j:w1'.heap.size=w'.heap.size+(w1.heap.size-w.heap.size)
 i:∀b',b'<w'.heap.size->(∀b,b<w.heap.size->U.X b=false->U.f b≠b')->w1'.heap[b']?=w'.heap[b']?
 s:w1'.os=w'.os
 p:w1'.output=w'.output
 t:w1'.tape=w'.tape
 x:w1'.drawn+w.drawn=w'.drawn+w1.drawn
 u:w.drawn<=w1.drawn
structure C5(U:Pm)(w w' w1:World):Prop where
 e:∀b,w.heap.size<=b->b<w1.heap.size->U.f b=w'.heap.size+(b-w.heap.size)
 h:w1.drawn<=U.N
def qs{α:Type}:Result α×Array Event->Prop
 |(.halt (.unsupported _) _,_)=>True
 |(.halt (.stuck _) _,_)=>True
 |_=>False
def AY{α:Type}(U:Pm)(pa:α->α)(w w':World):Result α×Array Event->Result α×Array Event->Prop
 |(.ok a w1,es),x=>C5 U w w' w1->(U.wk=true/\qs x)\/∃b es',x=(.ok (pa a) b,es')/\yx U es es'/\ko U w w' w1 b
 |(.halt (.panic v) w1,es),x=>C5 U w w' w1->(U.wk=true/\qs x)\/∃b es',x=(.halt (.panic (pV U v)) b,es')/\yx U es es'/\ko U w w' w1 b
 |(.halt (.unsupported _) _,_),_=>True
 |(.halt (.stuck _) _,_),_=>True
 |(.halt _ w1,_),x=>C5 U w w' w1->U.wk=true/\qs x
def bU{α:Type}(P:Program)(U:Pm)(pa:α->α)(s s':Sem α):Prop:=
 ∀w w' es es',tu U w w'->yx U es es'->AY U pa w w' (s.runT P w es) (s'.runT P w' es')
def ko.e(h:tu U w w'):ko U w w' w w':=
 ⟨h,aj _,aY,λ_ _ _=>rfl,rfl,rfl,rfl,rfl,aj _⟩
def ko.H{a c:Ba}(h:ko U w w' w1 a)(m:C5 U w w' w1)(k:ko U w1 a w2 c):ko U w w' w2 c:=by
 have r:=h.o;have v:=k.o;have y:=h.j;have z:=k.j;have A:=h.x;have B:=k.x;have C:=h.u;have D:=k.u;refine⟨k.h,ak,ak,λg n l=>?_,k.s.trans h.s,k.p.trans h.p,k.t.trans h.t,ak,ak⟩;rw[k.i g ak λb d q e=>?_,h.i g n l];by_cases f:b<w.heap.size;exact l b f q e;have:=m.e b ak d;omega
def ft(P:Ft)(f:α->Sem β)(s:Sem α)(w:Ba)(es:Array Event):(s.bind f).runT P w es=match s.runT P w es with
  |(.ok a w1,d)=>(f a).runT P w1 d
  |(.halt h w1,d)=>(.halt h w1,d):=by
 induction s generalizing w es with
 |pure a=>rfl
 |load m a c b=>
  simp only[Sem.bind,Sem.runT];split;exact b _ _ _;split;exact b _ _ _;rfl
 |store m a v c b=>
  simp only[Sem.bind];cases v<;>simp only[Sem.runT];all_goals first|rfl|(split<;>first|(split<;>first|rfl|exact b _ _)|rfl)
 |new o c b=>simp only[Sem.bind,Sem.runT];exact b _ _ _
 |shape r c b=>simp only[Sem.bind,Sem.runT];exact b _ _ _
 |freeze a n c b=>simp only[Sem.bind,Sem.runT];exact b _ _
 |frozen a c b=>simp only[Sem.bind,Sem.runT];exact b _ _ _
 |getObj r c b=>simp only[Sem.bind,Sem.runT];split<;>first|rfl|exact b _ _ _
 |setObj r o c b=>simp only[Sem.bind,Sem.runT];split<;>first|rfl|exact b _ _
 |choose q c b=>simp only[Sem.bind,Sem.runT];split<;>exact b _ _ _
 |sys c k b=>simp only[Sem.bind,Sem.runT];exact b _ _ _
 |program c b=>simp only[Sem.bind,Sem.runT];exact b _ _ _
 |mark m c b=>simp only[Sem.bind,Sem.runT];exact b _ _
 |halt h=>rfl
def Va{α:Type}:Result α->World
 |.ok _ w=>w
 |.halt _ w=>w
def wZ{v:Dv}(h:w.farStore P a v m=.ok (w1,l)):w1.heap.size=w.heap.size/\w1.drawn=w.drawn:=by
 unfold World.farStore at h;split at h
 .split at h
  .rename_i r b;simp at h;subst h;unfold World.viewStore at b;simp only[bind,Except.bind,pure,Except.pure]at b;repeat' (split at b)
   all_goals first|(simp only[Except.ok.injEq,Ue]at b;rw[<-b.1];exact⟨by simp,rfl⟩)|(exact nomatch b)
  simp at h
 simp at h
def PX(a:Ask α)(w:Ba):(w.ask a).2.heap=w.heap:=by
 induction a generalizing w with
 |done a=>rfl
 |ask b range k c=>
  simp only[World.ask];split;exact c _ _;rw[c]
def QR(w:Ba)(c:Sys):(w.sys c).2.heap=w.heap:=by
 have h:=PX (Kernel.perform c w.os) w;unfold World.sys;generalize w.ask (Kernel.perform c w.os)=x at h;let ⟨⟨r,a⟩,w1⟩:=x
 cases r<;>first|rfl|exact h
def L0(a:Ask α)(w:Ba):w.drawn<=(w.ask a).2.drawn:=by
 induction a generalizing w with
 |done a=>exact aj _
 |ask b range k c=>
  simp only[World.ask];split;exact c _ _;exact aO (cL _) (c _ {w with drawn:=w.drawn+1})
def M0(w:Ba)(c:Sys):w.drawn<=(w.sys c).2.drawn:=by
 have h:=L0 (Kernel.perform c w.os) w;unfold World.sys;generalize w.ask (Kernel.perform c w.os)=x at h;let ⟨⟨r,a⟩,w1⟩:=x
 cases r<;>first|exact aj _|exact h
def Yq(h:w1.heap.size<=w2.heap.size/\w1.drawn<=w2.drawn)(a:w.heap.size<=w1.heap.size:=by first|exact Nat.le_refl _|simp)(b:w.drawn<=w1.drawn:=by first|exact Nat.le_refl _|exact Nat.le_succ _):w.heap.size<=w2.heap.size/\w.drawn<=w2.drawn:=⟨aO a h.1,aO b h.2⟩
def pq(P:Ft)(s:Sem α)(w:Ba)(es:Array Event):w.heap.size<=(Va (s.runT P w es).1).heap.size/\w.drawn<=(Va (s.runT P w es).1).drawn:=by
 have z:∀{w:Ba},w.heap.size<=w.heap.size/\w.drawn<=w.drawn:=⟨aj _,aj _⟩;induction s generalizing w es with
 |pure a=>exact z
 |load m a c b=>
  simp only[Sem.runT];split;exact b _ _ _;split;exact b _ _ _;exact z
 |store m a v c b=>
  cases v<;>simp only[Sem.runT];all_goals first
   |exact z
   |(
     split;split;exact z;exact Yq (b _ _) (by simp[World.setCell]);split;rename_i h;exact Yq (b _ _) (eL (wZ h).1.symm) (eL (wZ h).2.symm);exact z)
 |new o c b=>simp only[Sem.runT];exact Yq (b _ _ _)
 |shape r c b=>simp only[Sem.runT];exact b _ _ _
 |freeze a n c b=>
  simp only[Sem.runT];refine Yq (b _ _) (eL ?_) (eL ?_)<;>(unfold World.freeze;split<;>simp)
 |frozen a c b=>simp only[Sem.runT];exact b _ _ _
 |getObj r c b=>simp only[Sem.runT];split<;>first|exact z|exact b _ _ _
 |setObj r o c b=>simp only[Sem.runT];split<;>first|exact z|exact Yq (b _ _)
 |choose q c b=>simp only[Sem.runT];split<;>first|exact b _ _ _|exact Yq (b _ {w with drawn:=w.drawn+1} _)
 |sys c k b=>
  simp only[Sem.runT];exact Yq (b _ _ _) (eL (by rw[QR])) (M0 w c)
 |program c b=>simp only[Sem.runT];exact b _ _ _
 |mark m c b=>simp only[Sem.runT];exact b _ _
 |halt h=>exact z
def bU.h{a a':α}(h:pa a=a'):bU P U pa (Pure.pure a) (Pure.pure a'):=by
 subst h;exactλw w' es es' b c _=>.inr ⟨w',es',rfl,c,ko.e b⟩
def bU.a5{m:String}:bU P U pa (.halt (.stuck m)) s':=λ_ _ _ _ _ _=>aB
def bU.a7{u:Unsupported}:bU P U pa (.halt (.unsupported u)) s':=λ_ _ _ _ _ _=>aB
def bU.j{m:String}:bU P U pa (Go.stuck m) s':=λ_ _ _ _ _ _=>aB
def bU.H{u:Unsupported}:bU P U pa (Go.unsupported u) s':=λ_ _ _ _ _ _=>aB
def bU.ae{pb:β->β}{m:String}{s':Sem β}:bU P U pb (Go.stuck m >>= f) s':=λ_ _ _ _ _ _=>aB
def bU.O{pb:β->β}{u:Unsupported}{s':Sem β}:bU P U pb (Go.unsupported u >>= f) s':=λ_ _ _ _ _ _=>aB
def bU.af{v:Dv}(e:pV U v=v'):bU P U pa (Go.goPanic v) (Go.goPanic v'):=by
 subst e;exactλw w' es es' a b _=>.inr ⟨w',es',rfl,b,ko.e a⟩
def qs.e{f:α->Ba->Array Event->Result β×Array Event}(h:qs x):qs (match x with
  |(.ok a w1,b)=>f a w1 b
  |(.halt h w1,b)=>(.halt h w1,b)):=by
 let ⟨r,es⟩:=x
 cases r with
 |ok a w=>exact h.elim
 |halt c w=>cases c<;>first|exact h|exact h.elim
def AY.e{pb:β->β}(F:AY U pa w w' (s.runT P w es) (s'.runT P w' es'))(k:∀a w1 i d g,s.runT P w es=(.ok a w1,d)->s'.runT P w' es'=(.ok (pa a) i,g)->yx U d g->ko U w w' w1 i->AY U pb w1 i ((f a).runT P w1 d) ((f' (pa a)).runT P i g)):
  AY U pb w w' ((s >>= f).runT P w es) ((s' >>= f').runT P w' es'):=by
 show AY U pb w w' ((s.bind f).runT P w es) ((s'.bind f').runT P w' es');rw[ft,ft];generalize R:s.runT P w es=x at F;let ⟨r,d⟩:=x
 cases r with
 |ok a w1=>
  dsimp only;have n:C5 U w w' w1->(U.wk=true/\qs (match s'.runT P w' es' with
    |(.ok a w1,d)=>(f' a).runT P w1 d
    |(.halt h w1,d)=>(.halt h w1,d)))\/AY U pb w w' ((f a).runT P w1 d) (match s'.runT P w' es' with
    |(.ok a w1,d)=>(f' a).runT P w1 d
    |(.halt h w1,d)=>(.halt h w1,d)):=by
   intro t;rcases F t with p|⟨i,g,e,L,z⟩
   exact .inl ⟨p.1,qs.e p.2⟩;right;have K:=k a w1 i d g R e L z;rw[e];dsimp only;have A:∀w2,C5 U w w' w2->C5 U w1 i w2:=λw2 c=>⟨λb G I=>by
    have T:=z.o;have V:=z.j;have:=c.e b ak I;omega,c.h⟩
   generalize S:(f a).runT P w1 d=y at K;obtain⟨M,N⟩:=y;cases M with
   |ok b w2=>
    intro c;rcases K (A _ c) with p|⟨B,l,O,C,D⟩
    exact .inl p;exact .inr ⟨B,l,O,C,z.H t D⟩
   |halt J w2=>
    cases J with
    |panic v=>
     intro c;rcases K (A _ c) with p|⟨B,l,O,C,D⟩
     exact .inl p;exact .inr ⟨B,l,O,C,z.H t D⟩
    |unsupported u=>trivial
    |stuck m=>trivial
    |_=>exactλc=>K (A _ c)
  have Q:∀w2,w1.heap.size<=w2.heap.size/\w1.drawn<=w2.drawn->C5 U w w' w2->C5 U w w' w1:=λw2 E c=>⟨λb G I=>c.e b G ak,aO E.2 c.h⟩;have E:=pq P (f a) w1 d;generalize S:(f a).runT P w1 d=y at n E;obtain⟨M,N⟩:=y;cases M with
  |ok b w2=>exactλc=>(n (Q _ E c)).elim .inl λq=>q c
  |halt J w2=>
   cases J with
   |panic v=>exactλc=>(n (Q _ E c)).elim .inl λq=>q c
   |unsupported u=>trivial
   |stuck m=>trivial
   |_=>exactλc=>(n (Q _ E c)).elim id λq=>q c
 |halt J w1=>
  cases J with
  |panic v=>
   intro t;rcases F t with p|⟨i,g,e,L,z⟩
   exact .inl ⟨p.1,qs.e p.2⟩;rw[e];exact .inr ⟨i,g,rfl,L,z⟩
  |unsupported u=>trivial
  |stuck m=>trivial
  |_=>exactλt=>⟨(F t).1,qs.e (F t).2⟩
def bU.e{pb:β->β}(h:bU P U pa s s')(k:∀a,bU P U pb (f a) (f' (pa a))):bU P U pb (s >>= f) (s' >>= f'):=
 λw w' es es' i j=>AY.e (h w w' es es' i j) λa w1 c d b _ _ g l=>k a w1 c d b l.h g
def KA(U:Pm)(v:Dv):(pV U v).bytes?=v.bytes?:=by cases v<;>rfl
def Mw(U:Pm)(v:Dv)(l:List UInt8):(pV U v).ofBytes l=v.ofBytes l:=by cases v<;>rfl
def sK(U:Pm){v u:Dv}{l:List UInt8}(h:v.ofBytes l=some u):pV U u=u:=by
 cases v<;>simp only[Value.ofBytes]at h;all_goals first
  |(cases h;done)
  |(split at h<;>first|(cases h;done)|(injection h with h;subst h;rfl))
def kx(U:Pm)(a:Array Dv)(i:Nat):(dx U a)[i]?=(a[i]?).map (pV U):=by rw[dF,b9]
def nO(U:Pm)(a:Array Dv):(dx U a).size=a.size:=by rw[dF,eh]
def xh(P:Ft)(U:Pm)(c:Array Dv)(e:DU):∀(n x a:Nat),seenCells P (dx U c) e n x a=seenCells P c e n x a
 |0,x,a=>rfl
 |n+1,x,a=>by
  unfold seenCells;split;rfl;dsimp only;split;rfl;split;rfl;rename_i i s _;rw[kx];cases c[i]? with
  |none=>rfl
  |some v=>
   simp only[Option.map,KA];cases v.bytes? with
   |none=>rfl
   |some bs=>cases bs with
    |nil=>rfl
    |cons b bs=>simp only[xh P U c e n]
def IE{r}(hs:w.seen P at_ u k m=.ok r):∃c e fz,w.heap[at_.block]?=some (.cells c e fz):=by
 have b:(∀c e fz,w.heap[at_.block]?≠some (.cells c e fz))->∃x,w.seen P at_ u k m=.error x:=by
  intro d;unfold World.seen;simp;generalize w.heap[at_.block]?=o at d⊢;split;exact⟨_,rfl⟩;cases plainCell P P.depth u k.off with
  |none=>exact⟨_,rfl⟩
  |some a=>
   dsimp only;cases Option.map (λx=>List.length x) a.bytes? with
   |none=>exact⟨_,rfl⟩
   |some f=>
    dsimp only;cases byteOfCell P P.depth u k.off with
    |none=>exact⟨_,rfl⟩
    |some β=>
     cases o with
     |none=>exact⟨_,rfl⟩
     |some o=>cases o with
      |cells c e fz=>exact absurd rfl (d c e fz)
      |_=>exact⟨_,rfl⟩
 refine cK λhc=>?_;let ⟨x,g⟩:=b λc e fz h=>hc ⟨c,e,fz,h⟩
 rw[g]at hs;cases hs
def QD{c e fz fz'}(h:w.heap[at_.block]?=some (.cells c e fz))(i:w'.heap[U.f at_.block]?=some (.cells (dx U c) e fz')):
  w'.seen P (bh U at_) u (bh U k) m=(w.seen P at_ u k m).map λx=>(dx U x.1,x.2.1,fz',x.2.2.2):=by
 have g:w'.heap[(bh U at_).block]?=some (.cells (dx U c) e fz'):=i;unfold World.seen;have j:((bh U k).spot.isSome||(bh U at_).spot.isSome)=(k.spot.isSome||at_.spot.isSome):=rfl;have l:(bh U k).off=k.off:=rfl;have n:(bh U at_).off=at_.off:=rfl;simp only[bind,Except.bind,pure,Except.pure,j,l,n,h,g,xh];split;rfl;cases plainCell P P.depth u k.off with
 |none=>rfl
 |some b=>
  dsimp only;cases Option.map (λx=>List.length x) b.bytes? with
  |none=>rfl
  |some d=>
   dsimp only;cases byteOfCell P P.depth u k.off with
   |none=>rfl
   |some β=>
    dsimp only;split;rfl;cases byteOfCell P P.depth e (at_.off%P.cellsOf e) with
    |none=>rfl
    |some b0=>
     dsimp only;generalize seenCells P c e (d+1) _ _=a;cases a with
     |error x=>rfl
     |ok a=>
      dsimp only;cases m with
      |false=>rfl
      |true=>
       simp;cases a with
       |nil=>rfl
       |cons x a=>cases a with
        |cons y a=>rfl
        |nil=>
         dsimp only;split<;>rfl
def Vg{c e fz r}(f:w.heap[at_.block]?=some (.cells c e fz))(hs:w.seen P at_ u k m=.ok r):r.1=c/\r.2.1=e/\r.2.2.1=fz:=by
 unfold World.seen at hs;simp only[bind,Except.bind,pure,Except.pure,f]at hs;split at hs;cases hs;cases hp:plainCell P P.depth u k.off with
 |none=>rw[hp]at hs;cases hs
 |some b=>
  rw[hp]at hs;dsimp only at hs;cases hq:Option.map (λx=>List.length x) b.bytes? with
  |none=>rw[hq]at hs;cases hs
  |some d=>
   rw[hq]at hs;dsimp only at hs;cases hb:byteOfCell P P.depth u k.off with
   |none=>rw[hb]at hs;cases hs
   |some β=>
    rw[hb]at hs;dsimp only at hs;split at hs;cases hs;cases ho:byteOfCell P P.depth e (at_.off%P.cellsOf e) with
    |none=>rw[ho]at hs;cases hs
    |some b0=>
     rw[ho]at hs;dsimp only at hs;generalize seenCells P c e (d+1) _ _=a at hs;cases a with
     |error x=>cases hs
     |ok a=>
      dsimp only at hs;cases m with
      |false=>simp at hs;subst hs;exact⟨rfl,rfl,rfl⟩
      |true=>
       simp at hs;cases a with
       |nil=>cases hs
       |cons x a=>cases a with
        |cons y a=>cases hs
        |nil=>
         dsimp only at hs;split at hs;cases hs;simp at hs;subst hs;exact⟨rfl,rfl,rfl⟩
def tu.h(h:tu U w w')(a:w.heap[b]?=some o)(d:∀c t,o≠.pending c t):U.X b=false:=by
 cases hX:U.X b with
 |false=>rfl
 |true=>
  let ⟨c,t,e,_⟩:=h.x b hX
  rw[a]at e;exact absurd (bb e) (d c t)
def tu.H(h:tu U w w'){v:Dv}(hc:w.cell? a=some v):w'.cell? (bh U a)=some (pV U v):=by
 unfold World.cell? at hc⊢;cases ho:w.heap[a.block]? with
 |none=>rw[ho]at hc;cases hc
 |some o=>
  rw[ho]at hc;cases o with
  |cells c t fz=>
   rw[show w'.heap[(bh U a).block]?=_ from h.e _ _ (h.h ho (λ_ _=>aY)) ho];simp only[dR]at hc⊢;show (if a.spot.isSome then none else (dx U c)[a.off]?)=_;split at hc;cases hc;rw[ay ‹_›,kx,hc];rfl
  |_=>cases hc
def tu.O(h:tu U w w'){v:Dv}(hc:w.cell? a=some v):U.X a.block=false:=by
 unfold World.cell? at hc;split at hc;exact h.h ‹_› (λ_ _=>aY);cases hc
def IU{v:Dv}{c e fz fz'}(g:w.heap[at_.block]?=some (.cells c e fz))(h:w'.heap[U.f at_.block]?=some (.cells (dx U c) e fz'))(b:w.viewLoad P at_ u k m=.ok (v,l)):w'.viewLoad P (bh U at_) u (bh U k) m=.ok (v,l.map (bh U))/\pV U v=v/\∀a∈l,a.block=at_.block:=by
 unfold World.viewLoad at b⊢;rw[QD g h];cases hs:w.seen P at_ u k m with
 |error x=>rw[hs]at b;cases b
 |ok x=>
  obtain⟨c1,p,i,first,d,cells⟩:=x;rw[hs]at b;simp only[Except.map,bind,Except.bind]at b⊢;generalize j:d.ofBytes _=o at b⊢;cases o with
  |none=>cases b
  |some q=>
   simp only[pure,Except.pure,Except.ok.injEq,Ue]at b⊢;obtain⟨rfl,rfl⟩:=b;refine⟨⟨rfl,?_⟩,sK U j,λa n=>?_⟩;rw[kO];rfl;obtain⟨x,_,rfl⟩:=ed.1 n;rfl
def tu.I(h:tu U w w'){r}(hs:w.seen P at_ u k m=.ok r):∃c e fz,w.heap[at_.block]?=some (.cells c e fz)/\w'.heap[U.f at_.block]?=some (.cells (dx U c) e fz)/\U.X at_.block=false:=by
 obtain⟨c,e,fz,a⟩:=IE hs;have b:=h.h a (λ_ _=>aY);exact⟨c,e,fz,a,h.e _ _ b a,b⟩
def By(h:tu U w w')(b:w.heap[a.block]?=some o)(d:∀c t fz,o≠.cells c t fz)(f:U.X a.block=false):w'.cell? (bh U a)=none:=by
 unfold World.cell?
 rw[show w'.heap[(bh U a).block]?=_ from h.e _ _ f b];cases o<;>first|rfl|exact absurd rfl (d _ _ _)
def KF(h:∀u t,w.heap[a.block]?≠some (.view u t)):∃x,w.farLoad P a m=.error x/\((∃u,x=.unsupported u)\/∃s,x=.stuck s):=by
 unfold World.farLoad World.noCell;cases ho:w.heap[a.block]? with
 |none=>exact⟨_,rfl,.inr ⟨_,rfl⟩⟩
 |some o=>cases o<;>first|exact⟨_,rfl,.inr ⟨_,rfl⟩⟩|exact⟨_,rfl,.inl ⟨_,rfl⟩⟩|exact absurd ho (h _ _)
def bU.ao{m:Mode}(e:bh U a=a'):bU P U (pV U) (Go.load a m) (Go.load a' m):=by
 subst e;intro w w' es es' b j;show AY U (pV U) w w' (Sem.runT P (.load m a .pure) w es) (Sem.runT P (.load m (bh U a) .pure) w' es');simp only[Sem.runT];cases hc:w.cell? a with
 |some v=>
  rw[b.H hc];intro _;exact .inr ⟨w',_,rfl,j.e _ (.inl (by simp[tG,b.O hc])),ko.e b⟩
 |none=>

  by_cases d:∃u t,w.heap[a.block]?=some (.view u t);let ⟨u,t,d⟩:=d
  have f:=b.h d (λ_ _=>aY);have i:w'.heap[(bh U a).block]?=some (.view (bh U u) t):=b.e _ _ f d;rw[By b d (λ_ _ _=>aY) f]

  unfold World.farLoad;rw[d,i];dsimp only;cases hl:w.viewLoad P u t a (m == .atomic) with
  |error x=>exact aB
  |ok x=>
   let ⟨v,l⟩:=x
   have g:∃r,w.seen P u t a (m == .atomic)=.ok r:=by
    unfold World.viewLoad at hl;cases g:w.seen P u t a (m == .atomic) with
    |error x=>rw[g]at hl;cases hl
    |ok x=>exact⟨x,rfl⟩
   let ⟨r,g⟩:=g
   let ⟨c,e,fz,n,o,p⟩:=b.I g
   obtain⟨q,y,z⟩:=IU (P:=P) (k:=a) (u:=t) (m:=(m == .atomic)) n o hl;rw[q];intro _;refine .inr ⟨w',_,by dsimp only[Sem.runT];rw[y],?_,ko.e b⟩;have:=j.I (l.map λa=>(⟨.cell a,false,m == .atomic⟩:Event)) (λe f=>by obtain⟨a,A,rfl⟩:=ed.1 f;simp[tG,z a A,p]);simpa[sL,lU,Eu] using this
  let ⟨x,f,B⟩:=KF (P:=P) (w:=w) (a:=a) (m:=(m == .atomic)) λu t h=>d ⟨u,t,h⟩
  rw[f];rcases B with⟨u,rfl⟩|⟨s,rfl⟩<;>trivial
def gu(h:w.heap[b]?=some o):b<w.heap.size:=by
 rcases bX b w.heap.size with k|k
 exact k;rw[cY k]at h;cases h
def ko.I(g:tu U w w'){f f':Obj->Obj}(i:w.heap[b]?=some o)(h:U.X b=false)(k:f' (dR U o)=dR U (f o)):
  ko U w w' {w with heap:=w.heap.modify b f} {w' with heap:=w'.heap.modify (U.f b) f'}:=by
 refine⟨⟨λb1 o1 a d=>?_,λb1 a=>?_,λb1 d=>by simpa using g.s b1 (dD d),g.p,g.j⟩,aY,aY,λy z l=>?_,rfl,rfl,rfl,rfl,aj _⟩;simp only[bL]at d⊢;by_cases e:b=b1;subst e;rw[aH rfl,i]at d;obtain rfl:=bb d;rw[aH rfl,g.e _ _ h i,Option.map,k];rw[ay e]at d;rw[ay (λq=>e (U.EH q))];exact g.e _ _ a d;have e:b≠b1:=λq=>by rw[q,a]at h;cases h
 obtain⟨c,t,d,m,n,r,u,v⟩:=g.x b1 a;refine⟨c,t,by simp only[bL,ay e,d],m,n,r,u,?_⟩;simp only[bL,ay (λq=>e (U.EH q))];exact v;simp only[bL];rw[ay (l b (gu i) h)]
def ko.V(g:tu U w w'){h:Obj}(l:w.heap[b]?=some o)(k:U.X b=false)(m:h=dR U o1):
  ko U w w' {w with heap:=w.heap.setIfInBounds b o1} {w' with heap:=w'.heap.setIfInBounds (U.f b) h}:=by
 subst m;have i:=gu l;refine⟨⟨λb1 A a d=>?_,λb1 a=>?_,λb1 d=>by simpa using g.s b1 (dD d),g.p,g.j⟩,aY,aY,λB C n=>?_,rfl,rfl,rfl,rfl,aj _⟩;simp only[ee]at d⊢;by_cases e:b=b1;subst e;rw[aH rfl,aH i]at d;obtain rfl:=bb d;rw[aH rfl,aH (gu (g.e _ _ k l))];rw[ay e]at d;rw[ay (λq=>e (U.EH q))];exact g.e _ _ a d;have e:b≠b1:=λq=>by rw[q,a]at k;cases k
 obtain⟨c,t,d,r,u,v,y,z⟩:=g.x b1 a;refine⟨c,t,by simp only[ee,ay e,d],r,u,v,y,?_⟩;simp only[ee,ay (λq=>e (U.EH q))];exact z;simp only[ee];rw[ay (n b i k)]
def yb(c:Array Dv)(i:Nat)(v:Dv):(dx U c).setIfInBounds i (pV U v)=dx U (c.setIfInBounds i v):=by
 apply gB;intro j;simp only[kx,ee,nO];split;split<;>rfl;rfl
def EW(c:tu U w w')(d:U.X a.block=false)(b:(w.heap[a.block]?).isSome):w'.frozen? (bh U a)=w.frozen? a:=by
 unfold World.frozen?
 cases h:w.heap[a.block]? with
 |none=>rw[h]at b;cases b
 |some o=>
  rw[show w'.heap[(bh U a).block]?=_ from c.e _ _ d h];cases o<;>rfl
def Qa{g:Array Dv->Nat×Nat×List UInt8->Except String (Array Dv)}(a:∀c x,g (dx U c) x=(g c x).map (dx U)):∀(cells:List (Nat×Nat×List UInt8)) (c:Array Dv),cells.foldlM g (dx U c)=(cells.foldlM g c).map (dx U)
 | [],c=>rfl
 |x::cells,c=>by
  simp only[Hx,bind,Except.bind,a];cases g c x with
  |error e=>rfl
  |ok c1=>exact Qa a cells c1
set_option linter.unusedSimpArgs false in
def Fu(q:tu U w w'){v:Dv}(b:w.viewStore P at_ u k v m=.ok (w1,l)):
  ∃h,w'.viewStore P (bh U at_) u (bh U k) (pV U v) m=.ok (h,l.map (bh U))/\ko U w w' w1 h/\∀a∈l,U.X a.block=false:=by
 have d:∃r,w.seen P at_ u k m=.ok r:=by
  unfold World.viewStore at b;simp at b;cases d:w.seen P at_ u k m with
  |error x=>
   rw[d]at b;split at b<;>cases b
  |ok x=>exact⟨x,rfl⟩
 let ⟨⟨c,e,fz,first,f,cells⟩,d⟩:=d
 let ⟨c0,E,z,i,s,t⟩:=q.I d
 obtain⟨rfl,rfl,rfl⟩:=Vg i d;dsimp only at i s;have j:w'.seen P (bh U at_) u (bh U k) m=.ok (dx U c,e,fz,first,f,cells):=by rw[QD i s,d];rfl
 have A:(cells.map λ(x:Nat×Nat×List UInt8)=>({block:=at_.block,off:=x.1}:Addr)).map (bh U)=cells.map λx=>({block:=(bh U at_).block,off:=x.1}:Addr):=by
  rw[kO];rfl
 unfold World.viewStore at b⊢;rw[KA];simp only[bind,Except.bind,pure,Except.pure,d,j]at b⊢;cases ht:tight P P.depth u with
 |false=>rw[ht]at b;cases b
 |true=>
  rw[ht]at b;simp only[nL,dZ,nX]at b⊢;cases hb:v.bytes? with
  |none=>rw[hb]at b;cases b
  |some bytes=>
   rw[hb]at b;dsimp only at b⊢;by_cases y:some bytes.length≠Option.map (λx=>x.length) f.bytes?
   rw[aH y]at b;cases b;rw[ay y]at b⊢;generalize B:(λ(c:Array Dv) (x:Nat×Nat×List UInt8)=>(_:Except String (Array Dv)))=g at b⊢;have n:∀c x,g (dx U c) x=(g c x).map (dx U):=by
    intro c x;subst B;dsimp only;split;rfl;split;rfl;rw[kx];cases c[x.1]? with
    |none=>rfl
    |some p=>
     dsimp only[Option.map];rw[Mw];generalize C:p.ofBytes _=o;cases o with
     |none=>rfl
     |some new=>
      dsimp only[Except.map];rw[<-yb,sK U C]
   rw[Qa n];generalize F:List.foldlM g c cells=r at b⊢;cases r with
   |error x=>cases b
   |ok c2=>
    simp at b;obtain⟨rfl,rfl⟩:=b;exact⟨_,A▸rfl,ko.V q i t rfl,λa D=>by obtain⟨x,_,rfl⟩:=ed.1 D;exact t⟩
def bU.a9{m:Mode}{v:Dv}(e:bh U a=a')(k:pV U v=v'):bU P U id (Go.store a v m) (Go.store a' v' m):=by
 subst e k;intro w w' es es' g A;show AY U id w w' (Sem.runT P (.store m a v (.pure ())) w es) (Sem.runT P (.store m (bh U a) (pV U v) (.pure ())) w' es');have j:(∀p,v≠.agg p)->(∀p,v≠.tuple p)->AY U id w w' (match w.cell? a with
   | some _ => if w.frozen? a then (Result.halt (.unsupported (.unsafePointer "a write to bytes that a string shares")) w, es) else Sem.runT P (.pure ()) (w.setCell a v) (es.push ⟨.cell a, true, m == .atomic⟩)
   |none=>match w.farStore P a v (m == .atomic) with
    |.ok (w,b)=>Sem.runT P (.pure ()) w (es++b.toArray.map (⟨.cell ·,true,m == .atomic⟩))
    |.error h=>(.halt h w,es)) (match w'.cell? (bh U a) with
   | some _ => if w'.frozen? (bh U a) then (Result.halt (.unsupported (.unsafePointer "a write to bytes that a string shares")) w', es') else Sem.runT P (.pure ()) (w'.setCell (bh U a) (pV U v)) (es'.push ⟨.cell (bh U a), true, m == .atomic⟩)
   |none=>match w'.farStore P (bh U a) (pV U v) (m == .atomic) with
    |.ok (w,b)=>Sem.runT P (.pure ()) w (es'++b.toArray.map (⟨.cell ·,true,m == .atomic⟩))
    |.error h=>(.halt h w',es')):=by
  intro _ _;cases hc:w.cell? a with
  |some u=>
   rw[g.H hc];dsimp only;obtain⟨c,t,fz,n⟩:∃c t fz,w.heap[a.block]?=some (.cells c t fz):=by
    unfold World.cell? at hc;split at hc;exact⟨_,_,_,‹_›⟩;cases hc
   have d:=g.h n (λ_ _=>aY);rw[EW g d (n▸rfl)];split;trivial;intro _;refine .inr ⟨_,_,rfl,A.e _ (.inl (by simp[tG,d])),ko.I g n d ?_⟩;simp only[dR];by_cases f:a.spot.isSome=true;rw[aH (show (bh U a).spot.isSome=true from f),aH f];rw[ay (show ¬(bh U a).spot.isSome=true from f),ay f,<-yb];rfl
  |none=>

   by_cases i:∃u t,w.heap[a.block]?=some (.view u t);let ⟨u,t,i⟩:=i
   have d:=g.h i (λ_ _=>aY);have q:w'.heap[(bh U a).block]?=some (.view (bh U u) t):=g.e _ _ d i;rw[By g i (λ_ _ _=>aY) d]

   unfold World.farStore;rw[i,q];dsimp only;cases hl:w.viewStore P u t a v (m == .atomic) with
   |error x=>exact aB
   |ok x=>
    let ⟨w1,l⟩:=x
    obtain⟨r,B,y,C⟩:=Fu g hl;rw[B];intro _;refine .inr ⟨r,_,rfl,?_,y⟩;have:=A.I (l.map λa=>(⟨.cell a,true,m == .atomic⟩:Event)) (λe d=>by obtain⟨a,y,rfl⟩:=ed.1 d;simp[tG,C a y]);simpa[sL,lU,Eu] using this
   have z:∃x,w.farStore P a v (m == .atomic)=.error x/\((∃u,x=.unsupported u)\/∃s,x=.stuck s):=by
    unfold World.farStore World.noCell;cases n:w.heap[a.block]? with
    |none=>exact⟨_,rfl,.inr ⟨_,rfl⟩⟩
    |some o=>cases o<;>first|exact⟨_,rfl,.inr ⟨_,rfl⟩⟩|exact⟨_,rfl,.inl ⟨_,rfl⟩⟩|exact absurd ⟨_,_,n⟩ i
   let ⟨x,d,z⟩:=z
   rw[d];rcases z with⟨u,rfl⟩|⟨s,rfl⟩<;>trivial
 cases v<;>first|exact aB|exact j (λ_=>aY) (λ_=>aY)
def bU.ab(e:dR U o=o'):bU P U U.f (Go.newObj o) (Go.newObj o'):=by
 subst e;intro w w' es es' d m n;have k:U.f w.heap.size=w'.heap.size:=by
  have:=n.e w.heap.size (aj _) aY;simpa using this
 have z:U.X w.heap.size=false:=by
  cases g:U.X w.heap.size with
  |false=>rfl
  |true=>
   let ⟨c,t,a,_⟩:=d.x _ g
   exact absurd (gu a) (sZ _)
 refine .inr ⟨{w' with heap:=w'.heap.push (dR U o)},es',k▸rfl,m,⟨⟨λb o1 g a=>?_,λb g=>?_,λb l=>?_,d.p,d.j⟩,aY,aY,λA l B=>?_,rfl,rfl,rfl,rfl,aj _⟩⟩;simp only[jc]at a⊢;by_cases q:b=w.heap.size;subst q;rw[aH rfl]at a;obtain rfl:=bb a;rw[aH k];rw[ay q]at a;have r:=gu a;have h:=d.e _ _ g a;rw[ay (vI (gu h))];exact h;let ⟨c,t,a,h,u,v,y,i⟩:=d.x b g
 refine⟨c,t,?_,h,u,v,y,?_⟩;simp only[jc,ay (vI (gu a)),a];simp only[jc,ay (vI (by rcases i with⟨_,i⟩|i<;>exact gu i))];exact i;simp at l⊢;have a:=d.s b ak;have h:U.f b≠w'.heap.size:=λq=>by
  have:=U.EH (q.trans k.symm);omega
 omega;simp only[jc];rw[ay (vI l)]
def yS(a:tu U w w')(h:w.heap[r]?=none):w'.heap[U.f r]?=none:=by
 have b:=a.s r (by
  rcases bX r w.heap.size with k|k
  rw[aW k]at h;cases h;exact k)
 exact cY b
def Fi(a:tu U w w')(b:U.X r=false):w'.shape? (U.f r)=w.shape? r:=by
 unfold World.shape?
 cases h:w.heap[r]? with
 |none=>rw[yS a h]
 |some o=>
  rw[a.e _ _ b h];cases o<;>first|rfl|(simp only[dR,nO])
def bU.ag{pb:β->β}{k k':Option (DU×Nat)->Sem β}(e:U.f r=r')(j:U.X r=false->∀s,bU P U pb (k s) (k' s))(l:U.X r=true->∀w w' es es',tu U w w'->yx U es es'->(∃c t a b,w.heap[r]?=some (.pending c t)/\c.size≠0/\a.size=c.size/\((U.pn=true/\w'.heap[U.f r]?=some (.pending a b)/\w'.shape? (U.f r)=none)\/(w'.heap[U.f r]?=some (.cells a b (0,0))/\w'.shape? (U.f r)=some (b,a.size)))) ->
   AY U pb w w' ((k none).runT P w es) ((k' (w'.shape? (U.f r))).runT P w' es')):bU P U pb (Go.shape r >>= k) (Go.shape r' >>= k'):=by
 subst e;intro w w' es es' g h;show AY U pb w w' ((k (w.shape? r)).runT P w es) ((k' (w'.shape? (U.f r))).runT P w' es');cases hx:U.X r with
 |false=>
  rw[Fi g hx];exact j hx _ w w' es es' g h
 |true=>
  obtain⟨c,t,i,hc,a,b,m,d⟩:=g.x r hx;have n:w.shape? r=none:=by unfold World.shape?;rw[i]
  rw[n];refine l hx w w' es es' g h ⟨c,t,a,b,i,hc,m,?_⟩;unfold World.shape?
  rcases d with⟨o,d⟩|d
  left;rw[d];exact⟨o,rfl,rfl⟩;right;rw[d];exact⟨rfl,rfl⟩
def bU.a2(b:U.X r=false)(e:U.f r=r'):bU P U id (Go.shape r) (Go.shape r'):=by
 subst e;intro w w' es es' a c _;refine .inr ⟨w',es',?_,c,ko.e a⟩;show (Result.ok (w'.shape? (U.f r)) w',_)=_;rw[Fi a b];rfl
def Mo(d:tu U w w')(a:Addr):w'.frozen? (bh U a)=w.frozen? a:=by
 cases hx:U.X a.block with
 |true=>
  obtain⟨c,t,e,_,f,g,_,b⟩:=d.x _ hx;unfold World.frozen?
  rw[e];rcases b with⟨_,b⟩|b
  rw[show w'.heap[(bh U a).block]?=_ from b];rw[show w'.heap[(bh U a).block]?=_ from b];simp
 |false=>
  cases h:w.heap[a.block]? with
  |none=>
   unfold World.frozen?
   rw[h,show w'.heap[(bh U a).block]?=_ from yS d h]
  |some o=>exact EW d hx (h▸rfl)
def bU.al(e:bh U a=a'):bU P U id (Go.frozen a) (Go.frozen a'):=by
 subst e;intro w w' es es' b c _;refine .inr ⟨w',es',?_,c,ko.e b⟩;show (Result.ok (w'.frozen? (bh U a)) w',_)=_;rw[Mo b];rfl
def ko.O(b:tu U w w')(c:U.X a.block=false):ko U w w' (w.freeze a n) (w'.freeze (bh U a) n):=by
 unfold World.freeze;split;exact ko.e b;cases h:w.heap[a.block]? with
 |none=>
  have d:∀f,w.heap.modify a.block f=w.heap:=λf=>by
   apply gB;intro j;rw[bL];split;rename_i q;rw[<-q,h];rfl;rfl
  have g:∀f,w'.heap.modify (bh U a).block f=w'.heap:=λf=>by
   apply gB;intro j;rw[bL];split;rename_i q;rw[<-q,show w'.heap[(bh U a).block]?=_ from yS b h];rfl;rfl
  rw[d,g];exact ko.e b
 |some o=>
  apply ko.I b h c;cases o<;>rfl
def bU.aq(b:U.X a.block=false)(e:bh U a=a'):bU P U id (Go.freeze a n) (Go.freeze a' n):=by
 subst e;exactλw w' es es' c d _=>.inr ⟨w'.freeze (bh U a) n,es',rfl,d,ko.O c b⟩
def E3(o:Obj):(dR U o).isChan=o.isChan:=by cases o<;>rfl
def zd(h:∀c t fz,o≠.cells c t fz):∀c t fz,dR U o≠.cells c t fz:=by
 cases o<;>first|(intro _ _ _;simp[dR];done)|exact absurd rfl (h _ _ _)
def jk(k:Obj->Sem α)(w:Ba)(es:Array Event)(h:w.heap[r]?=some o)(a:∀c t fz,o≠.cells c t fz):(Go.getObj r >>= k).runT P w es=(k o).runT P w (es.push ⟨.obj r,false,o.isChan⟩):=by
 show ((Sem.getObj r .pure).bind k).runT P w es=_;simp only[Sem.bind,Sem.runT,h]
def xg(o:Obj)(w:Ba)(es:Array Event)(h:w.heap[r]?=some o1)(a:∀c t fz,o1≠.cells c t fz):(Sem.setObj r o (.pure ())).runT P w es=(.ok () {w with heap:=w.heap.setIfInBounds r o},es.push ⟨.obj r,true,o.isChan⟩):=by
 simp only[Sem.runT,h]
def bU.aU(h:∀w es,qs (s.runT P w es)):bU P U pa s s':=by
 intro w w' es es' e f;have b:=h w es;generalize s.runT P w es=x at b;obtain⟨r,c⟩:=x;cases r with
 |ok a w1=>exact b.elim
 |halt d w1=>cases d<;>first|trivial|exact b.elim
def AY.h{y:Result α×Array Event}(b:qs x):AY U pa w w' x y:=by
 let ⟨r,c⟩:=x
 cases r with
 |ok a w1=>exact b.elim
 |halt d w1=>cases d<;>first|trivial|exact b.elim
def bU.an{pb:β->β}{k:Obj->Sem β}(a:U.X r=false)(e:U.f r=r')(g:∀o,bU P U pb (k o) (k' (dR U o))):
  bU P U pb (Go.getObj r >>= k) (Go.getObj r' >>= k'):=by
 subst e;intro w w' es es' b h;cases ho:w.heap[r]? with
 |none=>
  have : (Go.getObj r >>= k).runT P w es = (.halt (.stuck "getObj: no such block") w, es) := by
   show ((Sem.getObj r .pure).bind k).runT P w es=_;simp only[Sem.bind,Sem.runT,ho]
  rw[this];trivial
 |some o=>
  by_cases hc:∃c t fz,o=.cells c t fz
  ·obtain⟨c,t,fz,rfl⟩:=hc;have : (Go.getObj r >>= k).runT P w es = (.halt (.stuck "getObj: a row of cells") w, es) := by
    show ((Sem.getObj r .pure).bind k).runT P w es=_;simp only[Sem.bind,Sem.runT,ho]
   rw[this];trivial
  have d:∀c t fz,o≠.cells c t fz:=λc t fz q=>hc ⟨c,t,fz,q⟩;rw[jk k w es ho d,jk k' w' _ (b.e _ _ a ho) (zd d)];have:=g o w w' _ _ b (h.e ⟨.obj r,false,o.isChan⟩ (.inl (by simp[tG,a])));rw[E3];exact this
def bU.Z{pb:β->β}{k:Obj->Sem β}(e:U.f r=r')(b:∀o,U.X r=false->bU P U pb (k o) (k' (dR U o)))(d:∀c t w es,qs ((k (.pending c t)).runT P w es)):
  bU P U pb (Go.getObj r >>= k) (Go.getObj r' >>= k'):=by
 subst e;intro w w' es es' a g;cases hx:U.X r with
 |true=>
  obtain⟨c,t,i,_⟩:=a.x _ hx;rw[jk k w es i (λ_ _ _=>aY)];exact AY.h (d _ _ _ _)
 |false=>exact bU.an hx rfl (λo=>b o hx) w w' es es' a g
def bU.ac(a:U.X r=false)(e:U.f r=r')(k:dR U o=o'):bU P U id (Go.setObj r o) (Go.setObj r' o'):=by
 subst e k;intro w w' es es' b g;show AY U id w w' (Sem.runT P (.setObj r o (.pure ())) w es) (Sem.runT P (.setObj (U.f r) (dR U o) (.pure ())) w' es');cases ho:w.heap[r]? with
 |none=>
  have : (Sem.setObj r o (.pure ())).runT P w es = (.halt (.stuck "setObj: no such block") w, es) := by simp only [Sem.runT, ho]
  rw[this];trivial
 |some o1=>
  by_cases hc:∃c t fz,o1=.cells c t fz
  ·obtain⟨c,t,fz,rfl⟩:=hc;have : (Sem.setObj r o (.pure ())).runT P w es = (.halt (.stuck "setObj: a row of cells") w, es) := by simp only [Sem.runT, ho]
   rw[this];trivial
  have d:∀c t fz,o1≠.cells c t fz:=λc t fz q=>hc ⟨c,t,fz,q⟩;rw[xg o w es ho d,xg _ w' _ (b.e _ _ a ho) (zd d)];intro _;refine .inr ⟨_,_,rfl,?_,ko.V b ho a rfl⟩;rw[E3];exact g.e ⟨.obj r,true,o.isChan⟩ (.inl (by simp[tG,a]))
def bU.V{q:Question}:bU P U id (Go.choose q) (Go.choose q):=by
 intro w w' es es' a b;show AY U id w w' (Sem.runT P (.choose q .pure) w es) (Sem.runT P (.choose q .pure) w' es');simp only[Sem.runT];split;intro _;exact .inr ⟨w',es',rfl,b,ko.e a⟩;intro c;have h0:=a.p 0 q c.h;simp at h0;refine .inr ⟨{w' with drawn:=w'.drawn+1},es',h0▸rfl,b,⟨⟨a.e,a.x,a.s,λi q d=>?_,a.j⟩,aj _,aY,λ_ _ _=>rfl,rfl,rfl,rfl,by show w'.drawn+1+w.drawn=w'.drawn+(w.drawn+1);omega,cL _⟩⟩;have:=a.p (1+i) q (by rw[<-ir];exact d);simpa only [ir] using this
def bU.I{pb:β->β}{f f':Ft->Sem β}(k:bU P U pb (f P) (f' P)):bU P U pb (Go.program >>= f) (Go.program >>= f'):=k
def bU.aw{m m':Mark}(e:uK U m=m'):bU P U id (Go.mark m) (Go.mark m'):=by
 subst e;exactλw w' es es' a b _=>.inr ⟨w',_,rfl,b.e ⟨.mark m,false,true⟩,ko.e a⟩
end Go.Eqv
