/- Parts of the proof. -/
import Derived.Test.YtbebfliimjjohabGreatDoorMAl0
set_option maxRecDepth 100000
set_option maxHeartbeats 8000000
set_option linter.all false
namespace Go.Eqv
variable{a a' at_ k:Addr}{m:Bool}{b r r' n:Nat}{o o1 o':Obj}{P:Bo}{α β:Type}{u:Bi}{w w' w1:A1}{pa:α->α}{s':Sem α}{f:α->Sem β}{s:Sem α}{f':α->Sem β}{k':Obj->Sem β}
structure Pm where
 f:Nat->Nat
 Gc:∀{a b},f a=f b->a=b
 zx:Nat->Bool
 xT:String->Bool
 VL:Code->Bool
 k:Nat
 X:Nat->Bool
 Y:Nat->Bool
 xy:∀b,Y (f b)=X b
 /-- Only what the other one can do is told. -/
 wk:Bool
 /-- So many answers of the tape are alike. -/
 N:Nat
 /-- The named blocks hold nothing for the other one,too. -/
 pn:Bool
def Pm.e(U:Pm){a:Nat}:U.f a=U.f b↔a=b:=⟨U.Gc,λh=>by rw[h]⟩
def br(U:Pm)(a:Addr):Addr:={a with block:=U.f a.block}
def pM(U:Pm)(f:Nat):Nat:=if U.zx f then f else f+U.k
def oZ(U:Pm):Fn->Fn
 |.yield l=>.yield (U.f l)
 |.func f=>.func (pM U f)
 |.via t p f b=>.via t p (pM U f) b
 |.method n=>if U.xT n then .method n else .yield U.k
 |.methodOf t n=>if U.xT n then .methodOf t n else .yield U.k
mutual
def pV(U:Pm):Value->Value
 |.pointer a=>.pointer (a.map (br U))
 |.slice a l c=>.slice (a.map (br U)) l c
 |.map r=>.map (r.map U.f)
 |.chan r=>.chan (r.map U.f)
 |.func fn first captured=>.func (oZ U fn) (dI U first) (dI U captured)
 |.iface t v=>.iface t (pV U v)
 |.agg cs=>.agg (dI U cs)
 |.tuple vs=>.tuple (dI U vs)
 |.bool b=>.bool b
 |.int k n=>.int k n
 |.float k b=>.float k b
 |.complex k a b=>.complex k a b
 |.string s=>.string s
 |.nilFunc=>.nilFunc
 |.nilIface=>.nilIface
def dI(U:Pm):Array Value->Array Value
 |⟨l⟩=>⟨qj U l⟩
def qj(U:Pm):List Value->List Value
 | []=>[]
 |v::l=>pV U v::qj U l
end
variable{es es':Array Event}{l:List Addr}{U:Pm}{v':Bg}{x:Result α×Array Event}
def yZ(U:Pm):∀l,qj U l=l.map (pV U)
 | []=>rfl
 |v::l=>by rw[qj,yZ U l];rfl
def dR(U:Pm)(a:Array Bg):dI U a=a.map (pV U):=by
 cases a;simp[dI,yZ]
def ew(U:Pm)(e:MapEntry):MapEntry:={e with key:=pV U e.key,val:=pV U e.val}
def ir(U:Pm):Target->Target
 |.fn fn c=>.fn (oZ U fn) (dI U c)
 |.collected r=>.collected (U.f r)
 |.coroexit _=>.collected U.k
 |.builtin ..=>.collected U.k
 |.nil=>.nil
def lN(U:Pm)(d:Deferred):Deferred:={target:=ir U d.target,args:=dI U d.args}
def pC(U:Pm)(c:Code):Code:=if U.VL c then c else .label U.k
def WK:Code->Bool
 |.ret=>true
 |.exit _=>true
 |_=>false
def pJ(U:Pm)(c:Code):Code:=if WK c then c else .label U.k
def pP(U:Pm)(l:Loop):Loop:={l with pending:=l.pending.map (pJ U),fn:=pM U l.fn,tmps:=dI U l.tmps,assign:=pC U l.assign,body:=pC U l.body,defers:=U.f l.defers}
def ei(U:Pm):Obj->Obj
 |.cells c e fz=>.cells (dI U c) e fz
 |.pending c e=>.pending (dI U c) e
 |.view a t=>.view (br U a) t
 |.number a b=>.number (br U a) b
 |.map es c=>.map (es.map (ew U)) c
 |.chan c b d s r t=>.chan c (dI U b) d s r t
 |.stringIter s p=>.stringIter s p
 |.mapIter m s g h=>.mapIter (m.map U.f) s g h
 |.loop l=>.loop (pP U l)
 |.deferred i=>.deferred (i.map (·.map (lN U)))
 |.coro p=>.coro p
 |.finalizers j r=>.finalizers (j.map λx=>(U.f x.1,lN U x.2)) r
def vR(U:Pm):Mark->Mark
 |.noRoom=>.noRoom
 |.extern f=>.extern f
 |_=>.read ⟨U.k,0,none⟩
def mX(U:Pm):Loc->Loc
 |.cell a=>.cell (br U a)
 |.obj r=>.obj (U.f r)
 |.mark m=>.mark (vR U m)
 |l=>l
def ua(U:Pm)(e:Event):Event:={e with loc:=mX U e.loc}
def ux(U:Pm)(e:Event):Bool:=match e.loc with|.obj r=>!U.X r|.cell a=>!U.X a.block|_=>true
def xZ(U:Pm)(e:Event):Bool:=match e.loc with|.obj r=>!U.Y r|.cell a=>!U.Y a.block|_=>true
structure zu(U:Pm)(es es':Array Event):Prop where
 h:es'.filter (xZ U)=(es.filter (ux U)).map (ua U)
 b:U.pn=false->∀e∈es',xZ U e=true
def R5(U:Pm)(e:Event):xZ U (ua U e)=ux U e:=by
 let ⟨l,_,_⟩:=e
 cases l<;>first|rfl|(simp only[xZ,ux,ua,mX,br,U.xy])
def zu.e(h:zu U es es')(e:Event)(a:ux U e=true\/U.pn=true:=by exact Or.inl rfl):zu U (es.push e) (es'.push (ua U e)):=by
 refine⟨?_,λc x d=>?_⟩;rw[FU,FU,R5,h.h];split<;>simp;rcases Array.mem_push.1 d with d|rfl
 exact h.b c x d;rcases a with a|a
 rw[R5];exact a;rw[a]at c;cases c
def zu.I(h:zu U es es')(l:List Event)(a:∀e∈l,ux U e=true):zu U (es++l.toArray) (es'++(l.map (ua U)).toArray):=by
 induction l generalizing es es' with
 |nil=>simpa using h
 |cons e l b=>
  have:=b (h.e e (.inl (a e (by simp)))) λx c=>a x (by simp[c]);simpa using this
def zu.j(h:zu U es es')(c:U.X r=true)(a b:Bool):zu U (es.push ⟨.obj r,a,b⟩) es':=by
 refine⟨?_,h.b⟩;rw[FU,h.h];simp[ux,c]
structure ur(U:Pm)(w w':World):Prop where
 e:∀b o,U.X b=false->w.heap[b]?=some o->w'.heap[U.f b]?=some (ei U o)
 x:∀b,U.X b=true->∃c t,w.heap[b]?=some (.pending c t)/\c.size≠0/\∃c' t',c'.size=c.size/\((U.pn=true/\w'.heap[U.f b]?=some (.pending c' t'))\/w'.heap[U.f b]?=some (.cells c' t' (0,0)))
 s:∀b,w.heap.size<=b->w'.heap.size<=U.f b
 p:∀i q,w.drawn+i<U.N->w'.tape (w'.drawn+i) q=w.tape (w.drawn+i) q
 j:w'.os.env=w.os.env
structure ll(U:Pm)(w w' w1 w1':World):Prop where
 h:ur U w1 w1'
 o:w.heap.size<=w1.heap.size
 j:w1'.heap.size=w'.heap.size+(w1.heap.size-w.heap.size)
 i:∀b',b'<w'.heap.size->(∀b,b<w.heap.size->U.X b=false->U.f b≠b')->w1'.heap[b']?=w'.heap[b']?
 t:w1'.os=w'.os
 p:w1'.output=w'.output
 u:w1'.tape=w'.tape
 x:w1'.drawn+w.drawn=w'.drawn+w1.drawn
 s:w.drawn<=w1.drawn
structure Ee(U:Pm)(w w' w1:World):Prop where
 e:∀b,w.heap.size<=b->b<w1.heap.size->U.f b=w'.heap.size+(b-w.heap.size)
 h:w1.drawn<=U.N
def ry{α:Type}:Result α×Array Event->Prop
 |(.halt (.unsupported _) _,_)=>True
 |(.halt (.stuck _) _,_)=>True
 |_=>False
def zw{α:Type}(U:Pm)(pa:α->α)(w w':World):Result α×Array Event->Result α×Array Event->Prop
 |(.ok a w1,es),x=>Ee U w w' w1->(U.wk=true/\ry x)\/∃b es',x=(.ok (pa a) b,es')/\zu U es es'/\ll U w w' w1 b
 |(.halt (.panic v) w1,es),x=>Ee U w w' w1->(U.wk=true/\ry x)\/∃b es',x=(.halt (.panic (pV U v)) b,es')/\zu U es es'/\ll U w w' w1 b
 |(.halt (.unsupported _) _,_),_=>True
 |(.halt (.stuck _) _,_),_=>True
 |(.halt _ w1,_),x=>Ee U w w' w1->U.wk=true/\ry x
def bZ{α:Type}(P:Program)(U:Pm)(pa:α->α)(s s':Sem α):Prop:=
 ∀w w' es es',ur U w w'->zu U es es'->zw U pa w w' (s.runT P w es) (s'.runT P w' es')
def ll.e(h:ur U w w'):ll U w w' w w':=
 ⟨h,aa _,by simp,λ_ _ _=>rfl,rfl,rfl,rfl,rfl,aa _⟩
def ll.H{a w2 c:A1}(h:ll U w w' w1 a)(m:Ee U w w' w1)(k:ll U w1 a w2 c):ll U w w' w2 c:=by
 have r:=h.o;have v:=k.o;have y:=h.j;have z:=k.j;have A:=h.x;have B:=k.x;have C:=h.s;have D:=k.s;refine⟨k.h,by omega,by omega,λg n l=>?_,k.t.trans h.t,k.p.trans h.p,k.u.trans h.u,by omega,by omega⟩;rw[k.i g (by omega) λb d q e=>?_,h.i g n l];by_cases f:b<w.heap.size;exact l b f q e;have:=m.e b (by omega) d;omega
def fU(P:Bo)(f:α->Sem β)(s:Sem α)(w:A1)(es:Array Event):(s.bind f).runT P w es=match s.runT P w es with
  |(.ok a w1,d)=>(f a).runT P w1 d
  |(.halt h w1,d)=>(.halt h w1,d):=by
 induction s generalizing w es with
 |pure a=>rfl
 |load m a c b=>
  simp only[Sem.bind,Sem.runT];split;exact b _ _ _;split;exact b _ _ _;rfl
 |store m a v c b=>
  simp only[Sem.bind];cases v<;>simp only[Sem.runT];all_goals first|rfl|(split<;>first|(split<;>first|rfl|exact b _ _)|rfl)
 |new o c b=>simp only[Sem.bind,Sem.runT];exact b _ _ _
 |shape r c b=>simp only[Sem.bind,Sem.runT];exact b _ _ _
 |freeze a n c b=>simp only[Sem.bind,Sem.runT];exact b _ _
 |frozen a c b=>simp only[Sem.bind,Sem.runT];exact b _ _ _
 |getObj r c b=>simp only[Sem.bind,Sem.runT];split<;>first|rfl|exact b _ _ _
 |setObj r o c b=>simp only[Sem.bind,Sem.runT];split<;>first|rfl|exact b _ _
 |choose q c b=>simp only[Sem.bind,Sem.runT];split<;>exact b _ _ _
 |sys c k b=>simp only[Sem.bind,Sem.runT];exact b _ _ _
 |program c b=>simp only[Sem.bind,Sem.runT];exact b _ _ _
 |mark m c b=>simp only[Sem.bind,Sem.runT];exact b _ _
 |halt h=>rfl
def WS{α:Type}:Result α->World
 |.ok _ w=>w
 |.halt _ w=>w
def BW{v:Bg}(h:w.farStore P a v m=.ok (w1,l)):w1.heap.size=w.heap.size:=by
 unfold World.farStore at h;split at h
 .split at h
  .rename_i r b;simp at h;subst h;unfold World.viewStore at b;simp only[bind,Except.bind,pure,Except.pure]at b;repeat' (split at b)
   all_goals first|(simp only[Mf,Cq]at b;rw[<-b.1];simp;done)|(exact nomatch b)
  simp at h
 simp at h
def RH(a:Ask α)(w:A1):(w.ask a).2.heap=w.heap:=by
 induction a generalizing w with
 |done a=>rfl
 |ask b range k c=>
  simp only[World.ask];split;exact c _ _;rw[c]
def SR(w:A1)(c:Sys):(w.sys c).2.heap=w.heap:=by
 have h:=RH (Kernel.perform c w.os) w;unfold World.sys;generalize w.ask (Kernel.perform c w.os)=x at h;let ⟨⟨r,a⟩,w1⟩:=x
 cases r<;>first|rfl|exact h
def zM{v:Bg}(h:w.farStore P a v m=.ok (w1,l)):w1.drawn=w.drawn:=by
 unfold World.farStore at h;split at h
 .split at h
  .rename_i r b;simp at h;subst h;unfold World.viewStore at b;simp only[bind,Except.bind,pure,Except.pure]at b;repeat' (split at b)
   all_goals first|(simp only[Mf,Cq]at b;rw[<-b.1];done)|(exact nomatch b)
  simp at h
 simp at h
def NQ(a:Ask α)(w:A1):w.drawn<=(w.ask a).2.drawn:=by
 induction a generalizing w with
 |done a=>exact aa _
 |ask b range k c=>
  simp only[World.ask];split;exact c _ _;exact aP (du _) (c _ {w with drawn:=w.drawn+1})
def OW(w:A1)(c:Sys):w.drawn<=(w.sys c).2.drawn:=by
 have h:=NQ (Kernel.perform c w.os) w;unfold World.sys;generalize w.ask (Kernel.perform c w.os)=x at h;let ⟨⟨r,a⟩,w1⟩:=x
 cases r<;>first|exact aa _|exact h
def qF(P:Bo)(s:Sem α)(w:A1)(es:Array Event):w.drawn<=(WS (s.runT P w es).1).drawn:=by
 induction s generalizing w es with
 |pure a=>exact aa _
 |load m a c b=>
  simp only[Sem.runT];split;exact b _ _ _;split;exact b _ _ _;exact aa _
 |store m a v c b=>
  cases v<;>simp only[Sem.runT];all_goals first
   |exact aa _
   |(
     split;split;exact aa _;exact b (w.setCell a _) _;split;rename_i h;exact aP (fR ((λw1 l h=>zM h) _ _ h).symm) (b _ _);exact aa _)
 |new o c b=>simp only[Sem.runT];exact b _ {w with heap:=w.heap.push o} _
 |shape r c b=>simp only[Sem.runT];exact b _ _ _
 |freeze a n c b=>
  simp only[Sem.runT];refine aP (fR ?_) (b _ _);unfold World.freeze;split<;>rfl
 |frozen a c b=>simp only[Sem.runT];exact b _ _ _
 |getObj r c b=>simp only[Sem.runT];split<;>first|exact aa _|exact b _ _ _
 |setObj r o c b=>simp only[Sem.runT];split<;>first|exact aa _|exact b {w with heap:=w.heap.setIfInBounds r o} _
 |choose q c b=>simp only[Sem.runT];split<;>first|exact b _ _ _|exact aP (du _) (b _ {w with drawn:=w.drawn+1} _)
 |sys c k b=>
  simp only[Sem.runT];exact aP (OW w c) (b _ _ _)
 |program c b=>simp only[Sem.runT];exact b _ _ _
 |mark m c b=>simp only[Sem.runT];exact b _ _
 |halt h=>exact aa _
def nK(P:Bo)(s:Sem α)(w:A1)(es:Array Event):w.heap.size<=(WS (s.runT P w es).1).heap.size:=by
 induction s generalizing w es with
 |pure a=>exact aa _
 |load m a c b=>
  simp only[Sem.runT];split;exact b _ _ _;split;exact b _ _ _;exact aa _
 |store m a v c b=>
  cases v<;>simp only[Sem.runT];all_goals first
   |exact aa _
   |(
     split;split;exact aa _;exact aP (fR (by simp[World.setCell])) (b _ _);split;rename_i h;exact aP (fR ((λw1 l h=>BW h) _ _ h).symm) (b _ _);exact aa _)
 |new o c b=>simp only[Sem.runT];exact aP (by simp) (b _ _ _)
 |shape r c b=>simp only[Sem.runT];exact b _ _ _
 |freeze a n c b=>
  simp only[Sem.runT];refine aP (fR ?_) (b _ _);unfold World.freeze;split<;>simp
 |frozen a c b=>simp only[Sem.runT];exact b _ _ _
 |getObj r c b=>simp only[Sem.runT];split<;>first|exact aa _|exact b _ _ _
 |setObj r o c b=>simp only[Sem.runT];split<;>first|exact aa _|exact aP (by simp) (b _ _)
 |choose q c b=>simp only[Sem.runT];split<;>first|exact b _ _ _|exact b _ {w with drawn:=w.drawn+1} _
 |sys c k b=>
  simp only[Sem.runT];exact aP (fR (by rw[SR])) (b _ _ _)
 |program c b=>simp only[Sem.runT];exact b _ _ _
 |mark m c b=>simp only[Sem.runT];exact b _ _
 |halt h=>exact aa _
def bZ.h{a a':α}(h:pa a=a'):bZ P U pa (Pure.pure a) (Pure.pure a'):=by
 subst h;exactλw w' es es' b c _=>.inr ⟨w',es',rfl,c,ll.e b⟩
def bZ.a5{m:String}:bZ P U pa (.halt (.stuck m)) s':=λ_ _ _ _ _ _=>aE
def bZ.a7{u:Unsupported}:bZ P U pa (.halt (.unsupported u)) s':=λ_ _ _ _ _ _=>aE
def bZ.j{m:String}:bZ P U pa (Go.stuck m) s':=λ_ _ _ _ _ _=>aE
def bZ.H{u:Unsupported}:bZ P U pa (Go.unsupported u) s':=λ_ _ _ _ _ _=>aE
def bZ.ae{pb:β->β}{m:String}{s':Sem β}:bZ P U pb (Go.stuck m >>= f) s':=λ_ _ _ _ _ _=>aE
def bZ.O{pb:β->β}{u:Unsupported}{s':Sem β}:bZ P U pb (Go.unsupported u >>= f) s':=λ_ _ _ _ _ _=>aE
def bZ.ag{v:Bg}(e:pV U v=v'):bZ P U pa (Go.goPanic v) (Go.goPanic v'):=by
 subst e;exactλw w' es es' a b _=>.inr ⟨w',es',rfl,b,ll.e a⟩
def ry.e{f:α->A1->Array Event->Result β×Array Event}(h:ry x):ry (match x with
  |(.ok a w1,b)=>f a w1 b
  |(.halt h w1,b)=>(.halt h w1,b)):=by
 let ⟨r,es⟩:=x
 cases r with
 |ok a w=>exact h.elim
 |halt c w=>cases c<;>first|exact h|exact h.elim
def zw.e{pb:β->β}(F:zw U pa w w' (s.runT P w es) (s'.runT P w' es'))(k:∀a w1 i d g,s.runT P w es=(.ok a w1,d)->s'.runT P w' es'=(.ok (pa a) i,g)->zu U d g->ll U w w' w1 i->zw U pb w1 i ((f a).runT P w1 d) ((f' (pa a)).runT P i g)):
  zw U pb w w' ((s >>= f).runT P w es) ((s' >>= f').runT P w' es'):=by
 show zw U pb w w' ((s.bind f).runT P w es) ((s'.bind f').runT P w' es');rw[fU,fU];generalize R:s.runT P w es=x at F;let ⟨r,d⟩:=x
 cases r with
 |ok a w1=>
  dsimp only;have n:Ee U w w' w1->(U.wk=true/\ry (match s'.runT P w' es' with
    |(.ok a w1,d)=>(f' a).runT P w1 d
    |(.halt h w1,d)=>(.halt h w1,d)))\/zw U pb w w' ((f a).runT P w1 d) (match s'.runT P w' es' with
    |(.ok a w1,d)=>(f' a).runT P w1 d
    |(.halt h w1,d)=>(.halt h w1,d)):=by
   intro t;rcases F t with p|⟨i,g,e,L,z⟩
   exact .inl ⟨p.1,ry.e p.2⟩;right;have K:=k a w1 i d g R e L z;rw[e];dsimp only;have A:∀w2,Ee U w w' w2->Ee U w1 i w2:=λw2 c=>⟨λb G I=>by
    have T:=z.o;have V:=z.j;have:=c.e b (by omega) I;omega,c.h⟩
   generalize S:(f a).runT P w1 d=y at K;obtain⟨M,N⟩:=y;cases M with
   |ok b w2=>
    intro c;rcases K (A _ c) with p|⟨B,l,O,C,D⟩
    exact .inl p;exact .inr ⟨B,l,O,C,z.H t D⟩
   |halt J w2=>
    cases J with
    |panic v=>
     intro c;rcases K (A _ c) with p|⟨B,l,O,C,D⟩
     exact .inl p;exact .inr ⟨B,l,O,C,z.H t D⟩
    |unsupported u=>trivial
    |stuck m=>trivial
    |_=>exactλc=>K (A _ c)
  have Q:∀w2,w1.heap.size<=w2.heap.size/\w1.drawn<=w2.drawn->Ee U w w' w2->Ee U w w' w1:=λw2 E c=>⟨λb G I=>c.e b G (by omega),aP E.2 c.h⟩;have E:=And.intro (nK P (f a) w1 d) (qF P (f a) w1 d);generalize S:(f a).runT P w1 d=y at n E;obtain⟨M,N⟩:=y;cases M with
  |ok b w2=>exactλc=>(n (Q _ E c)).elim .inl λq=>q c
  |halt J w2=>
   cases J with
   |panic v=>exactλc=>(n (Q _ E c)).elim .inl λq=>q c
   |unsupported u=>trivial
   |stuck m=>trivial
   |_=>exactλc=>(n (Q _ E c)).elim id λq=>q c
 |halt J w1=>
  cases J with
  |panic v=>
   intro t;rcases F t with p|⟨i,g,e,L,z⟩
   exact .inl ⟨p.1,ry.e p.2⟩;rw[e];exact .inr ⟨i,g,rfl,L,z⟩
  |unsupported u=>trivial
  |stuck m=>trivial
  |_=>exactλt=>⟨(F t).1,ry.e (F t).2⟩
def bZ.e{pb:β->β}(h:bZ P U pa s s')(k:∀a,bZ P U pb (f a) (f' (pa a))):bZ P U pb (s >>= f) (s' >>= f'):=
 λw w' es es' i j=>zw.e (h w w' es es' i j) λa w1 c d b _ _ g l=>k a w1 c d b l.h g
def Ml(U:Pm)(v:Bg):(pV U v).bytes?=v.bytes?:=by cases v<;>rfl
def Oo(U:Pm)(v:Bg)(l:List UInt8):(pV U v).ofBytes l=v.ofBytes l:=by cases v<;>rfl
def tZ(U:Pm){v u:Bg}{l:List UInt8}(h:v.ofBytes l=some u):pV U u=u:=by
 cases v<;>simp only[Value.ofBytes]at h;all_goals first
  |(cases h;done)
  |(split at h<;>first|(cases h;done)|(injection h with h;subst h;rfl))
def lr(U:Pm)(a:Array Bg)(i:Nat):(dI U a)[i]?=(a[i]?).map (pV U):=by rw[dR,cD]
def pc(U:Pm)(a:Array Bg):(dI U a).size=a.size:=by rw[dR,eR]
def yb(P:Bo)(U:Pm)(c:Array Bg)(e:Bi):∀(n x a:Nat),seenCells P (dI U c) e n x a=seenCells P c e n x a
 |0,x,a=>rfl
 |n+1,x,a=>by
  unfold seenCells;split;rfl;dsimp only;split;rfl;split;rfl;rename_i i s _;rw[lr];cases c[i]? with
  |none=>rfl
  |some v=>
   simp only[Option.map,Ml];cases v.bytes? with
   |none=>rfl
   |some bs=>cases bs with
    |nil=>rfl
    |cons b bs=>simp only[yb P U c e n]
def JX{r}(hs:w.seen P at_ u k m=.ok r):∃c e fz,w.heap[at_.block]?=some (.cells c e fz):=by
 have b:(∀c e fz,w.heap[at_.block]?≠some (.cells c e fz))->∃x,w.seen P at_ u k m=.error x:=by
  intro d;unfold World.seen;simp;generalize w.heap[at_.block]?=o at d⊢;split;exact⟨_,rfl⟩;cases plainCell P P.depth u k.off with
  |none=>exact⟨_,rfl⟩
  |some a=>
   dsimp only;cases Option.map (λx=>List.length x) a.bytes? with
   |none=>exact⟨_,rfl⟩
   |some f=>
    dsimp only;cases byteOfCell P P.depth u k.off with
    |none=>exact⟨_,rfl⟩
    |some β=>
     cases o with
     |none=>exact⟨_,rfl⟩
     |some o=>cases o with
      |cells c e fz=>exact absurd rfl (d c e fz)
      |_=>exact⟨_,rfl⟩
 refine cO λhc=>?_;let ⟨x,g⟩:=b λc e fz h=>hc ⟨c,e,fz,h⟩
 rw[g]at hs;cases hs
def SC{c e fz fz'}(h:w.heap[at_.block]?=some (.cells c e fz))(i:w'.heap[U.f at_.block]?=some (.cells (dI U c) e fz')):
  w'.seen P (br U at_) u (br U k) m=(w.seen P at_ u k m).map λx=>(dI U x.1,x.2.1,fz',x.2.2.2):=by
 have g:w'.heap[(br U at_).block]?=some (.cells (dI U c) e fz'):=i;unfold World.seen;have j:((br U k).spot.isSome||(br U at_).spot.isSome)=(k.spot.isSome||at_.spot.isSome):=rfl;have l:(br U k).off=k.off:=rfl;have n:(br U at_).off=at_.off:=rfl;simp only[bind,Except.bind,pure,Except.pure,j,l,n,h,g,yb];split;rfl;cases plainCell P P.depth u k.off with
 |none=>rfl
 |some b=>
  dsimp only;cases Option.map (λx=>List.length x) b.bytes? with
  |none=>rfl
  |some d=>
   dsimp only;cases byteOfCell P P.depth u k.off with
   |none=>rfl
   |some β=>
    dsimp only;split;rfl;cases byteOfCell P P.depth e (at_.off%P.cellsOf e) with
    |none=>rfl
    |some b0=>
     dsimp only;generalize seenCells P c e (d+1) _ _=a;cases a with
     |error x=>rfl
     |ok a=>
      dsimp only;cases m with
      |false=>rfl
      |true=>
       simp;cases a with
       |nil=>rfl
       |cons x a=>cases a with
        |cons y a=>rfl
        |nil=>
         dsimp only;split<;>rfl
def WX{c e fz r}(f:w.heap[at_.block]?=some (.cells c e fz))(hs:w.seen P at_ u k m=.ok r):r.1=c/\r.2.1=e/\r.2.2.1=fz:=by
 unfold World.seen at hs;simp only[bind,Except.bind,pure,Except.pure,f]at hs;split at hs;cases hs;cases hp:plainCell P P.depth u k.off with
 |none=>rw[hp]at hs;cases hs
 |some b=>
  rw[hp]at hs;dsimp only at hs;cases hq:Option.map (λx=>List.length x) b.bytes? with
  |none=>rw[hq]at hs;cases hs
  |some d=>
   rw[hq]at hs;dsimp only at hs;cases hb:byteOfCell P P.depth u k.off with
   |none=>rw[hb]at hs;cases hs
   |some β=>
    rw[hb]at hs;dsimp only at hs;split at hs;cases hs;cases ho:byteOfCell P P.depth e (at_.off%P.cellsOf e) with
    |none=>rw[ho]at hs;cases hs
    |some b0=>
     rw[ho]at hs;dsimp only at hs;generalize seenCells P c e (d+1) _ _=a at hs;cases a with
     |error x=>cases hs
     |ok a=>
      dsimp only at hs;cases m with
      |false=>simp at hs;subst hs;exact⟨rfl,rfl,rfl⟩
      |true=>
       simp at hs;cases a with
       |nil=>cases hs
       |cons x a=>cases a with
        |cons y a=>cases hs
        |nil=>
         dsimp only at hs;split at hs;cases hs;simp at hs;subst hs;exact⟨rfl,rfl,rfl⟩
def ur.h(h:ur U w w')(a:w.heap[b]?=some o)(d:∀c t,o≠.pending c t):U.X b=false:=by
 cases hX:U.X b with
 |false=>rfl
 |true=>
  let ⟨c,t,e,_⟩:=h.x b hX
  rw[a]at e;exact absurd (aZ e) (d c t)
def ur.H(h:ur U w w'){v:Bg}(hc:w.cell? a=some v):w'.cell? (br U a)=some (pV U v):=by
 unfold World.cell? at hc⊢;cases ho:w.heap[a.block]? with
 |none=>rw[ho]at hc;cases hc
 |some o=>
  rw[ho]at hc;cases o with
  |cells c t fz=>
   rw[show w'.heap[(br U a).block]?=_ from h.e _ _ (h.h ho (λ_ _=>by simp)) ho];simp only[ei]at hc⊢;show (if a.spot.isSome then none else (dI U c)[a.off]?)=_;split at hc;cases hc;rw[ax ‹_›,lr,hc];rfl
  |_=>cases hc
def ur.O(h:ur U w w'){v:Bg}(hc:w.cell? a=some v):U.X a.block=false:=by
 unfold World.cell? at hc;split at hc;exact h.h ‹_› (λ_ _=>by simp);cases hc
def Kd{v:Bg}{c e fz fz'}(g:w.heap[at_.block]?=some (.cells c e fz))(h:w'.heap[U.f at_.block]?=some (.cells (dI U c) e fz'))(b:w.viewLoad P at_ u k m=.ok (v,l)):w'.viewLoad P (br U at_) u (br U k) m=.ok (v,l.map (br U))/\pV U v=v/\∀a∈l,a.block=at_.block:=by
 unfold World.viewLoad at b⊢;rw[SC g h];cases hs:w.seen P at_ u k m with
 |error x=>rw[hs]at b;cases b
 |ok x=>
  obtain⟨c1,p,i,first,d,cells⟩:=x;rw[hs]at b;simp only[Except.map,bind,Except.bind]at b⊢;generalize j:d.ofBytes _=o at b⊢;cases o with
  |none=>cases b
  |some q=>
   simp only[pure,Except.pure,Mf,Cq]at b⊢;obtain⟨rfl,rfl⟩:=b;refine⟨⟨rfl,?_⟩,tZ U j,λa n=>?_⟩;rw[lK];rfl;obtain⟨x,_,rfl⟩:=dY.1 n;rfl
def ur.I(h:ur U w w'){r}(hs:w.seen P at_ u k m=.ok r):∃c e fz,w.heap[at_.block]?=some (.cells c e fz)/\w'.heap[U.f at_.block]?=some (.cells (dI U c) e fz)/\U.X at_.block=false:=by
 obtain⟨c,e,fz,a⟩:=JX hs;have b:=h.h a (λ_ _=>by simp);exact⟨c,e,fz,a,h.e _ _ b a,b⟩
def Cy(h:ur U w w')(b:w.heap[a.block]?=some o)(d:∀c t fz,o≠.cells c t fz)(f:U.X a.block=false):w'.cell? (br U a)=none:=by
 unfold World.cell?
 rw[show w'.heap[(br U a).block]?=_ from h.e _ _ f b];cases o<;>first|rfl|exact absurd rfl (d _ _ _)
def Ms(h:∀u t,w.heap[a.block]?≠some (.view u t)):∃x,w.farLoad P a m=.error x/\((∃u,x=.unsupported u)\/∃s,x=.stuck s):=by
 unfold World.farLoad World.noCell;cases ho:w.heap[a.block]? with
 |none=>exact⟨_,rfl,.inr ⟨_,rfl⟩⟩
 |some o=>cases o<;>first|exact⟨_,rfl,.inr ⟨_,rfl⟩⟩|exact⟨_,rfl,.inl ⟨_,rfl⟩⟩|exact absurd ho (h _ _)
def bZ.ao{m:Mode}(e:br U a=a'):bZ P U (pV U) (Go.load a m) (Go.load a' m):=by
 subst e;intro w w' es es' b j;show zw U (pV U) w w' (Sem.runT P (.load m a .pure) w es) (Sem.runT P (.load m (br U a) .pure) w' es');simp only[Sem.runT];cases hc:w.cell? a with
 |some v=>
  rw[b.H hc];intro _;exact .inr ⟨w',_,rfl,j.e _ (.inl (by simp[ux,b.O hc])),ll.e b⟩
 |none=>

  by_cases d:∃u t,w.heap[a.block]?=some (.view u t);let ⟨u,t,d⟩:=d
  have f:=b.h d (λ_ _=>by simp);have i:w'.heap[(br U a).block]?=some (.view (br U u) t):=b.e _ _ f d;rw[Cy b d (λ_ _ _=>by simp) f]

  unfold World.farLoad;rw[d,i];dsimp only;cases hl:w.viewLoad P u t a (m == .atomic) with
  |error x=>exact aE
  |ok x=>
   let ⟨v,l⟩:=x
   have g:∃r,w.seen P u t a (m == .atomic)=.ok r:=by
    unfold World.viewLoad at hl;cases g:w.seen P u t a (m == .atomic) with
    |error x=>rw[g]at hl;cases hl
    |ok x=>exact⟨x,rfl⟩
   let ⟨r,g⟩:=g
   let ⟨c,e,fz,n,o,p⟩:=b.I g
   obtain⟨q,y,z⟩:=Kd (P:=P) (k:=a) (u:=t) (m:=(m == .atomic)) n o hl;rw[q];intro _;refine .inr ⟨w',_,by dsimp only[Sem.runT];rw[y],?_,ll.e b⟩;have:=j.I (l.map λa=>(⟨.cell a,false,m == .atomic⟩:Event)) (λe f=>by obtain⟨a,A,rfl⟩:=dY.1 f;simp[ux,z a A,p]);simpa[ua,mX,FV] using this
  let ⟨x,f,B⟩:=Ms (P:=P) (w:=w) (a:=a) (m:=(m == .atomic)) λu t h=>d ⟨u,t,h⟩
  rw[f];rcases B with⟨u,rfl⟩|⟨s,rfl⟩<;>trivial
def gT(h:w.heap[b]?=some o):b<w.heap.size:=by
 rcases cz b w.heap.size with k|k
 exact k;rw[dx k]at h;cases h
def ll.I(g:ur U w w'){f f':Obj->Obj}(k:w.heap[b]?=some o)(i:U.X b=false)(l:f' (ei U o)=ei U (f o)):
  ll U w w' {w with heap:=w.heap.modify b f} {w' with heap:=w'.heap.modify (U.f b) f'}:=by
 refine⟨⟨λh o1 a d=>?_,λh a=>?_,λh d=>by simpa using g.s h (by simpa using d),g.p,g.j⟩,by simp,by simp,λz A m=>?_,rfl,rfl,rfl,rfl,aa _⟩;simp only[bU]at d⊢;by_cases e:b=h;subst e;rw[az rfl,k]at d;obtain rfl:=aZ d;rw[az rfl,g.e _ _ i k,Option.map,l];rw[ax e]at d;rw[ax (λq=>e (U.Gc q))];exact g.e _ _ a d;have e:b≠h:=λq=>by rw[q,a]at i;cases i
 obtain⟨c,t,d,n,r,u,v,y⟩:=g.x h a;refine⟨c,t,by simp only[bU,ax e,d],n,r,u,v,?_⟩;simp only[bU,ax (λq=>e (U.Gc q))];exact y;simp only[bU];rw[ax (m b (gT k) i)]
def ll.V(g:ur U w w'){i:Obj}(m:w.heap[b]?=some o)(l:U.X b=false)(n:i=ei U o1):
  ll U w w' {w with heap:=w.heap.setIfInBounds b o1} {w' with heap:=w'.heap.setIfInBounds (U.f b) i}:=by
 subst n;have k:=gT m;refine⟨⟨λh B a d=>?_,λh a=>?_,λh d=>by simpa using g.s h (by simpa using d),g.p,g.j⟩,by simp,by simp,λC D r=>?_,rfl,rfl,rfl,rfl,aa _⟩;simp only[eP]at d⊢;by_cases e:b=h;subst e;rw[az rfl,az k]at d;obtain rfl:=aZ d;rw[az rfl,az (gT (g.e _ _ l m))];rw[ax e]at d;rw[ax (λq=>e (U.Gc q))];exact g.e _ _ a d;have e:b≠h:=λq=>by rw[q,a]at l;cases l
 obtain⟨c,t,d,u,v,y,z,A⟩:=g.x h a;refine⟨c,t,by simp only[eP,ax e,d],u,v,y,z,?_⟩;simp only[eP,ax (λq=>e (U.Gc q))];exact A;simp only[eP];rw[ax (r b k l)]
def za(c:Array Bg)(i:Nat)(v:Bg):(dI U c).setIfInBounds i (pV U v)=dI U (c.setIfInBounds i v):=by
 apply ib;intro j;simp only[lr,eP,pc];split;split<;>rfl;rfl
def Gs(c:ur U w w')(d:U.X a.block=false)(b:(w.heap[a.block]?).isSome):w'.frozen? (br U a)=w.frozen? a:=by
 unfold World.frozen?
 cases h:w.heap[a.block]? with
 |none=>rw[h]at b;cases b
 |some o=>
  rw[show w'.heap[(br U a).block]?=_ from c.e _ _ d h];cases o<;>rfl
def RV{g:Array Bg->Nat×Nat×List UInt8->Except String (Array Bg)}(a:∀c x,g (dI U c) x=(g c x).map (dI U)):∀(cells:List (Nat×Nat×List UInt8)) (c:Array Bg),cells.foldlM g (dI U c)=(cells.foldlM g c).map (dI U)
 | [],c=>rfl
 |x::cells,c=>by
  simp only[oT,bind,Except.bind,a];cases g c x with
  |error e=>rfl
  |ok c1=>exact RV a cells c1
set_option linter.unusedSimpArgs false in
def GV(q:ur U w w'){v:Bg}(b:w.viewStore P at_ u k v m=.ok (w1,l)):
  ∃h,w'.viewStore P (br U at_) u (br U k) (pV U v) m=.ok (h,l.map (br U))/\ll U w w' w1 h/\∀a∈l,U.X a.block=false:=by
 have d:∃r,w.seen P at_ u k m=.ok r:=by
  unfold World.viewStore at b;simp at b;cases d:w.seen P at_ u k m with
  |error x=>
   rw[d]at b;split at b<;>cases b
  |ok x=>exact⟨x,rfl⟩
 let ⟨⟨c,e,fz,first,f,cells⟩,d⟩:=d
 let ⟨c0,E,z,i,s,t⟩:=q.I d
 obtain⟨rfl,rfl,rfl⟩:=WX i d;dsimp only at i s;have j:w'.seen P (br U at_) u (br U k) m=.ok (dI U c,e,fz,first,f,cells):=by rw[SC i s,d];rfl
 have A:(cells.map λ(x:Nat×Nat×List UInt8)=>({block:=at_.block,off:=x.1}:Addr)).map (br U)=cells.map λx=>({block:=(br U at_).block,off:=x.1}:Addr):=by
  rw[lK];rfl
 unfold World.viewStore at b⊢;rw[Ml];simp only[bind,Except.bind,pure,Except.pure,d,j]at b⊢;cases ht:tight P P.depth u with
 |false=>rw[ht]at b;cases b
 |true=>
  rw[ht]at b;simp only[oX,eL,mj]at b⊢;cases hb:v.bytes? with
  |none=>rw[hb]at b;cases b
  |some bytes=>
   rw[hb]at b;dsimp only at b⊢;by_cases y:some bytes.length≠Option.map (λx=>x.length) f.bytes?
   rw[az y]at b;cases b;rw[ax y]at b⊢;generalize B:(λ(c:Array Bg) (x:Nat×Nat×List UInt8)=>(_:Except String (Array Bg)))=g at b⊢;have n:∀c x,g (dI U c) x=(g c x).map (dI U):=by
    intro c x;subst B;dsimp only;split;rfl;split;rfl;rw[lr];cases c[x.1]? with
    |none=>rfl
    |some p=>
     dsimp only[Option.map];rw[Oo];generalize C:p.ofBytes _=o;cases o with
     |none=>rfl
     |some new=>
      dsimp only[Except.map];rw[<-za,tZ U C]
   rw[RV n];generalize F:List.foldlM g c cells=r at b⊢;cases r with
   |error x=>cases b
   |ok c2=>
    simp at b;obtain⟨rfl,rfl⟩:=b;exact⟨_,by rw[A];rfl,ll.V q i t rfl,λa D=>by obtain⟨x,_,rfl⟩:=dY.1 D;exact t⟩
def bZ.a9{m:Mode}{v:Bg}(e:br U a=a')(k:pV U v=v'):bZ P U id (Go.store a v m) (Go.store a' v' m):=by
 subst e k;intro w w' es es' g A;show zw U id w w' (Sem.runT P (.store m a v (.pure ())) w es) (Sem.runT P (.store m (br U a) (pV U v) (.pure ())) w' es');have j:(∀p,v≠.agg p)->(∀p,v≠.tuple p)->zw U id w w' (match w.cell? a with
   | some _ => if w.frozen? a then (Result.halt (.unsupported (.unsafePointer "a write to bytes that a string shares")) w, es) else Sem.runT P (.pure ()) (w.setCell a v) (es.push ⟨.cell a, true, m == .atomic⟩)
   |none=>match w.farStore P a v (m == .atomic) with
    |.ok (w,b)=>Sem.runT P (.pure ()) w (es++b.toArray.map (⟨.cell ·,true,m == .atomic⟩))
    |.error h=>(.halt h w,es)) (match w'.cell? (br U a) with
   | some _ => if w'.frozen? (br U a) then (Result.halt (.unsupported (.unsafePointer "a write to bytes that a string shares")) w', es') else Sem.runT P (.pure ()) (w'.setCell (br U a) (pV U v)) (es'.push ⟨.cell (br U a), true, m == .atomic⟩)
   |none=>match w'.farStore P (br U a) (pV U v) (m == .atomic) with
    |.ok (w,b)=>Sem.runT P (.pure ()) w (es'++b.toArray.map (⟨.cell ·,true,m == .atomic⟩))
    |.error h=>(.halt h w',es')):=by
  intro _ _;cases hc:w.cell? a with
  |some u=>
   rw[g.H hc];dsimp only;obtain⟨c,t,fz,n⟩:∃c t fz,w.heap[a.block]?=some (.cells c t fz):=by
    unfold World.cell? at hc;split at hc;exact⟨_,_,_,‹_›⟩;cases hc
   have d:=g.h n (λ_ _=>by simp);rw[Gs g d (by rw[n];rfl)];split;trivial;intro _;refine .inr ⟨_,_,rfl,A.e _ (.inl (by simp[ux,d])),ll.I g n d ?_⟩;simp only[ei];by_cases f:a.spot.isSome=true;rw[az (show (br U a).spot.isSome=true from f),az f];rw[ax (show ¬(br U a).spot.isSome=true from f),ax f,<-za];rfl
  |none=>

   by_cases i:∃u t,w.heap[a.block]?=some (.view u t);let ⟨u,t,i⟩:=i
   have d:=g.h i (λ_ _=>by simp);have q:w'.heap[(br U a).block]?=some (.view (br U u) t):=g.e _ _ d i;rw[Cy g i (λ_ _ _=>by simp) d]

   unfold World.farStore;rw[i,q];dsimp only;cases hl:w.viewStore P u t a v (m == .atomic) with
   |error x=>exact aE
   |ok x=>
    let ⟨w1,l⟩:=x
    obtain⟨r,B,y,C⟩:=GV g hl;rw[B];intro _;refine .inr ⟨r,_,rfl,?_,y⟩;have:=A.I (l.map λa=>(⟨.cell a,true,m == .atomic⟩:Event)) (λe d=>by obtain⟨a,y,rfl⟩:=dY.1 d;simp[ux,C a y]);simpa[ua,mX,FV] using this
   have z:∃x,w.farStore P a v (m == .atomic)=.error x/\((∃u,x=.unsupported u)\/∃s,x=.stuck s):=by
    unfold World.farStore World.noCell;cases n:w.heap[a.block]? with
    |none=>exact⟨_,rfl,.inr ⟨_,rfl⟩⟩
    |some o=>cases o<;>first|exact⟨_,rfl,.inr ⟨_,rfl⟩⟩|exact⟨_,rfl,.inl ⟨_,rfl⟩⟩|exact absurd ⟨_,_,n⟩ i
   let ⟨x,d,z⟩:=z
   rw[d];rcases z with⟨u,rfl⟩|⟨s,rfl⟩<;>trivial
 cases v<;>first|exact aE|exact j (λ_=>by simp) (λ_=>by simp)
def bZ.ab(e:ei U o=o'):bZ P U U.f (Go.newObj o) (Go.newObj o'):=by
 subst e;intro w w' es es' d m n;have k:U.f w.heap.size=w'.heap.size:=by
  have:=n.e w.heap.size (aa _) (by simp);simpa using this
 have z:U.X w.heap.size=false:=by
  cases g:U.X w.heap.size with
  |false=>rfl
  |true=>
   let ⟨c,t,a,_⟩:=d.x _ g
   exact absurd (gT a) (um _)
 refine .inr ⟨{w' with heap:=w'.heap.push (ei U o)},es',by rw[k];rfl,m,⟨⟨λb o1 g a=>?_,λb g=>?_,λb l=>?_,d.p,d.j⟩,by simp,by simp,λA l B=>?_,rfl,rfl,rfl,rfl,aa _⟩⟩;simp only[jK]at a⊢;by_cases q:b=w.heap.size;subst q;rw[az rfl]at a;obtain rfl:=aZ a;rw[az k];rw[ax q]at a;have r:=gT a;have h:=d.e _ _ g a;rw[ax (ru (gT h))];exact h;let ⟨c,t,a,h,u,v,y,i⟩:=d.x b g
 refine⟨c,t,?_,h,u,v,y,?_⟩;simp only[jK,ax (ru (gT a)),a];simp only[jK,ax (ru (by rcases i with⟨_,i⟩|i<;>exact gT i))];exact i;simp at l⊢;have a:=d.s b (by omega);have h:U.f b≠w'.heap.size:=λq=>by
  have:=U.Gc (q.trans k.symm);omega
 omega;simp only[jK];rw[ax (ru l)]
def zU(a:ur U w w')(h:w.heap[r]?=none):w'.heap[U.f r]?=none:=by
 have b:=a.s r (by
  rcases cz r w.heap.size with k|k
  rw[bj k]at h;cases h;exact k)
 exact dx b
def GM(a:ur U w w')(b:U.X r=false):w'.shape? (U.f r)=w.shape? r:=by
 unfold World.shape?
 cases h:w.heap[r]? with
 |none=>rw[zU a h]
 |some o=>
  rw[a.e _ _ b h];cases o<;>first|rfl|(simp only[ei,pc])
def bZ.af{pb:β->β}{k k':Option (Bi×Nat)->Sem β}(e:U.f r=r')(j:U.X r=false->∀s,bZ P U pb (k s) (k' s))(l:U.X r=true->∀w w' es es',ur U w w'->zu U es es'->(∃c t a b,w.heap[r]?=some (.pending c t)/\c.size≠0/\a.size=c.size/\((U.pn=true/\w'.heap[U.f r]?=some (.pending a b)/\w'.shape? (U.f r)=none)\/(w'.heap[U.f r]?=some (.cells a b (0,0))/\w'.shape? (U.f r)=some (b,a.size)))) ->
   zw U pb w w' ((k none).runT P w es) ((k' (w'.shape? (U.f r))).runT P w' es')):bZ P U pb (Go.shape r >>= k) (Go.shape r' >>= k'):=by
 subst e;intro w w' es es' g h;show zw U pb w w' ((k (w.shape? r)).runT P w es) ((k' (w'.shape? (U.f r))).runT P w' es');cases hx:U.X r with
 |false=>
  rw[GM g hx];exact j hx _ w w' es es' g h
 |true=>
  obtain⟨c,t,i,hc,a,b,m,d⟩:=g.x r hx;have n:w.shape? r=none:=by unfold World.shape?;rw[i]
  rw[n];refine l hx w w' es es' g h ⟨c,t,a,b,i,hc,m,?_⟩;unfold World.shape?
  rcases d with⟨o,d⟩|d
  left;rw[d];exact⟨o,rfl,rfl⟩;right;rw[d];exact⟨rfl,rfl⟩
def bZ.a2(b:U.X r=false)(e:U.f r=r'):bZ P U id (Go.shape r) (Go.shape r'):=by
 subst e;intro w w' es es' a c _;refine .inr ⟨w',es',?_,c,ll.e a⟩;show (Result.ok (w'.shape? (U.f r)) w',_)=_;rw[GM a b];rfl
def Od(d:ur U w w')(a:Addr):w'.frozen? (br U a)=w.frozen? a:=by
 cases hx:U.X a.block with
 |true=>
  obtain⟨c,t,e,_,f,g,_,b⟩:=d.x _ hx;unfold World.frozen?
  rw[e];rcases b with⟨_,b⟩|b
  rw[show w'.heap[(br U a).block]?=_ from b];rw[show w'.heap[(br U a).block]?=_ from b];simp
 |false=>
  cases h:w.heap[a.block]? with
  |none=>
   unfold World.frozen?
   rw[h,show w'.heap[(br U a).block]?=_ from zU d h]
  |some o=>exact Gs d hx (by rw[h];rfl)
def bZ.an(e:br U a=a'):bZ P U id (Go.frozen a) (Go.frozen a'):=by
 subst e;intro w w' es es' b c _;refine .inr ⟨w',es',?_,c,ll.e b⟩;show (Result.ok (w'.frozen? (br U a)) w',_)=_;rw[Od b];rfl
def ll.O(b:ur U w w')(c:U.X a.block=false):ll U w w' (w.freeze a n) (w'.freeze (br U a) n):=by
 unfold World.freeze;split;exact ll.e b;cases h:w.heap[a.block]? with
 |none=>
  have d:∀f,w.heap.modify a.block f=w.heap:=λf=>by
   apply ib;intro j;rw[bU];split;rename_i q;rw[<-q,h];rfl;rfl
  have g:∀f,w'.heap.modify (br U a).block f=w'.heap:=λf=>by
   apply ib;intro j;rw[bU];split;rename_i q;rw[<-q,show w'.heap[(br U a).block]?=_ from zU b h];rfl;rfl
  rw[d,g];exact ll.e b
 |some o=>
  apply ll.I b h c;cases o<;>rfl
def bZ.aq(b:U.X a.block=false)(e:br U a=a'):bZ P U id (Go.freeze a n) (Go.freeze a' n):=by
 subst e;exactλw w' es es' c d _=>.inr ⟨w'.freeze (br U a) n,es',rfl,d,ll.O c b⟩
def Gx(o:Obj):(ei U o).isChan=o.isChan:=by cases o<;>rfl
def Ag(h:∀c t fz,o≠.cells c t fz):∀c t fz,ei U o≠.cells c t fz:=by
 cases o<;>first|(intro _ _ _;simp[ei];done)|exact absurd rfl (h _ _ _)
def iM(k:Obj->Sem α)(w:A1)(es:Array Event)(h:w.heap[r]?=some o)(a:∀c t fz,o≠.cells c t fz):(Go.getObj r >>= k).runT P w es=(k o).runT P w (es.push ⟨.obj r,false,o.isChan⟩):=by
 show ((Sem.getObj r .pure).bind k).runT P w es=_;simp only[Sem.bind,Sem.runT,h]
def ya(o:Obj)(w:A1)(es:Array Event)(h:w.heap[r]?=some o1)(a:∀c t fz,o1≠.cells c t fz):(Sem.setObj r o (.pure ())).runT P w es=(.ok () {w with heap:=w.heap.setIfInBounds r o},es.push ⟨.obj r,true,o.isChan⟩):=by
 simp only[Sem.runT,h]
def bZ.aU(h:∀w es,ry (s.runT P w es)):bZ P U pa s s':=by
 intro w w' es es' e f;have b:=h w es;generalize s.runT P w es=x at b;obtain⟨r,c⟩:=x;cases r with
 |ok a w1=>exact b.elim
 |halt d w1=>cases d<;>first|trivial|exact b.elim
def zw.h{y:Result α×Array Event}(b:ry x):zw U pa w w' x y:=by
 let ⟨r,c⟩:=x
 cases r with
 |ok a w1=>exact b.elim
 |halt d w1=>cases d<;>first|trivial|exact b.elim
def bZ.al{pb:β->β}{k:Obj->Sem β}(a:U.X r=false)(e:U.f r=r')(g:∀o,bZ P U pb (k o) (k' (ei U o))):
  bZ P U pb (Go.getObj r >>= k) (Go.getObj r' >>= k'):=by
 subst e;intro w w' es es' b h;cases ho:w.heap[r]? with
 |none=>
  have : (Go.getObj r >>= k).runT P w es = (.halt (.stuck "getObj: no such block") w, es) := by
   show ((Sem.getObj r .pure).bind k).runT P w es=_;simp only[Sem.bind,Sem.runT,ho]
  rw[this];trivial
 |some o=>
  by_cases hc:∃c t fz,o=.cells c t fz
  ·obtain⟨c,t,fz,rfl⟩:=hc;have : (Go.getObj r >>= k).runT P w es = (.halt (.stuck "getObj: a row of cells") w, es) := by
    show ((Sem.getObj r .pure).bind k).runT P w es=_;simp only[Sem.bind,Sem.runT,ho]
   rw[this];trivial
  have d:∀c t fz,o≠.cells c t fz:=λc t fz q=>hc ⟨c,t,fz,q⟩;rw[iM k w es ho d,iM k' w' _ (b.e _ _ a ho) (Ag d)];have:=g o w w' _ _ b (h.e ⟨.obj r,false,o.isChan⟩ (.inl (by simp[ux,a])));rw[Gx];exact this
def bZ.Z{pb:β->β}{k:Obj->Sem β}(e:U.f r=r')(b:∀o,U.X r=false->bZ P U pb (k o) (k' (ei U o)))(d:∀c t w es,ry ((k (.pending c t)).runT P w es)):
  bZ P U pb (Go.getObj r >>= k) (Go.getObj r' >>= k'):=by
 subst e;intro w w' es es' a g;cases hx:U.X r with
 |true=>
  obtain⟨c,t,i,_⟩:=a.x _ hx;rw[iM k w es i (λ_ _ _=>by simp)];exact zw.h (d _ _ _ _)
 |false=>exact bZ.al hx rfl (λo=>b o hx) w w' es es' a g
def bZ.ac(a:U.X r=false)(e:U.f r=r')(k:ei U o=o'):bZ P U id (Go.setObj r o) (Go.setObj r' o'):=by
 subst e k;intro w w' es es' b g;show zw U id w w' (Sem.runT P (.setObj r o (.pure ())) w es) (Sem.runT P (.setObj (U.f r) (ei U o) (.pure ())) w' es');cases ho:w.heap[r]? with
 |none=>
  have : (Sem.setObj r o (.pure ())).runT P w es = (.halt (.stuck "setObj: no such block") w, es) := by simp only [Sem.runT, ho]
  rw[this];trivial
 |some o1=>
  by_cases hc:∃c t fz,o1=.cells c t fz
  ·obtain⟨c,t,fz,rfl⟩:=hc;have : (Sem.setObj r o (.pure ())).runT P w es = (.halt (.stuck "setObj: a row of cells") w, es) := by simp only [Sem.runT, ho]
   rw[this];trivial
  have d:∀c t fz,o1≠.cells c t fz:=λc t fz q=>hc ⟨c,t,fz,q⟩;rw[ya o w es ho d,ya _ w' _ (b.e _ _ a ho) (Ag d)];intro _;refine .inr ⟨_,_,rfl,?_,ll.V b ho a rfl⟩;rw[Gx];exact g.e ⟨.obj r,true,o.isChan⟩ (.inl (by simp[ux,a]))
def bZ.V{q:Question}:bZ P U id (Go.choose q) (Go.choose q):=by
 intro w w' es es' a b;show zw U id w w' (Sem.runT P (.choose q .pure) w es) (Sem.runT P (.choose q .pure) w' es');simp only[Sem.runT];split;intro _;exact .inr ⟨w',es',rfl,b,ll.e a⟩;intro c;have h0:=a.p 0 q c.h;simp at h0;refine .inr ⟨{w' with drawn:=w'.drawn+1},es',by rw[h0];rfl,b,⟨⟨a.e,a.x,a.s,λi q d=>?_,a.j⟩,aa _,by simp,λ_ _ _=>rfl,rfl,rfl,rfl,by show w'.drawn+1+w.drawn=w'.drawn+(w.drawn+1);omega,du _⟩⟩;have:=a.p (1+i) q (by rw[<-iZ];exact d);simpa only [iZ] using this
def bZ.I{pb:β->β}{f f':Bo->Sem β}(k:bZ P U pb (f P) (f' P)):bZ P U pb (Go.program >>= f) (Go.program >>= f'):=k
def bZ.aw{m m':Mark}(e:vR U m=m'):bZ P U id (Go.mark m) (Go.mark m'):=by
 subst e;exactλw w' es es' a b _=>.inr ⟨w',_,rfl,b.e ⟨.mark m,false,true⟩,ll.e a⟩
end Go.Eqv
