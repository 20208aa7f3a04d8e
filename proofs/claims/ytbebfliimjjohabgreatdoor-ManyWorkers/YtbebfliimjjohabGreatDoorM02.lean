/- Parts of the proof. -/
import Derived.Test.YtbebfliimjjohabGreatDoorM01
set_option maxRecDepth 100000
set_option maxHeartbeats 8000000
set_option linter.all false
namespace Go.Eqv
variable{es:Array Event}{U:Pm}{P:Ft}{α β:Type}{d:TypeDesc}{t:DU}{w:Ba}{pa:α->α}{s:Sem α}{f:α->Sem β}{f':α->β->Sem (ForInStep β)}
structure fD(P:Program)(U:Pm):Prop where
 p:∀t i z,P.info? t=some i->i.zero=some z->pV U z=z
 e:U.f P.globals.size=P.globals.size
 h:U.wk=false->∀b,b<P.globals.size->U.f b<P.globals.size
 s:∀b,U.f b<P.globals.size->b<P.globals.size
 o : ∀ t i u, P.info? t = some i → i.desc ≠ .named "sync.copyChecker" u
 j:∀t i m f r,P.info? t=some i->m∈i.methods->m.func=some (f,r)->U.wS m.name=true->U.yy f=true
variable(C:fD P U)
def bU.a8{s':Sem α}(b:U.wk=true)(h:∀w es,qs (s'.runT P w es)):bU P U pa s s':=by
 intro w e es c i j;have d:=h e c;generalize s.runT P w es=x;obtain⟨r,f⟩:=x;cases r with
 |ok a w1=>exactλ_=>.inl ⟨b,d⟩
 |halt g w1=>
  cases g with
  |panic v=>exactλ_=>.inl ⟨b,d⟩
  |unsupported u=>trivial
  |stuck m=>trivial
  |_=>exactλ_=>⟨b,d⟩
def fR(t:DU):bU P U id (typeInfo t) (typeInfo t):=by
 unfold typeInfo;apply bU.I;split;exact bU.h rfl;exact bU.j
def br(t:DU):bU P U id (underlying t) (underlying t):=by
 unfold underlying;apply bU.I;split;exact bU.h rfl;exact bU.j
def fh(t:DU):bU P U id (Go.sizeOf t) (Go.sizeOf t):=by
 unfold Go.sizeOf;exact bU.e (fR t) λi=>bU.h rfl
def KH(t:DU):bU P U id (isAgg t) (isAgg t):=by
 unfold isAgg;refine bU.e (br t) λd=>?_;simp;split<;>exact bU.h rfl
include C in
def gH(t:DU):bU P U (pV U) (zeroValue t) (zeroValue t):=by
 unfold zeroValue typeInfo;show bU P U (pV U) ((do match P.info? t with | some i => pure i | none => stuck "no such type") >>= _) ((do match P.info? t with | some i => pure i | none => stuck "no such type") >>= _);cases h:P.info? t with
 |none=>exact(λ_ _ _ _ _ _=>aB)
 |some i=>
  show bU P U (pV U) (match i.zero with|some v=>pure v|none=>_) (match i.zero with|some v=>pure v|none=>_);cases hz:i.zero with
  |none=>exact bU.H
  |some z=>exact bU.h (C.p _ _ _ h hz)
def sI(a:Addr)(n:Nat):bh U (a.add n)=(bh U a).add n:=by
 unfold Addr.add;split<;>rfl
def qc(a:Addr):∀(n i:Nat) (b:Array Dv),bU P U (dx U) (loadCellsFrom a i n b) (loadCellsFrom (bh U a) i n (dx U b))
 |0,i,b=>bU.h rfl
 |n+1,i,b=>by
  unfold loadCellsFrom;refine bU.e (bU.ao (sI a i)) λv=>?_;have:=qc a n (i+1) (b.push v);rwa [show dx U (b.push v)=(dx U b).push (pV U v) by simp[dF]]at this
def qS(a:Addr)(n:Nat):bU P U (dx U) (loadCells a n) (loadCells (bh U a) n):=qc a n 0 #[]
def js(a:Addr):∀(b:List Dv) (i:Nat),bU P U id (storeCells a b i) (storeCells (bh U a) (qe U b) i)
 | [],i=>bU.h rfl
 |v::r,i=>by
  unfold storeCells;exact bU.e (bU.a9 (sI a i) rfl) λ_=>js a r (i+1)
def jr(t:DU)(a:Addr):bU P U (pV U) (loadVar t a) (loadVar t (bh U a)):=by
 unfold loadVar;refine bU.e (KH t) λb=>?_;simp;split;exact bU.e (fh t) λn=>bU.e (qS a _) λc=>bU.h rfl;exact bU.ao rfl
def kw(v:Dv):(pV U v).cells=dx U v.cells:=by
 cases v<;>rfl
def py(t:DU)(a:Addr)(v:Dv):bU P U id (storeVar t a v) (storeVar t (bh U a) (pV U v)):=by
 unfold storeVar;refine bU.e (fh t) λn=>?_;have b:(pV U v).cells.size=v.cells.size:=by rw[kw,dF,eh]
 have hc:(pV U v).cells.toList=qe U v.cells.toList:=by rw[kw];cases v.cells;rfl
 simp only[id,b,hc];split;exact bU.e (pa:=id) bU.j λ_=>js a _ 0;exact js a _ 0
def ox(t:DU)(c:Array Dv):bU P U (bh U) (newRow t c) (newRow t (dx U c)):=by
 unfold newRow;exact bU.e (bU.ab rfl) λr=>bU.h rfl
def qT(t:DU)(v:Dv):bU P U (bh U) (newVar t v) (newVar t (pV U v)):=by
 unfold newVar;rw[kw];exact ox t _
def BU(t:DU){v a:Dv}(h:pV U v=a):bU P U (bh U) (newVar t v) (newVar t a):=by
 subst h;exact qT t v
def rN(v:Dv):bU P U id (asIntOf v) (asIntOf (pV U v)):=by
 cases v with
 |int k n=>exact bU.h rfl
 |pointer a=>cases a<;>first|exact bU.H|exact bU.j
 |_=>exact bU.j
def rO(v:Dv):bU P U id (asInt v) (asInt (pV U v)):=by
 unfold asInt;exact bU.e (rN v) λ_=>bU.h rfl
def EK(v:Dv):bU P U id (asBool v) (asBool (pV U v)):=by
 cases v<;>first|exact bU.h rfl|exact bU.j
def Uo(v:Dv):bU P U (dx U) (asAgg v) (asAgg (pV U v)):=by
 cases v<;>first|exact bU.h rfl|exact bU.j
def qN(t:DU):bU P U id (elemOf t) (elemOf t):=by
 unfold elemOf;refine bU.e (br t) λd=>?_;simp;split<;>first|exact bU.h rfl|exact bU.j
include C in
def qR(t:DU):pV U (typeHandle P t)=typeHandle P t:=by
 simp[typeHandle,pV,bh,C.e]
include C in
def bW{α:Type}{pa:α->α}(e:RuntimeError):bU P U pa (runtimePanic e) (runtimePanic e):=by
 unfold runtimePanic;apply bU.I;cases e with
 |typeAssertion i c a m=>
  refine bU.e (qN _) λt=>bU.e (pa:=bh U) ?_ λr=>bU.af rfl;have e:∀x y z u:Dv,pV U x=x->pV U y=y->pV U z=z->pV U u=u->pV U (.agg #[x,y,z,u])=.agg #[x,y,z,u]:=λx y z u b d f g=>by
   show Value.agg ⟨[pV U x,pV U y,pV U z,pV U u]⟩=_;rw[b,d,f,g]
  cases i<;>cases c<;>exact BU t (e _ _ _ _ (by first|rfl|exact qR C _) (by first|rfl|exact qR C _) (qR C _) rfl)
 |panicNil=>exact bU.e (qN _) λt=>bU.e (qT t (.agg #[])) λr=>bU.af rfl
 |unhashable t=>exact bU.af (by simp[pV,dx,qe,qR C])
 |_=>exact bU.af rfl
include C in
def iY{α:Type}{pa:α->α}(k:IntKind)(x y:Int)(c:BoundsCode):bU P U pa (boundsPanic k x y c) (boundsPanic k x y c):=by
 unfold boundsPanic

 split;exact bU.e (pa:=id) (bU.e (pa:=id) bU.V λn=>bU.h rfl) λs=>bW C _;exact bU.e (pa:=id) (bU.h rfl) λs=>bW C _
include C in
def qL(v:Dv):bU P U (bh U) (asAddr v) (asAddr (pV U v)):=by
 cases v with
 |pointer a=>cases a with
  |none=>exact(bW C (pa:=bh U) .nilDeref :)
  |some a=>exact bU.h rfl
 |_=>exact bU.j
def kC(t:DU)(cs:Array Dv)(a:Nat):bU P U (pV U) (part t cs a) (part t (dx U cs) a):=by
 unfold part;refine bU.e (KH t) λb=>?_;simp;split;refine bU.e (fh t) λn=>bU.h ?_;simp[pV,dF];rw[dF,b9];cases cs[a]? with
 |none=>exact bU.j
 |some v=>exact bU.h rfl
def mU(v:Dv):bU P U (bh U) (Instr.sureAddr v) (Instr.sureAddr (pV U v)):=by
 cases v with
 |pointer a=>cases a<;>first|exact bU.j|exact bU.h rfl
 |_=>exact bU.j
def Qi(t:DU)(a:Dv):bU P U (pV U) (Instr.loadAt t a) (Instr.loadAt t (pV U a)):=by
 unfold Instr.loadAt;exact bU.e (mU a) λx=>jr t x
def MY(t:DU)(a v:Dv):bU P U id (Instr.storeAt t a v) (Instr.storeAt t (pV U a) (pV U v)):=by
 unfold Instr.storeAt;exact bU.e (mU a) λx=>py t x v
include C in
def Mp(t:DU)(x i:Dv):bU P U (pV U) (Instr.indexAt t x i) (Instr.indexAt t (pV U x) (pV U i)):=by
 unfold Instr.indexAt;refine bU.e (rN i) λl=>?_;obtain⟨k,i⟩:=l;refine bU.e (br t) λd=>?_;extract_lets j;have g:∀b:Option Addr×Nat×DU,bU P U (pV U) (j b) (j (b.1.map (bh U),b.2)):=by
  rintro⟨c,m,f⟩;refine bU.e (br t) λd=>?_;cases c with
  |none=>exact iY C _ _ _ _
  |some a=>
   simp;split;exact bU.e (fh f) λn=>bU.h (by simp[pV,sI]);split<;>split<;>first|exact bU.H|exact iY C _ _ _ _
 simp;cases d<;>cases x<;>first|exact(λ_ _ _ _ _ _=>aB)|exact g _|exact g (_,_,_)|exact bU.e (mU _) λx=>g (some x,_,_)
include C in
def fX(x:Dv)(y:Nat)(c:BoundsCode):bU P U id (Instr.sliceBound x y c) (Instr.sliceBound (pV U x) y c):=by
 unfold Instr.sliceBound;refine bU.e (rN x) λa=>?_;let ⟨k,i⟩:=a
 simp;split;exact bU.h rfl;exact iY C _ _ _ _
include C in
def lz(s:Bool)(d f:Nat)(b a c:Option Dv):bU P U id (Instr.sliceBounds s d f b a c) (Instr.sliceBounds s d f (b.map (pV U)) (a.map (pV U)) (c.map (pV U))):=by
 unfold Instr.sliceBounds;cases c<;>cases a<;>cases b<;>simp;all_goals first
  |exact bU.e (pa:=id) (bU.h rfl) λm=>bU.e (pa:=id) (bU.h rfl) λh=>bU.e (pa:=id) (bU.h rfl) λl=>bU.h rfl
  |exact bU.e (pa:=id) (bU.h rfl) λm=>bU.e (pa:=id) (bU.h rfl) λh=>bU.e (pa:=id) (fX C _ _ _) λl=>bU.h rfl
  |exact bU.e (pa:=id) (bU.h rfl) λm=>bU.e (pa:=id) (fX C _ _ _) λh=>bU.e (pa:=id) (bU.h rfl) λl=>bU.h rfl
  |exact bU.e (pa:=id) (bU.h rfl) λm=>bU.e (pa:=id) (fX C _ _ _) λh=>bU.e (pa:=id) (fX C _ _ _) λl=>bU.h rfl
  |exact bU.e (pa:=id) (fX C _ _ _) λm=>bU.e (pa:=id) (fX C _ _ _) λh=>bU.e (pa:=id) (bU.h rfl) λl=>bU.h rfl
  |exact bU.e (pa:=id) (fX C _ _ _) λm=>bU.e (pa:=id) (fX C _ _ _) λh=>bU.e (pa:=id) (fX C _ _ _) λl=>bU.h rfl
  |exact bU.e (pa:=id) (fX C _ _ _) λm=>(λ_ _ _ _ _ _=>aB)
def ji{w':Ba}{b:Array Event}(c:tu U w w')(d:yx U es b){a a':α}(h:pa a=a'):AY U pa w w' (.ok a w,es) (.ok a' w',b):=by
 subst h;exactλ_=>.inr ⟨w',b,rfl,d,ko.e c⟩
def ZB(r:Nat):bU P U (λx=>x.map λy=>(bh U y.1,y.2)) (viewAt r) (viewAt (U.f r))/\bU P U (λx=>x.map λy=>(bh U y.1,y.2)) (numberAt r) (numberAt (U.f r)):=by
 constructor;all_goals
  first|unfold viewAt|unfold numberAt
  refine bU.ag rfl (λg s=>?_) λg w b es a k l ⟨c,t,n,p,m,_,_,d⟩=>?_;cases s with
  |some x=>exact bU.h rfl
  |none=>
   refine bU.an g rfl λo=>?_;cases o<;>exact bU.h rfl
  show AY U _ w b ((Go.getObj r >>= λo=>_).runT P w es) _;rw[jk _ w es m (λ_ _ _=>aY)];rcases d with⟨i,d,j⟩|⟨d,j⟩
  rw[j];show AY U _ w b _ ((Go.getObj (U.f r) >>= λo=>_).runT P b a);rw[jk _ b a d (λ_ _ _=>aY)];exact ji k (l.e ⟨.obj r,false,false⟩ (.inr i)) rfl;rw[j];exact ji k (l.H g false false) rfl
def L4(r:Nat):bU P U id (cellsIn r) (cellsIn (U.f r)):=by
 unfold cellsIn;refine bU.ag rfl (λg s=>?_) λg w b es a k l ⟨c,t,p,q,n,_,m,d⟩=>?_;cases s with
 |some x=>exact bU.h rfl
 |none=>
  refine bU.an g rfl λo=>?_;cases o<;>first|exact bU.h rfl|(simp only[dR,nO];exact bU.h rfl)
 show AY U _ w b ((Go.getObj r >>= λo=>_).runT P w es) _;rw[jk _ w es n (λ_ _ _=>aY)];rcases d with⟨i,d,j⟩|⟨d,j⟩
 rw[j];show AY U _ w b _ ((Go.getObj (U.f r) >>= λo=>_).runT P b a);rw[jk _ b a d (λ_ _ _=>aY)];apply ji k (l.e ⟨.obj r,false,false⟩ (.inr i));simp only[id,m];rw[j];apply ji k (l.H g false false);simp only[id,m]
def zb(a:Addr):bU P U id (noView a) (noView (bh U a)):=by
 unfold noView;refine bU.e (ZB a.block).1 λx=>?_;cases x with
 |none=>exact bU.h rfl
 |some x=>exact bU.H
def fF(a:Addr):bU P U (λy=>(bh U y.1,y.2)) (behindNumber a) (behindNumber (bh U a)):=by
 unfold behindNumber;refine bU.e (ZB a.block).2 λx=>bU.h ?_;cases x<;>rfl
def xi(a:Addr):bU P U id (stringish a) (stringish (bh U a)):=by
 unfold stringish;refine bU.e (bU.al rfl) λb=>?_;cases b with
 |true=>exact bU.h rfl
 |false=>
  refine bU.ag rfl (λk s=>?_) λk w g es l i j ⟨c,t,m,o,p,_,q,d⟩=>?_;cases s with
  |none=>exact bU.h rfl
  |some x=>exact bU.al rfl
  rcases d with⟨n,d,f⟩|⟨d,f⟩
  rw[f];exact ji i j rfl;rw[f];apply ji (a':=g.frozen? {block:=(bh U a).block,off:=m.size}) i j;unfold World.frozen?
  rw[show g.heap[(bh U a).block]?=_ from d];simp
def Qr(a:Addr):bU P U id (do pure ((<-shape a.block) matches some (_,0)):Sem Bool) (do pure ((<-shape (bh U a).block) matches some (_,0)):Sem Bool):=by
 refine bU.ag rfl (λg s=>bU.h rfl) λg w k es i e f ⟨c,t,l,m,n,o,p,b⟩=>?_;rcases b with⟨j,b,d⟩|⟨b,d⟩
 rw[d];exact ji e f rfl;rw[d];apply ji e f;dsimp only[id];split;rename_i q;simp only[ba,Ue]at q;omega;rfl
def C9(a b:Addr):((bh U a).block==(bh U b).block)=(a.block==b.block):=by
 show (U.f a.block==U.f b.block)=_;rw[lE,jD,jD,U.e]
def C6(a b:Addr):(bh U a==bh U b)=(a==b):=by
 rw[lE,jD,jD];refine⟨λh=>?_,λh=>by rw[h]⟩;let ⟨b1,c,d⟩:=a
 let ⟨b2,e,f⟩:=b
 simp only[bh,jY]at h;rw[U.EH h.1,h.2.1,h.2.2]
def Il(a b:Addr):bU P U id (mayBeOne a b) (mayBeOne (bh U a) (bh U b)):=by
 unfold mayBeOne;refine bU.e (xi a) λc=>bU.e (xi b) λd=>?_;exact bU.e (Qr a) λx=>bU.e (Qr b) λy=>bU.h rfl
def zz(a b:Addr):bU P U id (sameAddr a b) (sameAddr (bh U a) (bh U b)):=by
 unfold sameAddr;simp only[C9,C6];split;exact bU.h rfl;refine bU.e (bU.al rfl) λx=>bU.e (bU.al rfl) λy=>?_;simp;split;exact(λ_ _ _ _ _ _=>aB);refine bU.e (zb a) λ_=>bU.e (zb b) λ_=>bU.e (Il a b) λm=>?_;cases m with
 |true=>exact bU.e bU.V λn=>bU.h rfl
 |false=>exact bU.h rfl
def A8(a b:Option Addr):bU P U id (samePointer a b) (samePointer (a.map (bh U)) (b.map (bh U))):=by
 cases a<;>cases b<;>first|exact bU.h rfl|exact zz _ _
def KR{β:Type}(pb:β->β):ForInStep β->ForInStep β
 |.done b=>.done (pb b)
 |.yield b=>.yield (pb b)
def yQ{pb:β->β}{f:α->β->Sem (ForInStep β)}(h:∀x b,bU P U (KR pb) (f x b) (f' x (pb b))):∀(l:List α) (b:β),bU P U pb (forIn l b f) (forIn l (pb b) f')
 | [],b=>bU.h rfl
 |x::l,b=>by
  rw[oR,oR];refine bU.e (h x b) λs=>?_;cases s with
  |done b=>exact bU.h rfl
  |yield b=>exact yQ h l b
def yP{pb:β->β}{f:α->β->Sem (ForInStep β)}(h:∀x b,bU P U (KR pb) (f x b) (f' x (pb b)))(l:Array α)(b:β):bU P U pb (forIn l b f) (forIn l (pb b) f'):=by
 rw[<-lP,<-lP];exact yQ h _ _
def yR{pb:β->β}{f f':Nat->β->Sem (ForInStep β)}(h:∀x b,bU P U (KR pb) (f x b) (f' x (pb b)))(r:Std.Legacy.Range)(b:β):bU P U pb (forIn r b f) (forIn r (pb b) f'):=by
 rw[yu,yu];exact yQ h _ _
def wi(t:DU):bU P U id (typeStr t) (typeStr t):=by
 unfold typeStr;refine bU.e (fR t) λi=>?_;simp;split;exact bU.H;exact bU.h rfl
def mM(a:Addr):bU P U id (byteOf a) (byteOf (bh U a)):=by
 unfold byteOf;let ⟨b,o,c⟩:=a
 cases c with
 |some s=>exact bU.h rfl
 |none=>
  apply bU.I;refine bU.e (zb _) λ_=>bU.ag rfl (λd s=>?_) λd w g es f i k _=>aB;cases s with
  |none=>exact bU.j
  |some x=>
   let ⟨e,m⟩:=x
   simp only[id,bh];split;exact bU.h rfl;generalize byteOfCell P P.depth e (o%P.cellsOf e)=r;cases r with
   |none=>exact bU.j
   |some b=>exact bU.h rfl
def zh(a b:Option Nat):(a.map U.f==b.map U.f)=(a==b):=by
 cases a<;>cases b<;>first|rfl|skip
 rename_i x y;show (U.f x==U.f y)=(x==y);rw[lE,jD,jD,U.e]
include C in
def BD:∀(n:Nat) (t:DU) (x y:Dv),bU P U id (Op.equalIn n t x y) (Op.equalIn n t (pV U x) (pV U y))
 |0,t,x,y=>bU.H
 |n+1,t,x,y=>by
  have z:=BD n;unfold Op.equalIn;refine bU.e (br t) λd=>?_;simp only[id];cases d with
  |int k=>
   cases x with
   |pointer a=>cases a with
    |some a=>cases y with
     |pointer b=>cases b with
      |some b=>
       refine bU.e (fF a) λg=>bU.e (fF b) λb1=>bU.I ?_;simp only[C9,C6];by_cases p:g.1.block<P.globals.size/\¬(bh U g.1).block<P.globals.size
       .have A:U.wk=true:=by
         cases A:U.wk with
         |true=>rfl
         |false=>exact absurd (C.h A _ p.1) p.2
        refine bU.a8 A fun w es=>?_;rw[ay (by simp[p.2])];show qs (((match P.info? t with | some i => pure i | none => stuck "no such type" : Sem TypeInfo).bind _).runT P w es);cases hi:P.info? t with
        |none=>trivial
        |some i=>
         have:=C.o t i;show qs ((match i.desc with | .named "sync.copyChecker" _ => _ | _ => _ : Sem Bool).runT P w es);split;rename_i q;exact absurd q (this _ hi);trivial
       have e:decide ((bh U g.1).block<P.globals.size)=decide (g.1.block<P.globals.size):=by
        rw[decide_eq_decide];refine⟨C.s _,λh=>?_⟩;exact cK λq=>p ⟨h,q⟩
       rw[e];split;exact bU.e (mM _) λu=>bU.e (mM _) λv=>bU.h rfl;refine bU.e (fR t) λi=>?_;simp only[id];split;split;exact bU.h rfl;exact bU.H;exact bU.H
      |none=>exact bU.H
     |int k m=>rcases m with (_|m)|m<;>first|exact bU.h rfl|exact bU.H
     |_=>exact bU.H
    |none=>cases y<;>exact bU.H
   |int k m=>cases y with
    |int K L=>
     simp only[pV];split;exact bU.h rfl;exact bU.j
    |pointer a=>cases a<;>rcases m with (_|m)|m<;>first|exact bU.h rfl|exact bU.H
    |_=>exact bU.j
   |_=>cases y<;>first|exact bU.j|exact bU.H
  |pointer e=>cases x with
   |pointer a=>cases y with
    |pointer b=>
     cases a<;>cases b<;>try exact bU.h rfl
     refine bU.e (fh e) λm=>?_;simp only[id,C6];split;exact zz _ _;split;exact bU.h rfl;exact bU.e bU.V λq=>bU.h rfl
    |_=>cases a<;>exact bU.j
   |_=>cases y<;>first|exact bU.j|(rename_i b;cases b<;>exact Eqv.stuck)
  |unsafePointer=>cases x<;>cases y<;>first|exact bU.j|exact A8 _ _
  |chan q e=>cases x<;>cases y<;>first|exact bU.j|(simp only[pV,zh];exact bU.h rfl)
  |float k=>cases x<;>cases y<;>first|exact bU.j|(simp only[pV];split<;>first|exact bU.h rfl|exact bU.j)
  |complex k=>cases x<;>cases y<;>first|exact bU.j|(simp only[pV];split<;>first|exact bU.h rfl|exact bU.j)
  |bool=>cases x<;>cases y<;>first|exact bU.j|exact bU.h rfl
  |string=>cases x<;>cases y<;>first|exact bU.j|exact bU.h rfl
  |slice e=>cases x with
   |slice a l c=>cases y with
    |slice b M N=>cases a<;>cases b<;>first|exact bU.h rfl|exact bU.j
    |_=>cases a<;>exact bU.j
   |_=>cases y<;>exact bU.j
  |map k e=>cases x with
   |map a=>cases y with
    |map b=>cases a<;>cases b<;>first|exact bU.h rfl|exact bU.j
    |_=>cases a<;>exact bU.j
   |_=>cases y<;>exact bU.j
  |func a b c=>cases x<;>cases y<;>first|exact bU.j|exact bU.h rfl
  |interface O=>
   cases x<;>cases y<;>first|exact bU.j|exact bU.h rfl|skip
   rename_i B F Q G;simp only[pV];split;exact bU.h rfl;refine bU.e (fR B) λi=>?_;simp only[id];split;refine bU.I (bU.I ?_);split;exact(λ_ _ _ _ _ _=>aB);exact bU.e (wi B) λq=>bW C _;exact z B F G
  |struct J=>
   cases x<;>cases y<;>first|exact bU.j|skip
   rename_i D E;simp only[pV];refine bU.I ?_;split;exact(λ_ _ _ _ _ _=>aB);refine bU.e (yP (pb:=id) (λf b=>?_) J _) λr=>?_;split;refine bU.e (kC _ D _) λu=>bU.e (kC _ E _) λv=>bU.e (z _ u v) λq=>?_;cases q<;>exact bU.h rfl;exact bU.h rfl;obtain⟨r,_⟩:=r;cases r<;>exact bU.h rfl
  |array l e=>
   cases x<;>cases y<;>first|exact bU.j|skip
   rename_i D E;simp only[pV];refine bU.e (fh e) λm=>?_;refine bU.e (yR (pb:=id) (λf b=>?_) _ _) λr=>?_;refine bU.e (kC _ D _) λu=>bU.e (kC _ E _) λv=>bU.e (z _ u v) λq=>?_;cases q<;>exact bU.h rfl;obtain⟨r,_⟩:=r;cases r<;>exact bU.h rfl
  |_=>cases x<;>cases y<;>exact bU.j
include C in
def De(t:DU)(x y:Dv):bU P U id (Op.equal t x y) (Op.equal t (pV U x) (pV U y)):=BD C _ t x y
include C in
def kZ(b:Bool):∀(n:Nat) (t:DU) (v:Dv),bU P U id (Instr.checkKey b n t v) (Instr.checkKey b n t (pV U v))
 |0,t,v=>bU.H
 |n+1,t,v=>by
  have a:=kZ b n;unfold Instr.checkKey;refine bU.e (br t) λd=>?_;simp only[id];cases d with
  |interface g=>
   cases v<;>first|exact bU.j|exact bU.h rfl|skip
   rename_i d x;refine bU.e (fR d) λi=>?_;simp only[id];split;split;exact bU.e (pa:=id) (bW C _) λ_=>bU.e (wi d) λq=>bU.e (pa:=id) (bW C _) λ_=>a d x;exact bU.e (wi d) λq=>bU.e (pa:=id) (bW C _) λ_=>a d x;exact a d x
  |array l e=>
   cases v<;>first|exact bU.j|skip
   rename_i c;refine bU.e (yR (pb:=id) (λi b=>?_) _ _) λr=>bU.h rfl;exact bU.e (fh e) λm=>bU.e (kC e c _) λu=>bU.e (a e u) λ_=>bU.h rfl
  |struct k=>
   cases v<;>first|exact bU.j|skip
   rename_i c;refine bU.e (yP (pb:=id) (λf b=>?_) _ _) λr=>bU.h rfl;split;exact bU.e (kC _ c _) λu=>bU.e (a _ u) λ_=>bU.h rfl;exact bU.h rfl
  |_=>cases v<;>exact bU.h rfl
def pNV(U:Pm)(x:Nat×Value):Nat×Value:=(x.1,pV U x.2)
include C in
def uB(t:DU)(k:Dv):∀(es:List MapEntry) (i:Nat),bU P U (Option.map (pNV U)) (Instr.findAsking t k es i) (Instr.findAsking t (pV U k) (es.map (dU U)) i)
 | [],i=>bU.h rfl
 |e::es,i=>by
  rw[bT,Instr.findAsking,Instr.findAsking];refine bU.e (De C t k e.key) λb=>?_;cases b with
  |true=>exact bU.h rfl
  |false=>exact uB t k es (i+1)
def MM(d:TypeDesc)(a b:Dv):Instr.sameNow d (pV U a) (pV U b)=Instr.sameNow d a b:=by
 cases d<;>cases a<;>cases b<;>rfl
def BG(d:TypeDesc)(k:Dv):∀(es:List MapEntry) (i:Nat),Instr.findNow d (pV U k) (es.map (dU U)) i=(Instr.findNow d k es i).map (Option.map (pNV U))
 | [],i=>rfl
 |e::es,i=>by
  rw[bT,Instr.findNow,Instr.findNow,show (dU U e).key=pV U e.key from rfl,MM];cases Instr.sameNow d k e.key with
  |none=>rfl
  |some b=>cases b with
   |true=>rfl
   |false=>exact BG d k es (i+1)
include C in
def rQ(t:DU)(k:Dv)(es:List MapEntry):bU P U (Option.map (pNV U)) (Instr.findKey t k es) (Instr.findKey t (pV U k) (es.map (dU U))):=by
 unfold Instr.findKey;refine bU.e (br t) λd=>?_;simp only[id,BG];cases Instr.findNow d k es 0 with
 |none=>exact uB C t k es 0
 |some r=>exact bU.h rfl
include C in
def Qk(t:DU)(x i:Dv)(ok:Bool):bU P U (pV U) (Instr.lookup t x i ok) (Instr.lookup t (pV U x) (pV U i) ok):=by
 unfold Instr.lookup;refine bU.e (br t) λd=>?_;cases d<;>first|exact bU.j|skip
 rename_i b a;simp;cases x<;>first|exact(λ_ _ _ _ _ _=>aB)|skip
 rename_i r;have c:∀es:Array MapEntry,(es.map (dU U)).isEmpty=es.isEmpty:=λes=>by unfold Array.isEmpty;rw[eh]
 have f:∀es:Array MapEntry,(es.map (dU U)).toList=es.toList.map (dU U):=λes=>aY;cases r with
 |none=>
  refine bU.e (pa:=Array.map (dU U)) (bU.h aY) λes=>?_;rw[c,f];refine bU.e (kZ C _ _ _ _) λ_=>bU.e (rQ C b i es.toList) λr=>?_;cases r with
  |none=>refine bU.e (gH C a) λz=>?_;cases ok<;>exact bU.h rfl
  |some r=>cases ok<;>exact bU.h rfl
 |some r=>
  refine bU.Z rfl (λo g=>?_) (λ_ _ _ _=>aB);cases o<;>first|exact(λ_ _ _ _ _ _=>aB)|skip
  refine bU.e (pa:=Array.map (dU U)) (bU.h rfl) λes=>?_;rw[c,f];refine bU.e (kZ C _ _ _ _) λ_=>bU.e (rQ C b i es.toList) λr=>?_;cases r with
  |none=>refine bU.e (gH C a) λz=>?_;cases ok<;>exact bU.h rfl
  |some r=>cases ok<;>exact bU.h rfl
def BW(a b:Option Addr):(a.map (bh U)==b.map (bh U))=(a==b):=by
 cases a<;>cases b<;>first|rfl|skip
 rename_i x y;show (bh U x==bh U y)=(x==y);exact C6 x y
def Xt(n:Nat)(c:∀x y:Dv,Instr.sameBits n (pV U x) (pV U y)=Instr.sameBits n x y):∀a b:List Dv,((qe U a).zip (qe U b)).all (λ(x,y)=>Instr.sameBits n x y)=(a.zip b).all (λ(x,y)=>Instr.sameBits n x y)
 | [],b=>by simp[qe]
 |x::a,[]=>by simp[qe]
 |x::a,y::b=>by
  simp only[qe,List.zip_cons_cons,Uc,c,Xt n c a b]
def zA:∀(n:Nat) (x y:Dv),Instr.sameBits n (pV U x) (pV U y)=Instr.sameBits n x y
 |0,x,y=>by
  cases x<;>cases y<;>first|rfl|(simp only[pV,Instr.sameBits];first|exact BW _ _|exact zh _ _)
 |n+1,x,y=>by
  have c:=zA n;cases x<;>cases y<;>first|rfl|(simp only[pV,Instr.sameBits];first|exact BW _ _|exact zh _ _|(rw[c])|skip)
  rename_i a b;let ⟨a⟩:=a
  let ⟨b⟩:=b
  have d:∀l:List Dv,(qe U l).length=l.length:=λl=>by rw[ya,bz]
  simp only[dx,f8,d,Xt n c a b]
def yW(a b:Dv):bU P U (pV U) (Instr.keyThatStays a b) (Instr.keyThatStays (pV U a) (pV U b)):=by
 unfold Instr.keyThatStays;rw[zA];split;exact bU.h rfl;refine bU.e bU.V λn=>bU.h ?_;simp;split<;>rfl
include C in
def Vj(t:DU)(x:Dv)(l h m:Option Dv):bU P U (pV U) (Instr.slice t x l h m) (Instr.slice t (pV U x) (l.map (pV U)) (h.map (pV U)) (m.map (pV U))):=by
 unfold Instr.slice;refine bU.e (br t) λd=>?_;simp;cases d with
 |string=>
  cases x<;>first|exact bU.j|skip
  rename_i s;simp;split;exact(λ_ _ _ _ _ _=>aB);exact bU.e (lz C _ _ _ l h none) λr=>bU.h rfl
 |slice e=>
  cases x<;>first|exact bU.j|skip
  rename_i a b c;refine bU.e (lz C _ _ _ l h m) λr=>bU.e (fh e) λn=>bU.h ?_;simp only[id,pV];split;rfl;cases a<;>simp[sI]
 |pointer e=>
  refine bU.e (qL C x) λa=>bU.e (br e) λd=>?_;cases d<;>first|exact bU.j|skip
  rename_i n el;refine bU.e (lz C _ _ _ l h m) λr=>bU.e (fh _) λn=>bU.h ?_;simp only[id,pV];split;rfl;simp[sI]
 |_=>cases x<;>exact bU.j
include C in
def xc(t:DU)(m k v:Dv):bU P U id (Instr.mapUpdate t m k v) (Instr.mapUpdate t (pV U m) (pV U k) (pV U v)):=by
 unfold Instr.mapUpdate;refine bU.e (br t) λd=>?_;cases d<;>first|exact bU.j|skip
 rename_i a c;simp;cases m<;>first|exact bU.j|skip
 rename_i r;cases r with
 |none=>exact(bW C (pa:=id) _ :)
 |some r=>
  refine bU.Z rfl (λo g=>?_) (λ_ _ _ _=>aB);cases o<;>first|exact bU.j|skip
  rename_i es b;have h:(es.map (dU U)).toList=es.toList.map (dU U):=aY;refine bU.e (kZ C _ _ _ _) λ_=>?_;show bU P U id _ _;rw[h];refine bU.e (rQ C a k es.toList) λf=>?_;cases f with
  |none=>
   apply bU.ac g rfl;simp[dR,dU]
  |some f=>
   let ⟨i,u⟩:=f
   have l:(((es.map (dU U))[i]?).map (·.key)).getD (pV U k)=pV U (((es[i]?).map (·.key)).getD k):=by
    rw[b9];cases es[i]?<;>rfl
   simp only[Option.map,pNV];show bU P U id (Instr.keyThatStays _ k >>= _) (Instr.keyThatStays ((((es.map (dU U))[i]?).map (·.key)).getD (pV U k)) (pV U k) >>= _);rw[l];refine bU.e (yW _ k) λq=>bU.ac g rfl ?_;simp only[dR];congr 1;apply Array.ext;simp;intro j n h;simp only[Array.getElem_map,Array.getElem_modify];split<;>rfl
def KI(v:Dv):bU P U id (Builtin.lenOf v) (Builtin.lenOf (pV U v)):=by
 cases v<;>first|exact bU.j|exact bU.h rfl
def oY(s n:Nat)(v:Dv):bU P U (dx U) (Builtin.firstCells s n v) (Builtin.firstCells s n (pV U v)):=by
 cases v<;>first|exact bU.j|skip
 rename_i b;apply bU.h;rw[dF,lr];rfl;rename_i a _ _;cases a with
 |none=>exact bU.h rfl
 |some a=>exact qS a _
def xl(a:Array Dv)(n:Nat):dx U (Builtin.zeroCells a n)=Builtin.zeroCells (dx U a) n:=by
 unfold Builtin.zeroCells;rw[dF,dF,lr,eh];congr 1
 funext i;show pV U (a[i%a.size]!)=(a.map (pV U))[i%a.size]!;rw[getElem!_def,getElem!_def,b9];cases a[i%a.size]?<;>rfl
def vJ(n:Nat):bU P U id (askRoom n) (askRoom n):=by
 unfold askRoom;split;exact bU.aw rfl;exact bU.h rfl
def ux(a b:Array Dv):dx U (a++b)=dx U a++dx U b:=by
 simp[dF]
def qs.j(h:∃a w1 b,s.runT P w es=(.ok a w1,b))(k:∀a w1 b,qs ((f a).runT P w1 b)):qs ((s >>= f).runT P w es):=by
 let ⟨a,w1,b,h⟩:=h
 show qs ((s.bind f).runT P w es);rw[ft,h];exact k _ _ _
def x7(h:∃a w1 d,s.runT P w es=(.ok a w1,d))(k:∀a w1 d,∃b w2 c,(f a).runT P w1 d=(.ok b w2,c)):∃b w2 c,(s >>= f).runT P w es=(.ok b w2,c):=by
 obtain⟨a,w1,d,h⟩:=h;show ∃b w2 c,(s.bind f).runT P w es=(.ok b w2,c);rw[ft,h];exact k _ _ _
def EY(a:Addr)(n:Nat)(w:Ba)(es:Array Event):∃b w1 c,(Builtin.holdsCells a n).runT P w es=(.ok b w1,c):=by
 unfold Builtin.holdsCells;refine x7 ⟨_,_,_,rfl⟩ λs w1 c=>?_;cases s<;>exact⟨_,_,_,rfl⟩
def E7(s l n:Nat)(b:Option Addr)(x:Dv)(w:Ba)(es:Array Event):∃r w1 d,(Builtin.mayShare s l n b x).runT P w es=(.ok r w1,d):=by
 unfold Builtin.mayShare;have e:∀w es,∃r w1 d,(match x with|.slice (some c) _ _=>do pure (!(<-Builtin.holdsCells c (n*s))||b.any (·.block==c.block))|_=>pure false:Sem Bool).runT P w es=(.ok r w1,d):=by
  intro w es;cases x<;>first|exact⟨_,_,_,rfl⟩|skip
  rename_i c _ _;cases c with
  |none=>exact⟨_,_,_,rfl⟩
  |some c=>exact x7 (EY _ _ _ _) λ_ _ _=>⟨_,_,_,rfl⟩
 cases b with
 |none=>exact e _ _
 |some a=>
  refine x7 (EY _ _ _ _) λp w1 d=>x7 ⟨_,_,_,rfl⟩ λq w2 f=>?_;cases p<;>cases q<;>first|exact⟨_,_,_,rfl⟩|exact e _ _
theorem pb(a:α)(f:α->Sem β):((Pure.pure a:Sem α) >>= f)=f a:=rfl
def KZ(h:P.underlying t=some d)(k:TypeDesc->Sem β)(w:Ba)(es:Array Event):(underlying t >>= k).runT P w es=(k d).runT P w es:=by
 show ((match P.underlying t with | some d => (Sem.pure d : Sem TypeDesc) | none => Go.stuck "no such type").bind k).runT P w es = _;rw[h];rfl
def bU.ah{pb:β->β}(h:P.underlying t=some d){k b:TypeDesc->Sem β}(H:bU P U pb (k d) (b d)):bU P U pb (underlying t >>= k) (underlying t >>= b):=λw c es a e f=>by
 rw[KZ h,KZ h];exact H w c es a e f
def bU.ai{pb:β->β}(m:String){f':α->Sem β}:bU P U pb ((runtimePanic (.error m):Sem α) >>= f) ((runtimePanic (.error m):Sem α) >>= f'):=
 λ_ b _ a c d _=>.inr ⟨b,a,rfl,d,ko.e c⟩
def qs.h(h:qs (s.runT P w es)):qs ((s >>= f).runT P w es):=by
 show qs ((s.bind f).runT P w es);rw[ft];exact qs.e h
def Io(P:Program)(b:Array TypeId):Prop:=∃a d,b[1]?=some a/\P.underlying a=some d/\∀k,d≠.int k
include C in
def PV(p:Array DU)(t:DU)(args:Array Dv)(u:Io P p):bU P U (pV U) (Builtin.append_ p t args) (Builtin.append_ p t (dx U args)):=by
 obtain⟨F,d,v,y,A⟩:=u;have B:(match d with|.int _=>true|_=>false)=false:=by cases d<;>first|rfl|exact absurd rfl (A _)
 unfold Builtin.append_;rw[kx,kx,v];cases p[0]? with
 |none=>exact bU.j
 |some m=>cases args[0]? with
  |none=>exact bU.j
  |some s=>cases args[1]? with
   |none=>exact bU.j
   |some x=>
    simp only[Option.map];refine bU.e (br m) λd1=>?_;cases d1<;>first|exact bU.j|skip
    rename_i c;cases s<;>first|exact bU.j|skip
    rename_i k f o;simp only[pV,id];refine bU.e (fh c) λg=>bU.ah y ?_;simp only[id,B,pb,dZ,nX,Bool.not_false,dG,false_or];refine bU.e (KI x) λn=>?_;simp only[id];have l:bU P U (dx U) (Builtin.firstCells g n x) (Builtin.firstCells g n (pV U x)):=oY _ _ _;split;refine bU.e l λnew=>?_;cases k with
    |none=>exact bU.h rfl
    |some a=>
     refine bU.e (pa:=id) ?_ λ_=>bU.h rfl;have:=js (P:=P) (U:=U) (a.add (f*g)) new.toList 0;rw[sI]at this;simpa only [dF,ya,Array.toList_map] using this
    refine bU.e (fR c) λG=>?_;simp only[id];split;exact bU.ai _;refine bU.e (fR c) λi=>?_;simp only[id];split;refine bU.aU λw es=>?_;refine qs.h (qs.j (E7 _ _ _ _ _ _ _) λb w1 D=>?_);cases b<;>trivial;refine bU.e bU.V λE=>bU.e (fR c) λi=>bU.e (vJ _) λ_=>bU.e (oY g f (.slice k f o)) λq=>bU.e l λnew=>bU.e (gH C c) λz=>?_;refine bU.e (pa:=bh U) ?_ λr=>bU.h rfl;have:=ox (P:=P) (U:=U) c (q++new++Builtin.zeroCells z.cells (E-(f+n)));rw[ux,ux,xl,<-kw]at this;exact this
def KX(w:Ba):w.sys .env=(.strings w.os.env,w):=by
 unfold World.sys;have:Kernel.perform .env w.os=.done (.strings w.os.env,w.os):=rfl;rw[this];rfl
def bU.a6:bU P U id (Go.sys .env) (Go.sys .env):=by
 intro w a es b c d;show AY U id w a (Result.ok (w.sys .env).1 (w.sys .env).2,es.push ⟨.output,true,false⟩) (Result.ok (a.sys .env).1 (a.sys .env).2,b.push ⟨.output,true,false⟩);rw[KX,KX,c.j];exactλ_=>.inr ⟨a,_,rfl,d.e ⟨.output,true,false⟩,ko.e c⟩
def Ix:bU P U id Instr.panicnil Instr.panicnil:=by
 unfold Instr.panicnil;refine bU.e bU.a6 λr=>?_;cases r<;>first|exact bU.j|exact bU.I (bU.h rfl)
include C in
def U7(x:Dv):bU P U (pV U) (Instr.panic x) (Instr.panic (pV U x)):=by
 unfold Instr.panic;cases x<;>first|exact bU.j|exact bU.af rfl|skip
 refine bU.e Ix λn=>?_;simp;split;exact bU.af rfl;exact bW C _
def aan(a:Array DU)(t:DU)(args:Array Dv):bU P U (pV U) (Builtin.len_ a t args) (Builtin.len_ a t (dx U args)):=by
 unfold Builtin.len_;rw[kx];cases a[0]? with
 |none=>exact bU.j
 |some b=>cases args[0]? with
  |none=>exact bU.j
  |some x=>
   refine bU.e (br b) λd=>?_;simp;cases d with
   |pointer e=>
    refine bU.e (br e) λd=>?_;cases d<;>first|exact bU.j|exact bU.h rfl
   |map k e=>
    cases x<;>first|exact bU.j|skip
    rename_i r;cases r with
    |none=>exact bU.h rfl
    |some r=>
     refine bU.Z rfl (λo c=>?_) (λ_ _ _ _=>aB);cases o<;>first|exact bU.j|exact bU.h (by simp[pV,goInt])
   |chan k e=>
    cases x<;>first|exact bU.j|skip
    rename_i r;cases r with
    |none=>exact bU.h rfl
    |some r=>
     refine bU.Z rfl (λo c=>?_) (λ_ _ _ _=>aB);cases o<;>first|exact bU.j|exact bU.h (by simp[pV,goInt,nO])
   |_=>cases x<;>first|exact bU.j|exact bU.h rfl
def aak(a:Array DU)(t:DU)(args:Array Dv):bU P U (pV U) (Builtin.cap_ a t args) (Builtin.cap_ a t (dx U args)):=by
 unfold Builtin.cap_;rw[kx];cases a[0]? with
 |none=>exact bU.j
 |some b=>cases args[0]? with
  |none=>exact bU.j
  |some x=>
   refine bU.e (br b) λd=>?_;simp;cases d with
   |pointer e=>
    refine bU.e (br e) λd=>?_;cases d<;>first|exact bU.j|exact bU.h rfl
   |chan k e=>
    cases x<;>first|exact bU.j|skip
    rename_i r;cases r with
    |none=>exact bU.h rfl
    |some r=>
     refine bU.Z rfl (λo c=>?_) (λ_ _ _ _=>aB);cases o<;>first|exact bU.j|exact bU.h (by simp[pV,goInt])
   |_=>cases x<;>first|exact bU.j|exact bU.h rfl
def ri(a:Array Dv):(dx U a).toList=qe U a.toList:=by cases a;rfl
include C in
def Uu(b:Array DU)(t:DU)(args:Array Dv):bU P U (pV U) (Builtin.clear_ b t args) (Builtin.clear_ b t (dx U args)):=by
 unfold Builtin.clear_;rw[kx];cases b[0]? with
 |none=>exact bU.j
 |some c=>cases args[0]? with
  |none=>exact bU.j
  |some x=>
   refine bU.e (br c) λd=>?_;simp;cases x<;>first|(cases d<;>exact bU.ae)|skip
   .rename_i a n g;cases a with
    |none=>exact bU.h rfl
    |some a=>
     cases n with
     |zero=>exact bU.h rfl
     |succ n=>
      cases d<;>first|exact bU.ae|skip
      refine bU.e (gH C _) λz=>bU.e (pa:=id) ?_ λ_=>bU.h rfl;have:=js (P:=P) (U:=U) a (Builtin.zeroCells z.cells (n+1)).toList 0;rw[<-ri,xl,<-kw]at this;exact this
   rename_i r;cases r with
   |none=>exact bU.h rfl
   |some r=>
    cases d<;>(refine bU.Z rfl (λo f=>?_) (λ_ _ _ _=>aB);cases o<;>first|exactλ_ _ _ _ _ _=>aB|exact bU.e (bU.ac f rfl (by simp[dR])) λ_=>bU.h rfl)
def Ye(b:Array DU)(t:DU)(args:Array Dv):bU P U (pV U) (Builtin.copy_ b t args) (Builtin.copy_ b t (dx U args)):=by
 unfold Builtin.copy_;rw[kx,kx];cases b[0]? with
 |none=>exact bU.j
 |some c=>cases args[0]? with
  |none=>exact bU.j
  |some x=>cases args[1]? with
   |none=>exact bU.j
   |some y=>
    refine bU.e (br c) λd=>?_;simp;cases d<;>first|exact bU.j|skip
    cases x<;>first|exact bU.j|skip
    rename_i e a n g;refine bU.e (KI y) λm=>bU.e (fh e) λi=>bU.e (oY _ _ y) λf=>?_;cases a with
    |none=>exact bU.h rfl
    |some a=>
     refine bU.e (pa:=id) ?_ λ_=>bU.h rfl;have:=js (P:=P) (U:=U) a f.toList 0;rw[<-ri]at this;exact this
def BE(f:α->β):∀(l:List α) (i:Nat),(l.eraseIdx i).map f=(l.map f).eraseIdx i
 | [],i=>aY
 |a::l,0=>aY
 |a::l,i+1=>by simp[BE f l i]
include C in
def P4(b:Array DU)(t:DU)(args:Array Dv):bU P U (pV U) (Builtin.delete_ b t args) (Builtin.delete_ b t (dx U args)):=by
 unfold Builtin.delete_;rw[kx,kx];cases b[0]? with
 |none=>exact bU.j
 |some i=>cases args[0]? with
  |none=>exact bU.j
  |some x=>cases args[1]? with
   |none=>exact bU.j
   |some y=>
    refine bU.e (br i) λd=>?_;simp;cases d<;>first|exact bU.j|skip
    rename_i k et;cases x<;>first|exact bU.ae|skip
    rename_i r;cases r with
    |none=>exact bU.e (kZ C _ _ _ _) λ_=>bU.h rfl
    |some r=>
     refine bU.Z rfl (λo g=>?_) (λ_ _ _ _=>aB);cases o<;>first|exactλ_ _ _ _ _ _=>aB|skip
     rename_i es c;have l:(es.map (dU U)).isEmpty=es.isEmpty:=by unfold Array.isEmpty;rw[eh]
     have m:(es.map (dU U)).toList=es.toList.map (dU U):=aY;simp only[dR,l,m];refine bU.e (kZ C _ _ _ _) λ_=>bU.e (rQ C k y es.toList) λf=>?_;cases f with
     |none=>exact bU.e (bU.ac g rfl (by simp[dR])) λ_=>bU.h rfl
     |some f=>
      refine bU.e (bU.ac g rfl ?_) λ_=>bU.h rfl;simp only[dR,pNV];congr 1;rw[LO,LO];by_cases a:f.1<es.size;rw[dif_pos a,dif_pos (dD a)];apply vE;simp[BE];rw[dif_neg a,dif_neg (dD a)]
def ab2{f:Dv->Dv->Sem Dv}(c:f=Builtin.max2\/f=Builtin.min2)(x y:Dv):bU P U (pV U) (f x y) (f (pV U x) (pV U y)):=by
 rcases c with rfl|rfl
 all_goals
  first|unfold Builtin.max2|unfold Builtin.min2
  cases x with
  |int k n=>cases y<;>first|exact bU.h rfl|exact bU.j|(rename_i a;cases a<;>first|exact bU.H|exact bU.j)
  |float k n=>cases y with
   |float d m=>
    simp only[pV];split<;>first|exact bU.h rfl|exact bU.e bU.V λ_=>bU.h rfl
   |pointer a=>cases a<;>first|exact bU.H|exact bU.j
   |_=>exact bU.j
  |string s=>cases y with
   |string u=>exact bU.e (pa:=pV U) (bU.h rfl) λv=>bU.e (EK v) λb=>bU.h (by simp only[id,pV])
   |pointer a=>cases a<;>first|exact bU.H|exact bU.j
   |_=>exact bU.j
  |pointer a=>cases a with
   |some a=>cases y<;>exact bU.H
   |none=>cases y<;>first|exact bU.j|(rename_i b;cases b<;>first|exact bU.H|exact bU.j)
  |_=>cases y<;>first|exact bU.j|(rename_i b;cases b<;>first|exact bU.H|exact bU.j)
def Dk{f:Dv->Dv->Sem Dv}(a:f=Builtin.max2\/f=Builtin.min2):∀(l:List Dv) (x:Dv),bU P U (pV U) (l.foldlM f x) ((qe U l).foldlM f (pV U x))
 | [],x=>bU.h rfl
 |y::l,x=>by
  rw[qe,Hx,Hx];exact bU.e (ab2 a x y) λz=>Dk a l z
def aaq(a:Array DU)(t:DU)(args:Array Dv):bU P U (pV U) (Builtin.max_ a t args) (Builtin.max_ a t (dx U args)):=by
 unfold Builtin.max_;rw[ri];cases args.toList with
 |nil=>exact bU.j
 |cons x l=>exact Dk (.inl rfl) l x
def aar(a:Array DU)(t:DU)(args:Array Dv):bU P U (pV U) (Builtin.min_ a t args) (Builtin.min_ a t (dx U args)):=by
 unfold Builtin.min_;rw[ri];cases args.toList with
 |nil=>exact bU.j
 |cons x l=>exact Dk (.inr rfl) l x
def xb(a:Addr):∀(n:Nat) (b:DS),bU P U id (loadBytes a b n) (loadBytes (bh U a) b n)
 |0,b=>bU.h rfl
 |n+1,b=>by
  unfold loadBytes;refine bU.e (bU.ao rfl) λv=>?_;cases v<;>first|exact bU.j|skip
  rename_i k m;cases k<;>first|exact bU.j|skip
  have:=xb (a.add 1) n (b.push m.toNat.toUInt8);rw[sI]at this;exact this
def sM{pb:β->β}(a:Addr)(u:DU)(n:Nat){k g:Bool->Sem β}(i:U.X a.block=false->∀b,bU P U pb (k b) (g b))(j:U.X a.block=true->∀b w w' es d,tu U w w'->yx U es d->w.shape? a.block=none->AY U pb w w' ((k false).runT P w es) ((g b).runT P w' d)):bU P U pb (variablesAt a u n >>= k) (variablesAt (bh U a) u n >>= g):=by
 unfold variablesAt;show bU P U pb ((Go.shape a.block >>= λs=>match s with|some (e,cells)=>pure (liesAt P P.depth e (cells/P.cellsOf e) a.off u n)|none=>pure false:Sem Bool) >>= k) ((Go.shape (U.f a.block) >>= λs=>match s with|some (e,cells)=>pure (liesAt P P.depth e (cells/P.cellsOf e) a.off u n)|none=>pure false:Sem Bool) >>= g);have e:∀(r:Nat) (k:Bool->Sem β),((Go.shape r >>= λs=>match s with|some (e,cells)=>pure (liesAt P P.depth e (cells/P.cellsOf e) a.off u n)|none=>pure false:Sem Bool) >>= k)=(Go.shape r >>= λs=>k (match s with|some (e,cells)=>liesAt P P.depth e (cells/P.cellsOf e) a.off u n|none=>false)):=by
  intro r k;show Sem.shape r _=Sem.shape r _;congr 1
  funext s;cases s<;>rfl
 rw[e,e];refine bU.ag rfl (λh s=>i h _) λh w w' es d l m ⟨c,t,p,q,o,_⟩=>j h _ w w' es d l m ?_;unfold World.shape?
 rw[o]
include C in
def zK(c:Array DU)(t:DU)(args:Array Dv):bU P U (pV U) (Builtin.unsafeString_ c t args) (Builtin.unsafeString_ c t (dx U args)):=by
 let ⟨l⟩:=args
 rcases l with _|⟨x,_|⟨y,_|⟨z,l⟩⟩⟩
 exactλ_ _ _ _ _ _=>aB;exactλ_ _ _ _ _ _=>aB
 .simp only[dx,qe];cases x<;>first|exactλ_ _ _ _ _ _=>aB|skip
  rename_i p;show bU P U (pV U) (asInt y >>= λn=>_) (asInt (pV U y) >>= λn=>_);refine bU.e (rO y) λn=>?_;simp;cases c[0]? with
  |none=>exact bU.j
  |some d=>
   dsimp only;split;exact bU.ai _;split;exact bU.O;cases p with
   |none=>
    simp;split;exact bU.h rfl;exact bW C _
   |some a=>
    simp;split;exact bU.h rfl;refine bU.e (qN d) λe=>sM a e n.toNat (λf b=>?_) λ_ _ _ _ _ _ _ _ _=>aB;cases b with
    |false=>exact bU.H
    |true=>exact bU.e (xb a _ _) λs=>bU.e (bU.aq f rfl) λ_=>bU.h rfl
 simp only[dx,qe];exactλ_ _ _ _ _ _=>aB
def uP(b:Array DU)(t:DU)(args:Array Dv):bU P U (pV U) (Builtin.unsafeSliceData_ b t args) (Builtin.unsafeSliceData_ b t (dx U args)):=by
 obtain⟨l⟩:=args;rcases l with _|⟨x,_|⟨y,l⟩⟩
 exactλ_ _ _ _ _ _=>aB
 .simp only[dx,qe];cases x<;>first|exactλ_ _ _ _ _ _=>aB|skip
  rename_i a n c;cases a with
  |none=>exact bU.h rfl
  |some a=>
   show bU P U (pV U) (if c≠0 then pure (.pointer (some a)) else _) (if c≠0 then pure (.pointer (some (bh U a))) else _);split;exact bU.h rfl;refine bU.e (ZB a.block).1 λv=>?_;cases v with
   |some v=>exact bU.h rfl
   |none=>exact bU.e (qN t) λe=>bU.e (bU.ab rfl) λr=>bU.h rfl
 simp only[dx,qe];exactλ_ _ _ _ _ _=>aB
end Go.Eqv
