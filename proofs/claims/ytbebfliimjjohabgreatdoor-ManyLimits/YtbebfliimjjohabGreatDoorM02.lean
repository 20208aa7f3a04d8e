/- Parts of the proof. -/
import Derived.Test.YtbebfliimjjohabGreatDoorM01
set_option maxRecDepth 100000
set_option maxHeartbeats 8000000
set_option linter.all false
namespace Go.Eqv
variable{es:Array Event}{U:Pm}{P:Bo}{α β:Type}{d:TypeDesc}{t:Bi}{w:A1}{pa:α->α}{s:Sem α}{f:α->Sem β}{f':α->β->Sem (ForInStep β)}
structure gi(P:Program)(U:Pm):Prop where
 p:∀t i z,P.info? t=some i->i.zero=some z->pV U z=z
 e:U.f P.globals.size=P.globals.size
 h:U.wk=false->∀b,b<P.globals.size->U.f b<P.globals.size
 s:∀b,U.f b<P.globals.size->b<P.globals.size
 o : ∀ t i u, P.info? t = some i → i.desc ≠ .named "sync.copyChecker" u
 j:∀t i m f r,P.info? t=some i->m∈i.methods->m.func=some (f,r)->U.xT m.name=true->U.zx f=true
variable(C:gi P U)
def bZ.a8{s':Sem α}(b:U.wk=true)(h:∀w es,ry (s'.runT P w es)):bZ P U pa s s':=by
 intro w e es c i j;have d:=h e c;generalize s.runT P w es=x;obtain⟨r,f⟩:=x;cases r with
 |ok a w1=>exactλ_=>.inl ⟨b,d⟩
 |halt g w1=>
  cases g with
  |panic v=>exactλ_=>.inl ⟨b,d⟩
  |unsupported u=>trivial
  |stuck m=>trivial
  |_=>exactλ_=>⟨b,d⟩
def gB(t:Bi):bZ P U id (typeInfo t) (typeInfo t):=by
 unfold typeInfo;apply bZ.I;split;exact bZ.h rfl;exact bZ.j
def bE(t:Bi):bZ P U id (underlying t) (underlying t):=by
 unfold underlying;apply bZ.I;split;exact bZ.h rfl;exact bZ.j
def fL(t:Bi):bZ P U id (Go.sizeOf t) (Go.sizeOf t):=by
 unfold Go.sizeOf;exact bZ.e (gB t) λi=>bZ.h rfl
def Mw(t:Bi):bZ P U id (isAgg t) (isAgg t):=by
 unfold isAgg;refine bZ.e (bE t) λd=>?_;simp;split<;>exact bZ.h rfl
include C in
def ig(t:Bi):bZ P U (pV U) (zeroValue t) (zeroValue t):=by
 unfold zeroValue typeInfo;show bZ P U (pV U) ((do match P.info? t with | some i => pure i | none => stuck "no such type") >>= _) ((do match P.info? t with | some i => pure i | none => stuck "no such type") >>= _);cases h:P.info? t with
 |none=>exact(λ_ _ _ _ _ _=>aE)
 |some i=>
  show bZ P U (pV U) (match i.zero with|some v=>pure v|none=>_) (match i.zero with|some v=>pure v|none=>_);cases hz:i.zero with
  |none=>exact bZ.H
  |some z=>exact bZ.h (C.p _ _ _ h hz)
def tW(a:Addr)(n:Nat):br U (a.add n)=(br U a).add n:=by
 unfold Addr.add;split<;>rfl
def ri(a:Addr):∀(n i:Nat) (b:Array Bg),bZ P U (dI U) (loadCellsFrom a i n b) (loadCellsFrom (br U a) i n (dI U b))
 |0,i,b=>bZ.h rfl
 |n+1,i,b=>by
  unfold loadCellsFrom;refine bZ.e (bZ.ao (tW a i)) λv=>?_;have:=ri a n (i+1) (b.push v);rwa [show dI U (b.push v)=(dI U b).push (pV U v) by simp[dR]]at this
def rT(a:Addr)(n:Nat):bZ P U (dI U) (loadCells a n) (loadCells (br U a) n):=ri a n 0 #[]
def jV(a:Addr):∀(b:List Bg) (i:Nat),bZ P U id (storeCells a b i) (storeCells (br U a) (qj U b) i)
 | [],i=>bZ.h rfl
 |v::r,i=>by
  unfold storeCells;exact bZ.e (bZ.a9 (tW a i) rfl) λ_=>jV a r (i+1)
def jU(t:Bi)(a:Addr):bZ P U (pV U) (loadVar t a) (loadVar t (br U a)):=by
 unfold loadVar;refine bZ.e (Mw t) λb=>?_;simp;split;exact bZ.e (fL t) λn=>bZ.e (rT a _) λc=>bZ.h rfl;exact bZ.ao rfl
def lq(v:Bg):(pV U v).cells=dI U v.cells:=by
 cases v<;>rfl
def qJ(t:Bi)(a:Addr)(v:Bg):bZ P U id (storeVar t a v) (storeVar t (br U a) (pV U v)):=by
 unfold storeVar;refine bZ.e (fL t) λn=>?_;have b:(pV U v).cells.size=v.cells.size:=by rw[lq,dR,eR]
 have hc:(pV U v).cells.toList=qj U v.cells.toList:=by rw[lq];cases v.cells;rfl
 simp only[id,b,hc];split;exact bZ.e (pa:=id) bZ.j λ_=>jV a _ 0;exact jV a _ 0
def pL(t:Bi)(c:Array Bg):bZ P U (br U) (newRow t c) (newRow t (dI U c)):=by
 unfold newRow;exact bZ.e (bZ.ab rfl) λr=>bZ.h rfl
def rU(t:Bi)(v:Bg):bZ P U (br U) (newVar t v) (newVar t (pV U v)):=by
 unfold newVar;rw[lq];exact pL t _
def CW(t:Bi){v a:Bg}(h:pV U v=a):bZ P U (br U) (newVar t v) (newVar t a):=by
 subst h;exact rU t v
def sU(v:Bg):bZ P U id (asIntOf v) (asIntOf (pV U v)):=by
 cases v with
 |int k n=>exact bZ.h rfl
 |pointer a=>cases a<;>first|exact bZ.H|exact bZ.j
 |_=>exact bZ.j
def sV(v:Bg):bZ P U id (asInt v) (asInt (pV U v)):=by
 unfold asInt;exact bZ.e (sU v) λ_=>bZ.h rfl
def zD(v:Bg):bZ P U id (asBool v) (asBool (pV U v)):=by
 cases v<;>first|exact bZ.h rfl|exact bZ.j
def V4(v:Bg):bZ P U (dI U) (asAgg v) (asAgg (pV U v)):=by
 cases v<;>first|exact bZ.h rfl|exact bZ.j
def rO(t:Bi):bZ P U id (elemOf t) (elemOf t):=by
 unfold elemOf;refine bZ.e (bE t) λd=>?_;simp;split<;>first|exact bZ.h rfl|exact bZ.j
include C in
def rS(t:Bi):pV U (typeHandle P t)=typeHandle P t:=by
 simp[typeHandle,pV,br,C.e]
include C in
def cr{α:Type}{pa:α->α}(e:RuntimeError):bZ P U pa (runtimePanic e) (runtimePanic e):=by
 unfold runtimePanic;apply bZ.I;cases e with
 |typeAssertion i c a m=>
  refine bZ.e (rO _) λt=>bZ.e (pa:=br U) ?_ λr=>bZ.ag rfl;have e:∀x y z u:Bg,pV U x=x->pV U y=y->pV U z=z->pV U u=u->pV U (.agg #[x,y,z,u])=.agg #[x,y,z,u]:=λx y z u b d f g=>by
   show Value.agg ⟨[pV U x,pV U y,pV U z,pV U u]⟩=_;rw[b,d,f,g]
  cases i<;>cases c<;>exact CW t (e _ _ _ _ (by first|rfl|exact rS C _) (by first|rfl|exact rS C _) (rS C _) rfl)
 |panicNil=>exact bZ.e (rO _) λt=>bZ.e (rU t (.agg #[])) λr=>bZ.ag rfl
 |unhashable t=>exact bZ.ag (by simp[pV,dI,qj,rS C])
 |_=>exact bZ.ag rfl
include C in
def jA{α:Type}{pa:α->α}(k:IntKind)(x y:Int)(c:BoundsCode):bZ P U pa (boundsPanic k x y c) (boundsPanic k x y c):=by
 unfold boundsPanic

 split;exact bZ.e (pa:=id) (bZ.e (pa:=id) bZ.V λn=>bZ.h rfl) λs=>cr C _;exact bZ.e (pa:=id) (bZ.h rfl) λs=>cr C _
include C in
def rM(v:Bg):bZ P U (br U) (asAddr v) (asAddr (pV U v)):=by
 cases v with
 |pointer a=>cases a with
  |none=>exact(cr C (pa:=br U) .nilDeref :)
  |some a=>exact bZ.h rfl
 |_=>exact bZ.j
def ly(t:Bi)(cs:Array Bg)(a:Nat):bZ P U (pV U) (part t cs a) (part t (dI U cs) a):=by
 unfold part;refine bZ.e (Mw t) λb=>?_;simp;split;refine bZ.e (fL t) λn=>bZ.h ?_;simp[pV,dR];rw[dR,cD];cases cs[a]? with
 |none=>exact bZ.j
 |some v=>exact bZ.h rfl
def nV(v:Bg):bZ P U (br U) (Instr.sureAddr v) (Instr.sureAddr (pV U v)):=by
 cases v with
 |pointer a=>cases a<;>first|exact bZ.j|exact bZ.h rfl
 |_=>exact bZ.j
def R8(t:Bi)(a:Bg):bZ P U (pV U) (Instr.loadAt t a) (Instr.loadAt t (pV U a)):=by
 unfold Instr.loadAt;exact bZ.e (nV a) λx=>jU t x
def OU(t:Bi)(a v:Bg):bZ P U id (Instr.storeAt t a v) (Instr.storeAt t (pV U a) (pV U v)):=by
 unfold Instr.storeAt;exact bZ.e (nV a) λx=>qJ t x v
include C in
def Oe(t:Bi)(x i:Bg):bZ P U (pV U) (Instr.indexAt t x i) (Instr.indexAt t (pV U x) (pV U i)):=by
 unfold Instr.indexAt;refine bZ.e (sU i) λl=>?_;obtain⟨k,i⟩:=l;refine bZ.e (bE t) λd=>?_;extract_lets j;have g:∀b:Option Addr×Nat×Bi,bZ P U (pV U) (j b) (j (b.1.map (br U),b.2)):=by
  rintro⟨c,m,f⟩;refine bZ.e (bE t) λd=>?_;cases c with
  |none=>exact jA C _ _ _ _
  |some a=>
   simp;split;exact bZ.e (fL f) λn=>bZ.h (by simp[pV,tW]);split<;>split<;>first|exact bZ.H|exact jA C _ _ _ _
 simp;cases d<;>cases x<;>first|exact(λ_ _ _ _ _ _=>aE)|exact g _|exact g (_,_,_)|exact bZ.e (nV _) λx=>g (some x,_,_)
include C in
def gD(x:Bg)(y:Nat)(c:BoundsCode):bZ P U id (Instr.sliceBound x y c) (Instr.sliceBound (pV U x) y c):=by
 unfold Instr.sliceBound;refine bZ.e (sU x) λa=>?_;let ⟨k,i⟩:=a
 simp;split;exact bZ.h rfl;exact jA C _ _ _ _
include C in
def ma(s:Bool)(d cap:Nat)(b a c:Option Bg):bZ P U id (Instr.sliceBounds s d cap b a c) (Instr.sliceBounds s d cap (b.map (pV U)) (a.map (pV U)) (c.map (pV U))):=by
 unfold Instr.sliceBounds;cases c<;>cases a<;>cases b<;>simp;all_goals first
  |exact bZ.e (pa:=id) (bZ.h rfl) λm=>bZ.e (pa:=id) (bZ.h rfl) λh=>bZ.e (pa:=id) (bZ.h rfl) λl=>bZ.h rfl
  |exact bZ.e (pa:=id) (bZ.h rfl) λm=>bZ.e (pa:=id) (bZ.h rfl) λh=>bZ.e (pa:=id) (gD C _ _ _) λl=>bZ.h rfl
  |exact bZ.e (pa:=id) (bZ.h rfl) λm=>bZ.e (pa:=id) (gD C _ _ _) λh=>bZ.e (pa:=id) (bZ.h rfl) λl=>bZ.h rfl
  |exact bZ.e (pa:=id) (bZ.h rfl) λm=>bZ.e (pa:=id) (gD C _ _ _) λh=>bZ.e (pa:=id) (gD C _ _ _) λl=>bZ.h rfl
  |exact bZ.e (pa:=id) (gD C _ _ _) λm=>bZ.e (pa:=id) (gD C _ _ _) λh=>bZ.e (pa:=id) (bZ.h rfl) λl=>bZ.h rfl
  |exact bZ.e (pa:=id) (gD C _ _ _) λm=>bZ.e (pa:=id) (gD C _ _ _) λh=>bZ.e (pa:=id) (gD C _ _ _) λl=>bZ.h rfl
  |exact bZ.e (pa:=id) (gD C _ _ _) λm=>(λ_ _ _ _ _ _=>aE)
def jc{w':A1}{b:Array Event}(c:ur U w w')(d:zu U es b){a a':α}(h:pa a=a'):zw U pa w w' (.ok a w,es) (.ok a' w',b):=by
 subst h;exactλ_=>.inr ⟨w',b,rfl,d,ll.e c⟩
def vZ(r:Nat):bZ P U (λx=>x.map λy=>(br U y.1,y.2)) (viewAt r) (viewAt (U.f r)):=by
 unfold viewAt;refine bZ.af rfl (λg s=>?_) λg w b es a l m ⟨c,t,p,q,n,_,_,d⟩=>?_;cases s with
 |some x=>exact bZ.h rfl
 |none=>
  refine bZ.al g rfl λo=>?_;cases o<;>exact bZ.h rfl
 show zw U _ w b ((Go.getObj r >>= λo=>_).runT P w es) _;rw[iM _ w es n (λ_ _ _=>by simp)];rcases d with⟨i,d,k⟩|⟨d,k⟩
 rw[k];show zw U _ w b _ ((Go.getObj (U.f r) >>= λo=>_).runT P b a);rw[iM _ b a d (λ_ _ _=>by simp)];exact jc l (m.e ⟨.obj r,false,false⟩ (.inr i)) rfl;rw[k];exact jc l (m.j g false false) rfl
def Ai(r:Nat):bZ P U (λx=>x.map λy=>(br U y.1,y.2)) (numberAt r) (numberAt (U.f r)):=by
 unfold numberAt;refine bZ.af rfl (λg s=>?_) λg w b es a l m ⟨c,t,p,q,n,_,_,d⟩=>?_;cases s with
 |some x=>exact bZ.h rfl
 |none=>
  refine bZ.al g rfl λo=>?_;cases o<;>exact bZ.h rfl
 show zw U _ w b ((Go.getObj r >>= λo=>_).runT P w es) _;rw[iM _ w es n (λ_ _ _=>by simp)];rcases d with⟨i,d,k⟩|⟨d,k⟩
 rw[k];show zw U _ w b _ ((Go.getObj (U.f r) >>= λo=>_).runT P b a);rw[iM _ b a d (λ_ _ _=>by simp)];exact jc l (m.e ⟨.obj r,false,false⟩ (.inr i)) rfl;rw[k];exact jc l (m.j g false false) rfl
def NT(r:Nat):bZ P U id (cellsIn r) (cellsIn (U.f r)):=by
 unfold cellsIn;refine bZ.af rfl (λg s=>?_) λg w b es a l m ⟨c,t,q,u,p,_,n,d⟩=>?_;cases s with
 |some x=>exact bZ.h rfl
 |none=>
  refine bZ.al g rfl λo=>?_;cases o<;>first|exact bZ.h rfl|(simp only[ei,pc];exact bZ.h rfl)
 show zw U _ w b ((Go.getObj r >>= λo=>_).runT P w es) _;rw[iM _ w es p (λ_ _ _=>by simp)];rcases d with⟨i,d,k⟩|⟨d,k⟩
 rw[k];show zw U _ w b _ ((Go.getObj (U.f r) >>= λo=>_).runT P b a);rw[iM _ b a d (λ_ _ _=>by simp)];apply jc l (m.e ⟨.obj r,false,false⟩ (.inr i));simp only[id,n];rw[k];apply jc l (m.j g false false);simp only[id,n]
def Af(a:Addr):bZ P U id (noView a) (noView (br U a)):=by
 unfold noView;refine bZ.e (vZ a.block) λx=>?_;cases x with
 |none=>exact bZ.h rfl
 |some x=>exact bZ.H
def gm(a:Addr):bZ P U (λy=>(br U y.1,y.2)) (behindNumber a) (behindNumber (br U a)):=by
 unfold behindNumber;refine bZ.e (Ai a.block) λx=>bZ.h ?_;cases x<;>rfl
def yc(a:Addr):bZ P U id (stringish a) (stringish (br U a)):=by
 unfold stringish;refine bZ.e (bZ.an rfl) λb=>?_;cases b with
 |true=>exact bZ.h rfl
 |false=>
  refine bZ.af rfl (λk s=>?_) λk w g es l i j ⟨c,t,m,o,p,_,q,d⟩=>?_;cases s with
  |none=>exact bZ.h rfl
  |some x=>exact bZ.an rfl
  rcases d with⟨n,d,f⟩|⟨d,f⟩
  rw[f];exact jc i j rfl;rw[f];apply jc (a':=g.frozen? {block:=(br U a).block,off:=m.size}) i j;unfold World.frozen?
  rw[show g.heap[(br U a).block]?=_ from d];simp
def Sj(a:Addr):bZ P U id (do pure ((<-shape a.block) matches some (_,0)):Sem Bool) (do pure ((<-shape (br U a).block) matches some (_,0)):Sem Bool):=by
 refine bZ.af rfl (λg s=>bZ.h rfl) λg w k es i e f ⟨c,t,l,m,n,o,p,b⟩=>?_;rcases b with⟨j,b,d⟩|⟨b,d⟩
 rw[d];exact jc e f rfl;rw[d];apply jc e f;dsimp only[id];split;rename_i q;simp only[aW,Cq]at q;omega;rfl
def Ei(a b:Addr):((br U a).block==(br U b).block)=(a.block==b.block):=by
 show (U.f a.block==U.f b.block)=_;rw[mt,j7,j7,U.e]
def Ef(a b:Addr):(br U a==br U b)=(a==b):=by
 rw[mt,j7,j7];refine⟨λh=>?_,λh=>by rw[h]⟩;let ⟨c,d,e⟩:=a
 let ⟨f,g,i⟩:=b
 simp only[br,kK]at h;rw[U.Gc h.1,h.2.1,h.2.2]
def JI(a b:Addr):bZ P U id (mayBeOne a b) (mayBeOne (br U a) (br U b)):=by
 unfold mayBeOne;refine bZ.e (yc a) λc=>bZ.e (yc b) λd=>?_;exact bZ.e (Sj a) λx=>bZ.e (Sj b) λy=>bZ.h rfl
def AI(a b:Addr):bZ P U id (sameAddr a b) (sameAddr (br U a) (br U b)):=by
 unfold sameAddr;simp only[Ei,Ef];split;exact bZ.h rfl;refine bZ.e (bZ.an rfl) λx=>bZ.e (bZ.an rfl) λy=>?_;simp;split;exact(λ_ _ _ _ _ _=>aE);refine bZ.e (Af a) λ_=>bZ.e (Af b) λ_=>bZ.e (JI a b) λm=>?_;cases m with
 |true=>exact bZ.e bZ.V λn=>bZ.h rfl
 |false=>exact bZ.h rfl
def B0(a b:Option Addr):bZ P U id (samePointer a b) (samePointer (a.map (br U)) (b.map (br U))):=by
 cases a<;>cases b<;>first|exact bZ.h rfl|exact AI _ _
def MG{β:Type}(pb:β->β):ForInStep β->ForInStep β
 |.done b=>.done (pb b)
 |.yield b=>.yield (pb b)
def zS{pb:β->β}{f:α->β->Sem (ForInStep β)}(h:∀x b,bZ P U (MG pb) (f x b) (f' x (pb b))):∀(l:List α) (b:β),bZ P U pb (forIn l b f) (forIn l (pb b) f')
 | [],b=>bZ.h rfl
 |x::l,b=>by
  rw[mL,mL];refine bZ.e (h x b) λs=>?_;cases s with
  |done b=>exact bZ.h rfl
  |yield b=>exact zS h l b
def zR{pb:β->β}{f:α->β->Sem (ForInStep β)}(h:∀x b,bZ P U (MG pb) (f x b) (f' x (pb b)))(l:Array α)(b:β):bZ P U pb (forIn l b f) (forIn l (pb b) f'):=by
 rw[<-mP,<-mP];exact zS h _ _
def zT{pb:β->β}{f f':Nat->β->Sem (ForInStep β)}(h:∀x b,bZ P U (MG pb) (f x b) (f' x (pb b)))(r:Std.Legacy.Range)(b:β):bZ P U pb (forIn r b f) (forIn r (pb b) f'):=by
 rw[zr,zr];exact zS h _ _
def xm(t:Bi):bZ P U id (typeStr t) (typeStr t):=by
 unfold typeStr;refine bZ.e (gB t) λi=>?_;simp;split;exact bZ.H;exact bZ.h rfl
def nO(a:Addr):bZ P U id (byteOf a) (byteOf (br U a)):=by
 unfold byteOf;let ⟨b,o,c⟩:=a
 cases c with
 |some s=>exact bZ.h rfl
 |none=>
  apply bZ.I;refine bZ.e (Af _) λ_=>bZ.af rfl (λd s=>?_) λd w g es f i k _=>aE;cases s with
  |none=>exact bZ.j
  |some x=>
   let ⟨e,m⟩:=x
   simp only[id,br];split;exact bZ.h rfl;generalize byteOfCell P P.depth e (o%P.cellsOf e)=r;cases r with
   |none=>exact bZ.j
   |some b=>exact bZ.h rfl
def Am(a b:Option Nat):(a.map U.f==b.map U.f)=(a==b):=by
 cases a<;>cases b<;>first|rfl|skip
 rename_i x y;show (U.f x==U.f y)=(x==y);rw[mt,j7,j7,U.e]
include C in
def CD:∀(n:Nat) (t:Bi) (x y:Bg),bZ P U id (Op.equalIn n t x y) (Op.equalIn n t (pV U x) (pV U y))
 |0,t,x,y=>bZ.H
 |n+1,t,x,y=>by
  have z:=CD n;unfold Op.equalIn;refine bZ.e (bE t) λd=>?_;simp only[id];cases d with
  |int k=>
   cases x with
   |pointer a=>cases a with
    |some a=>cases y with
     |pointer b=>cases b with
      |some b=>
       refine bZ.e (gm a) λg=>bZ.e (gm b) λJ=>bZ.I ?_;simp only[Ei,Ef];by_cases p:g.1.block<P.globals.size/\¬(br U g.1).block<P.globals.size
       .have A:U.wk=true:=by
         cases A:U.wk with
         |true=>rfl
         |false=>exact absurd (C.h A _ p.1) p.2
        refine bZ.a8 A fun w es=>?_;rw[ax (by simp[p.2])];show ry (((match P.info? t with | some i => pure i | none => stuck "no such type" : Sem TypeInfo).bind _).runT P w es);cases hi:P.info? t with
        |none=>trivial
        |some i=>
         have:=C.o t i;show ry ((match i.desc with | .named "sync.copyChecker" _ => _ | _ => _ : Sem Bool).runT P w es);split;rename_i q;exact absurd q (this _ hi);trivial
       have e:decide ((br U g.1).block<P.globals.size)=decide (g.1.block<P.globals.size):=by
        rw[decide_eq_decide];refine⟨C.s _,λh=>?_⟩;exact cO λq=>p ⟨h,q⟩
       rw[e];split;exact bZ.e (nO _) λu=>bZ.e (nO _) λv=>bZ.h rfl;refine bZ.e (gB t) λi=>?_;simp only[id];split;split;exact bZ.h rfl;exact bZ.H;exact bZ.H
      |none=>exact bZ.H
     |int k m=>rcases m with (_|m)|m<;>first|exact bZ.h rfl|exact bZ.H
     |_=>exact bZ.H
    |none=>cases y<;>exact bZ.H
   |int k m=>cases y with
    |int K L=>
     simp only[pV];split;exact bZ.h rfl;exact bZ.j
    |pointer a=>cases a<;>rcases m with (_|m)|m<;>first|exact bZ.h rfl|exact bZ.H
    |_=>exact bZ.j
   |_=>cases y<;>first|exact bZ.j|exact bZ.H
  |pointer e=>cases x with
   |pointer a=>cases y with
    |pointer b=>
     cases a<;>cases b<;>try exact bZ.h rfl
     refine bZ.e (fL e) λm=>?_;simp only[id,Ef];split;exact AI _ _;split;exact bZ.h rfl;exact bZ.e bZ.V λq=>bZ.h rfl
    |_=>cases a<;>exact bZ.j
   |_=>cases y<;>first|exact bZ.j|(rename_i b;cases b<;>exact Eqv.stuck)
  |unsafePointer=>cases x<;>cases y<;>first|exact bZ.j|exact B0 _ _
  |chan q e=>cases x<;>cases y<;>first|exact bZ.j|(simp only[pV,Am];exact bZ.h rfl)
  |float k=>cases x<;>cases y<;>first|exact bZ.j|(simp only[pV];split<;>first|exact bZ.h rfl|exact bZ.j)
  |complex k=>cases x<;>cases y<;>first|exact bZ.j|(simp only[pV];split<;>first|exact bZ.h rfl|exact bZ.j)
  |bool=>cases x<;>cases y<;>first|exact bZ.j|exact bZ.h rfl
  |string=>cases x<;>cases y<;>first|exact bZ.j|exact bZ.h rfl
  |slice e=>cases x with
   |slice a l c=>cases y with
    |slice b M N=>cases a<;>cases b<;>first|exact bZ.h rfl|exact bZ.j
    |_=>cases a<;>exact bZ.j
   |_=>cases y<;>exact bZ.j
  |map k e=>cases x with
   |map a=>cases y with
    |map b=>cases a<;>cases b<;>first|exact bZ.h rfl|exact bZ.j
    |_=>cases a<;>exact bZ.j
   |_=>cases y<;>exact bZ.j
  |func a b c=>cases x<;>cases y<;>first|exact bZ.j|exact bZ.h rfl
  |interface O=>
   cases x<;>cases y<;>first|exact bZ.j|exact bZ.h rfl|skip
   rename_i B E Q F;simp only[pV];split;exact bZ.h rfl;refine bZ.e (gB B) λi=>?_;simp only[id];split;refine bZ.I (bZ.I ?_);split;exact(λ_ _ _ _ _ _=>aE);exact bZ.e (xm B) λq=>cr C _;exact z B E F
  |struct G=>
   cases x<;>cases y<;>first|exact bZ.j|skip
   rename_i xs D;simp only[pV];refine bZ.I ?_;split;exact(λ_ _ _ _ _ _=>aE);refine bZ.e (zR (pb:=id) (λf b=>?_) G _) λr=>?_;split;refine bZ.e (ly _ xs _) λu=>bZ.e (ly _ D _) λv=>bZ.e (z _ u v) λq=>?_;cases q<;>exact bZ.h rfl;exact bZ.h rfl;obtain⟨r,_⟩:=r;cases r<;>exact bZ.h rfl
  |array l e=>
   cases x<;>cases y<;>first|exact bZ.j|skip
   rename_i xs D;simp only[pV];refine bZ.e (fL e) λm=>?_;refine bZ.e (zT (pb:=id) (λf b=>?_) _ _) λr=>?_;refine bZ.e (ly _ xs _) λu=>bZ.e (ly _ D _) λv=>bZ.e (z _ u v) λq=>?_;cases q<;>exact bZ.h rfl;obtain⟨r,_⟩:=r;cases r<;>exact bZ.h rfl
  |_=>cases x<;>cases y<;>exact bZ.j
include C in
def Eo(t:Bi)(x y:Bg):bZ P U id (Op.equal t x y) (Op.equal t (pV U x) (pV U y)):=CD C _ t x y
include C in
def lU(b:Bool):∀(n:Nat) (t:Bi) (v:Bg),bZ P U id (Instr.checkKey b n t v) (Instr.checkKey b n t (pV U v))
 |0,t,v=>bZ.H
 |n+1,t,v=>by
  have a:=lU b n;unfold Instr.checkKey;refine bZ.e (bE t) λd=>?_;simp only[id];cases d with
  |interface g=>
   cases v<;>first|exact bZ.j|exact bZ.h rfl|skip
   rename_i d x;refine bZ.e (gB d) λi=>?_;simp only[id];split;split;exact bZ.e (pa:=id) (cr C _) λ_=>bZ.e (xm d) λq=>bZ.e (pa:=id) (cr C _) λ_=>a d x;exact bZ.e (xm d) λq=>bZ.e (pa:=id) (cr C _) λ_=>a d x;exact a d x
  |array l e=>
   cases v<;>first|exact bZ.j|skip
   rename_i c;refine bZ.e (zT (pb:=id) (λi b=>?_) _ _) λr=>bZ.h rfl;exact bZ.e (fL e) λm=>bZ.e (ly e c _) λu=>bZ.e (a e u) λ_=>bZ.h rfl
  |struct k=>
   cases v<;>first|exact bZ.j|skip
   rename_i c;refine bZ.e (zR (pb:=id) (λf b=>?_) _ _) λr=>bZ.h rfl;split;exact bZ.e (ly _ c _) λu=>bZ.e (a _ u) λ_=>bZ.h rfl;exact bZ.h rfl
  |_=>cases v<;>exact bZ.h rfl
def pNV(U:Pm)(x:Nat×Value):Nat×Value:=(x.1,pV U x.2)
include C in
def vH(t:Bi)(k:Bg):∀(es:List MapEntry) (i:Nat),bZ P U (Option.map (pNV U)) (Instr.findAsking t k es i) (Instr.findAsking t (pV U k) (es.map (ew U)) i)
 | [],i=>bZ.h rfl
 |e::es,i=>by
  rw[cE,Instr.findAsking,Instr.findAsking];refine bZ.e (Eo C t k e.key) λb=>?_;cases b with
  |true=>exact bZ.h rfl
  |false=>exact vH t k es (i+1)
def OH(d:TypeDesc)(a b:Bg):Instr.sameNow d (pV U a) (pV U b)=Instr.sameNow d a b:=by
 cases d<;>cases a<;>cases b<;>rfl
def CG(d:TypeDesc)(k:Bg):∀(es:List MapEntry) (i:Nat),Instr.findNow d (pV U k) (es.map (ew U)) i=(Instr.findNow d k es i).map (Option.map (pNV U))
 | [],i=>rfl
 |e::es,i=>by
  rw[cE,Instr.findNow,Instr.findNow,show (ew U e).key=pV U e.key from rfl,OH];cases Instr.sameNow d k e.key with
  |none=>rfl
  |some b=>cases b with
   |true=>rfl
   |false=>exact CG d k es (i+1)
include C in
def sY(t:Bi)(k:Bg)(es:List MapEntry):bZ P U (Option.map (pNV U)) (Instr.findKey t k es) (Instr.findKey t (pV U k) (es.map (ew U))):=by
 unfold Instr.findKey;refine bZ.e (bE t) λd=>?_;simp only[id,CG];cases Instr.findNow d k es 0 with
 |none=>exact vH C t k es 0
 |some r=>exact bZ.h rfl
include C in
def Sa(t:Bi)(x i:Bg)(ok:Bool):bZ P U (pV U) (Instr.lookup t x i ok) (Instr.lookup t (pV U x) (pV U i) ok):=by
 unfold Instr.lookup;refine bZ.e (bE t) λd=>?_;cases d<;>first|exact bZ.j|skip
 rename_i b a;simp;cases x<;>first|exact(λ_ _ _ _ _ _=>aE)|skip
 rename_i r;have c:∀es:Array MapEntry,(es.map (ew U)).isEmpty=es.isEmpty:=λes=>by unfold Array.isEmpty;rw[eR]
 have f:∀es:Array MapEntry,(es.map (ew U)).toList=es.toList.map (ew U):=λes=>by simp
 cases r with
 |none=>
  refine bZ.e (pa:=Array.map (ew U)) (bZ.h (by simp)) λes=>?_;rw[c,f];refine bZ.e (lU C _ _ _ _) λ_=>bZ.e (sY C b i es.toList) λr=>?_;cases r with
  |none=>refine bZ.e (ig C a) λz=>?_;cases ok<;>exact bZ.h rfl
  |some r=>cases ok<;>exact bZ.h rfl
 |some r=>
  refine bZ.Z rfl (λo g=>?_) (λ_ _ _ _=>aE);cases o<;>first|exact(λ_ _ _ _ _ _=>aE)|skip
  refine bZ.e (pa:=Array.map (ew U)) (bZ.h rfl) λes=>?_;rw[c,f];refine bZ.e (lU C _ _ _ _) λ_=>bZ.e (sY C b i es.toList) λr=>?_;cases r with
  |none=>refine bZ.e (ig C a) λz=>?_;cases ok<;>exact bZ.h rfl
  |some r=>cases ok<;>exact bZ.h rfl
def CY(a b:Option Addr):(a.map (br U)==b.map (br U))=(a==b):=by
 cases a<;>cases b<;>first|rfl|skip
 rename_i x y;show (br U x==br U y)=(x==y);exact Ef x y
def Zb(n:Nat)(c:∀x y:Bg,Instr.sameBits n (pV U x) (pV U y)=Instr.sameBits n x y):∀a b:List Bg,((qj U a).zip (qj U b)).all (λ(x,y)=>Instr.sameBits n x y)=(a.zip b).all (λ(x,y)=>Instr.sameBits n x y)
 | [],b=>by simp[qj]
 |x::a,[]=>by simp[qj]
 |x::a,y::b=>by
  simp only[qj,List.zip_cons_cons,Co,c,Zb n c a b]
def AJ:∀(n:Nat) (x y:Bg),Instr.sameBits n (pV U x) (pV U y)=Instr.sameBits n x y
 |0,x,y=>by
  cases x<;>cases y<;>first|rfl|(simp only[pV,Instr.sameBits];first|exact CY _ _|exact Am _ _)
 |n+1,x,y=>by
  have c:=AJ n;cases x<;>cases y<;>first|rfl|(simp only[pV,Instr.sameBits];first|exact CY _ _|exact Am _ _|(rw[c])|skip)
  rename_i a b;let ⟨a⟩:=a
  let ⟨b⟩:=b
  have d:∀l:List Bg,(qj U l).length=l.length:=λl=>by rw[yZ,bH]
  simp only[dI,ge,d,Zb n c a b]
def zY(a b:Bg):bZ P U (pV U) (Instr.keyThatStays a b) (Instr.keyThatStays (pV U a) (pV U b)):=by
 unfold Instr.keyThatStays;rw[AJ];split;exact bZ.h rfl;refine bZ.e bZ.V λn=>bZ.h ?_;simp;split<;>rfl
include C in
def W6(t:Bi)(x:Bg)(l h m:Option Bg):bZ P U (pV U) (Instr.slice t x l h m) (Instr.slice t (pV U x) (l.map (pV U)) (h.map (pV U)) (m.map (pV U))):=by
 unfold Instr.slice;refine bZ.e (bE t) λd=>?_;simp;cases d with
 |string=>
  cases x<;>first|exact bZ.j|skip
  rename_i s;simp;split;exact(λ_ _ _ _ _ _=>aE);exact bZ.e (ma C _ _ _ l h none) λr=>bZ.h rfl
 |slice e=>
  cases x<;>first|exact bZ.j|skip
  rename_i a b c;refine bZ.e (ma C _ _ _ l h m) λr=>bZ.e (fL e) λn=>bZ.h ?_;simp only[id,pV];split;rfl;cases a<;>simp[tW]
 |pointer e=>
  refine bZ.e (rM C x) λa=>bZ.e (bE e) λd=>?_;cases d<;>first|exact bZ.j|skip
  rename_i n el;refine bZ.e (ma C _ _ _ l h m) λr=>bZ.e (fL _) λn=>bZ.h ?_;simp only[id,pV];split;rfl;simp[tW]
 |_=>cases x<;>exact bZ.j
include C in
def x8(t:Bi)(m k v:Bg):bZ P U id (Instr.mapUpdate t m k v) (Instr.mapUpdate t (pV U m) (pV U k) (pV U v)):=by
 unfold Instr.mapUpdate;refine bZ.e (bE t) λd=>?_;cases d<;>first|exact bZ.j|skip
 rename_i a c;simp;cases m<;>first|exact bZ.j|skip
 rename_i r;cases r with
 |none=>exact(cr C (pa:=id) _ :)
 |some r=>
  refine bZ.Z rfl (λo g=>?_) (λ_ _ _ _=>aE);cases o<;>first|exact bZ.j|skip
  rename_i es b;have h:(es.map (ew U)).toList=es.toList.map (ew U):=by simp
  refine bZ.e (lU C _ _ _ _) λ_=>?_;show bZ P U id _ _;rw[h];refine bZ.e (sY C a k es.toList) λf=>?_;cases f with
  |none=>
   apply bZ.ac g rfl;simp[ei,ew]
  |some f=>
   let ⟨i,u⟩:=f
   have l:(((es.map (ew U))[i]?).map (·.key)).getD (pV U k)=pV U (((es[i]?).map (·.key)).getD k):=by
    rw[cD];cases es[i]?<;>rfl
   simp only[Option.map,pNV];show bZ P U id (Instr.keyThatStays _ k >>= _) (Instr.keyThatStays ((((es.map (ew U))[i]?).map (·.key)).getD (pV U k)) (pV U k) >>= _);rw[l];refine bZ.e (zY _ k) λq=>bZ.ac g rfl ?_;simp only[ei];congr 1;apply Array.ext;simp;intro j n h;simp only[Array.getElem_map,Array.getElem_modify];split<;>rfl
def Mx(v:Bg):bZ P U id (Builtin.lenOf v) (Builtin.lenOf (pV U v)):=by
 cases v<;>first|exact bZ.j|exact bZ.h rfl
def qz(s n:Nat)(v:Bg):bZ P U (dI U) (Builtin.firstCells s n v) (Builtin.firstCells s n (pV U v)):=by
 cases v<;>first|exact bZ.j|skip
 rename_i b;apply bZ.h;rw[dR,lZ];rfl;rename_i a _ _;cases a with
 |none=>exact bZ.h rfl
 |some a=>exact rT a _
def yf(a:Array Bg)(n:Nat):dI U (Builtin.zeroCells a n)=Builtin.zeroCells (dI U a) n:=by
 unfold Builtin.zeroCells;rw[dR,dR,lZ,eR];congr 1
 funext i;show pV U (a[i%a.size]!)=(a.map (pV U))[i%a.size]!;rw[getElem!_def,getElem!_def,cD];cases a[i%a.size]?<;>rfl
def wU(n:Nat):bZ P U id (askRoom n) (askRoom n):=by
 unfold askRoom;split;exact bZ.aw rfl;exact bZ.h rfl
def vD(a b:Array Bg):dI U (a++b)=dI U a++dI U b:=by
 simp[dR]
def ry.j(h:∃a w1 b,s.runT P w es=(.ok a w1,b))(k:∀a w1 b,ry ((f a).runT P w1 b)):ry ((s >>= f).runT P w es):=by
 let ⟨a,w1,b,h⟩:=h
 show ry ((s.bind f).runT P w es);rw[fU,h];exact k _ _ _
def yW(h:∃a w1 d,s.runT P w es=(.ok a w1,d))(k:∀a w1 d,∃b w2 c,(f a).runT P w1 d=(.ok b w2,c)):∃b w2 c,(s >>= f).runT P w es=(.ok b w2,c):=by
 obtain⟨a,w1,d,h⟩:=h;show ∃b w2 c,(s.bind f).runT P w es=(.ok b w2,c);rw[fU,h];exact k _ _ _
def Gu(a:Addr)(n:Nat)(w:A1)(es:Array Event):∃b w1 c,(Builtin.holdsCells a n).runT P w es=(.ok b w1,c):=by
 unfold Builtin.holdsCells;refine yW ⟨_,_,_,rfl⟩ λs w1 c=>?_;cases s<;>exact⟨_,_,_,rfl⟩
def GC(s l n:Nat)(b:Option Addr)(x:Bg)(w:A1)(es:Array Event):∃r w1 d,(Builtin.mayShare s l n b x).runT P w es=(.ok r w1,d):=by
 unfold Builtin.mayShare;have e:∀w es,∃r w1 d,(match x with|.slice (some c) _ _=>do pure (!(<-Builtin.holdsCells c (n*s))||b.any (·.block==c.block))|_=>pure false:Sem Bool).runT P w es=(.ok r w1,d):=by
  intro w es;cases x<;>first|exact⟨_,_,_,rfl⟩|skip
  rename_i c _ _;cases c with
  |none=>exact⟨_,_,_,rfl⟩
  |some c=>exact yW (Gu _ _ _ _) λ_ _ _=>⟨_,_,_,rfl⟩
 cases b with
 |none=>exact e _ _
 |some a=>
  refine yW (Gu _ _ _ _) λp w1 d=>yW ⟨_,_,_,rfl⟩ λq w2 f=>?_;cases p<;>cases q<;>first|exact⟨_,_,_,rfl⟩|exact e _ _
theorem pb(a:α)(f:α->Sem β):((Pure.pure a:Sem α) >>= f)=f a:=rfl
def MO(h:P.underlying t=some d)(k:TypeDesc->Sem β)(w:A1)(es:Array Event):(underlying t >>= k).runT P w es=(k d).runT P w es:=by
 show ((match P.underlying t with | some d => (Sem.pure d : Sem TypeDesc) | none => Go.stuck "no such type").bind k).runT P w es = _;rw[h];rfl
def bZ.ah{pb:β->β}(h:P.underlying t=some d){k b:TypeDesc->Sem β}(H:bZ P U pb (k d) (b d)):bZ P U pb (underlying t >>= k) (underlying t >>= b):=λw c es a e f=>by
 rw[MO h,MO h];exact H w c es a e f
def bZ.ai{pb:β->β}(m:String){f':α->Sem β}:bZ P U pb ((runtimePanic (.error m):Sem α) >>= f) ((runtimePanic (.error m):Sem α) >>= f'):=
 λ_ b _ a c d _=>.inr ⟨b,a,rfl,d,ll.e c⟩
def ry.h(h:ry (s.runT P w es)):ry ((s >>= f).runT P w es):=by
 show ry ((s.bind f).runT P w es);rw[fU];exact ry.e h
def JK(P:Program)(b:Array TypeId):Prop:=∃a d,b[1]?=some a/\P.underlying a=some d/\∀k,d≠.int k
include C in
def RF(p:Array Bi)(t:Bi)(args:Array Bg)(u:JK P p):bZ P U (pV U) (Builtin.append_ p t args) (Builtin.append_ p t (dI U args)):=by
 obtain⟨E,d,v,y,A⟩:=u;have hd:(match d with|.int _=>true|_=>false)=false:=by cases d<;>first|rfl|exact absurd rfl (A _)
 unfold Builtin.append_;rw[lr,lr,v];cases p[0]? with
 |none=>exact bZ.j
 |some m=>cases args[0]? with
  |none=>exact bZ.j
  |some s=>cases args[1]? with
   |none=>exact bZ.j
   |some x=>
    simp only[Option.map];refine bZ.e (bE m) λd1=>?_;cases d1<;>first|exact bZ.j|skip
    rename_i c;cases s<;>first|exact bZ.j|skip
    rename_i k f o;simp only[pV,id];refine bZ.e (fL c) λg=>bZ.ah y ?_;simp only[id,hd,pb,eL,mj,Bool.not_false,dC,false_or];refine bZ.e (Mx x) λn=>?_;simp only[id];have l:bZ P U (dI U) (Builtin.firstCells g n x) (Builtin.firstCells g n (pV U x)):=qz _ _ _;split;refine bZ.e l λnew=>?_;cases k with
    |none=>exact bZ.h rfl
    |some a=>
     refine bZ.e (pa:=id) ?_ λ_=>bZ.h rfl;have:=jV (P:=P) (U:=U) (a.add (f*g)) new.toList 0;rw[tW]at this;simpa only [dR,yZ,Array.toList_map] using this
    refine bZ.e (gB c) λF=>?_;simp only[id];split;exact bZ.ai _;refine bZ.e (gB c) λi=>?_;simp only[id];split;refine bZ.aU λw es=>?_;refine ry.h (ry.j (GC _ _ _ _ _ _ _) λb w1 B=>?_);cases b<;>trivial;refine bZ.e bZ.V λD=>bZ.e (gB c) λi=>bZ.e (wU _) λ_=>bZ.e (qz g f (.slice k f o)) λq=>bZ.e l λnew=>bZ.e (ig C c) λz=>?_;refine bZ.e (pa:=br U) ?_ λr=>bZ.h rfl;have:=pL (P:=P) (U:=U) c (q++new++Builtin.zeroCells z.cells (D-(f+n)));rw[vD,vD,yf,<-lq]at this;exact this
def MM(w:A1):w.sys .env=(.strings w.os.env,w):=by
 unfold World.sys;have:Kernel.perform .env w.os=.done (.strings w.os.env,w.os):=rfl;rw[this];rfl
def bZ.a6:bZ P U id (Go.sys .env) (Go.sys .env):=by
 intro w a es b c d;show zw U id w a (Result.ok (w.sys .env).1 (w.sys .env).2,es.push ⟨.output,true,false⟩) (Result.ok (a.sys .env).1 (a.sys .env).2,b.push ⟨.output,true,false⟩);rw[MM,MM,c.j];exactλ_=>.inr ⟨a,_,rfl,d.e ⟨.output,true,false⟩,ll.e c⟩
def JQ:bZ P U id Instr.panicnil Instr.panicnil:=by
 unfold Instr.panicnil;refine bZ.e bZ.a6 λr=>?_;cases r<;>first|exact bZ.j|exact bZ.I (bZ.h rfl)
include C in
def WQ(x:Bg):bZ P U (pV U) (Instr.panic x) (Instr.panic (pV U x)):=by
 unfold Instr.panic;cases x<;>first|exact bZ.j|exact bZ.ag rfl|skip
 refine bZ.e JQ λn=>?_;simp;split;exact bZ.ag rfl;exact cr C _
def acd(a:Array Bi)(t:Bi)(args:Array Bg):bZ P U (pV U) (Builtin.len_ a t args) (Builtin.len_ a t (dI U args)):=by
 unfold Builtin.len_;rw[lr];cases a[0]? with
 |none=>exact bZ.j
 |some b=>cases args[0]? with
  |none=>exact bZ.j
  |some x=>
   refine bZ.e (bE b) λd=>?_;simp;cases d with
   |pointer e=>
    refine bZ.e (bE e) λd=>?_;cases d<;>first|exact bZ.j|exact bZ.h rfl
   |map k e=>
    cases x<;>first|exact bZ.j|skip
    rename_i r;cases r with
    |none=>exact bZ.h rfl
    |some r=>
     refine bZ.Z rfl (λo c=>?_) (λ_ _ _ _=>aE);cases o<;>first|exact bZ.j|exact bZ.h (by simp[pV,goInt])
   |chan k e=>
    cases x<;>first|exact bZ.j|skip
    rename_i r;cases r with
    |none=>exact bZ.h rfl
    |some r=>
     refine bZ.Z rfl (λo c=>?_) (λ_ _ _ _=>aE);cases o<;>first|exact bZ.j|exact bZ.h (by simp[pV,goInt,pc])
   |_=>cases x<;>first|exact bZ.j|exact bZ.h rfl
def aca(a:Array Bi)(t:Bi)(args:Array Bg):bZ P U (pV U) (Builtin.cap_ a t args) (Builtin.cap_ a t (dI U args)):=by
 unfold Builtin.cap_;rw[lr];cases a[0]? with
 |none=>exact bZ.j
 |some b=>cases args[0]? with
  |none=>exact bZ.j
  |some x=>
   refine bZ.e (bE b) λd=>?_;simp;cases d with
   |pointer e=>
    refine bZ.e (bE e) λd=>?_;cases d<;>first|exact bZ.j|exact bZ.h rfl
   |chan k e=>
    cases x<;>first|exact bZ.j|skip
    rename_i r;cases r with
    |none=>exact bZ.h rfl
    |some r=>
     refine bZ.Z rfl (λo c=>?_) (λ_ _ _ _=>aE);cases o<;>first|exact bZ.j|exact bZ.h (by simp[pV,goInt])
   |_=>cases x<;>first|exact bZ.j|exact bZ.h rfl
def sq(a:Array Bg):(dI U a).toList=qj U a.toList:=by cases a;rfl
include C in
def V8(b:Array Bi)(t:Bi)(args:Array Bg):bZ P U (pV U) (Builtin.clear_ b t args) (Builtin.clear_ b t (dI U args)):=by
 unfold Builtin.clear_;rw[lr];cases b[0]? with
 |none=>exact bZ.j
 |some c=>cases args[0]? with
  |none=>exact bZ.j
  |some x=>
   refine bZ.e (bE c) λd=>?_;simp;cases x<;>first|(cases d<;>exact bZ.ae)|skip
   .rename_i a n g;cases a with
    |none=>exact bZ.h rfl
    |some a=>
     cases n with
     |zero=>exact bZ.h rfl
     |succ n=>
      cases d<;>first|exact bZ.ae|skip
      refine bZ.e (ig C _) λz=>bZ.e (pa:=id) ?_ λ_=>bZ.h rfl;have:=jV (P:=P) (U:=U) a (Builtin.zeroCells z.cells (n+1)).toList 0;rw[<-sq,yf,<-lq]at this;exact this
   rename_i r;cases r with
   |none=>exact bZ.h rfl
   |some r=>
    cases d<;>(refine bZ.Z rfl (λo f=>?_) (λ_ _ _ _=>aE);cases o<;>first|exactλ_ _ _ _ _ _=>aE|exact bZ.e (bZ.ac f rfl (by simp[ei])) λ_=>bZ.h rfl)
def ZW(b:Array Bi)(t:Bi)(args:Array Bg):bZ P U (pV U) (Builtin.copy_ b t args) (Builtin.copy_ b t (dI U args)):=by
 unfold Builtin.copy_;rw[lr,lr];cases b[0]? with
 |none=>exact bZ.j
 |some c=>cases args[0]? with
  |none=>exact bZ.j
  |some x=>cases args[1]? with
   |none=>exact bZ.j
   |some y=>
    refine bZ.e (bE c) λd=>?_;simp;cases d<;>first|exact bZ.j|skip
    cases x<;>first|exact bZ.j|skip
    rename_i e a n g;refine bZ.e (Mx y) λm=>bZ.e (fL e) λi=>bZ.e (qz _ _ y) λf=>?_;cases a with
    |none=>exact bZ.h rfl
    |some a=>
     refine bZ.e (pa:=id) ?_ λ_=>bZ.h rfl;have:=jV (P:=P) (U:=U) a f.toList 0;rw[<-sq]at this;exact this
def CE(f:α->β):∀(l:List α) (i:Nat),(l.eraseIdx i).map f=(l.map f).eraseIdx i
 | [],i=>by simp
 |a::l,0=>by simp
 |a::l,i+1=>by simp[CE f l i]
include C in
def RO(b:Array Bi)(t:Bi)(args:Array Bg):bZ P U (pV U) (Builtin.delete_ b t args) (Builtin.delete_ b t (dI U args)):=by
 unfold Builtin.delete_;rw[lr,lr];cases b[0]? with
 |none=>exact bZ.j
 |some i=>cases args[0]? with
  |none=>exact bZ.j
  |some x=>cases args[1]? with
   |none=>exact bZ.j
   |some y=>
    refine bZ.e (bE i) λd=>?_;simp;cases d<;>first|exact bZ.j|skip
    rename_i k et;cases x<;>first|exact bZ.ae|skip
    rename_i r;cases r with
    |none=>exact bZ.e (lU C _ _ _ _) λ_=>bZ.h rfl
    |some r=>
     refine bZ.Z rfl (λo g=>?_) (λ_ _ _ _=>aE);cases o<;>first|exactλ_ _ _ _ _ _=>aE|skip
     rename_i es c;have l:(es.map (ew U)).isEmpty=es.isEmpty:=by unfold Array.isEmpty;rw[eR]
     have m:(es.map (ew U)).toList=es.toList.map (ew U):=by simp
     simp only[ei,l,m];refine bZ.e (lU C _ _ _ _) λ_=>bZ.e (sY C k y es.toList) λf=>?_;cases f with
     |none=>exact bZ.e (bZ.ac g rfl (by simp[ei])) λ_=>bZ.h rfl
     |some f=>
      refine bZ.e (bZ.ac g rfl ?_) λ_=>bZ.h rfl;simp only[ei,pNV];congr 1;rw[NF,NF];by_cases a:f.1<es.size;rw[dif_pos a,dif_pos (by simpa using a)];apply wN;simp[CE];rw[dif_neg a,dif_neg (by simpa using a)]
def aah(x y:Bg):bZ P U (pV U) (Builtin.max2 x y) (Builtin.max2 (pV U x) (pV U y)):=by
 unfold Builtin.max2;cases x with
 |int k n=>cases y<;>first|exact bZ.h rfl|exact bZ.j|(rename_i a;cases a<;>first|exact bZ.H|exact bZ.j)
 |float k n=>cases y with
  |float c m=>
   simp only[pV];split<;>first|exact bZ.h rfl|exact bZ.e bZ.V λ_=>bZ.h rfl
  |pointer a=>cases a<;>first|exact bZ.H|exact bZ.j
  |_=>exact bZ.j
 |string s=>cases y with
  |string u=>exact bZ.e (pa:=pV U) (bZ.h rfl) λv=>bZ.e (zD v) λb=>bZ.h (by simp only[id,pV])
  |pointer a=>cases a<;>first|exact bZ.H|exact bZ.j
  |_=>exact bZ.j
 |pointer a=>cases a with
  |some a=>cases y<;>exact bZ.H
  |none=>cases y<;>first|exact bZ.j|(rename_i b;cases b<;>first|exact bZ.H|exact bZ.j)
 |_=>cases y<;>first|exact bZ.j|(rename_i b;cases b<;>first|exact bZ.H|exact bZ.j)
def CJ:∀(l:List Bg) (x:Bg),bZ P U (pV U) (l.foldlM Builtin.max2 x) ((qj U l).foldlM Builtin.max2 (pV U x))
 | [],x=>bZ.h rfl
 |y::l,x=>by
  rw[qj,oT,oT];exact bZ.e (aah x y) λz=>CJ l z
def ach(a:Array Bi)(t:Bi)(args:Array Bg):bZ P U (pV U) (Builtin.max_ a t args) (Builtin.max_ a t (dI U args)):=by
 unfold Builtin.max_;rw[sq];cases args.toList with
 |nil=>exact bZ.j
 |cons x l=>exact CJ l x
def aai(x y:Bg):bZ P U (pV U) (Builtin.min2 x y) (Builtin.min2 (pV U x) (pV U y)):=by
 unfold Builtin.min2;cases x with
 |int k n=>cases y<;>first|exact bZ.h rfl|exact bZ.j|(rename_i a;cases a<;>first|exact bZ.H|exact bZ.j)
 |float k n=>cases y with
  |float c m=>
   simp only[pV];split<;>first|exact bZ.h rfl|exact bZ.e bZ.V λ_=>bZ.h rfl
  |pointer a=>cases a<;>first|exact bZ.H|exact bZ.j
  |_=>exact bZ.j
 |string s=>cases y with
  |string u=>exact bZ.e (pa:=pV U) (bZ.h rfl) λv=>bZ.e (zD v) λb=>bZ.h (by simp only[id,pV])
  |pointer a=>cases a<;>first|exact bZ.H|exact bZ.j
  |_=>exact bZ.j
 |pointer a=>cases a with
  |some a=>cases y<;>exact bZ.H
  |none=>cases y<;>first|exact bZ.j|(rename_i b;cases b<;>first|exact bZ.H|exact bZ.j)
 |_=>cases y<;>first|exact bZ.j|(rename_i b;cases b<;>first|exact bZ.H|exact bZ.j)
def CK:∀(l:List Bg) (x:Bg),bZ P U (pV U) (l.foldlM Builtin.min2 x) ((qj U l).foldlM Builtin.min2 (pV U x))
 | [],x=>bZ.h rfl
 |y::l,x=>by
  rw[qj,oT,oT];exact bZ.e (aai x y) λz=>CK l z
def aci(a:Array Bi)(t:Bi)(args:Array Bg):bZ P U (pV U) (Builtin.min_ a t args) (Builtin.min_ a t (dI U args)):=by
 unfold Builtin.min_;rw[sq];cases args.toList with
 |nil=>exact bZ.j
 |cons x l=>exact CK l x
def x7(a:Addr):∀(n:Nat) (b:Bh),bZ P U id (loadBytes a b n) (loadBytes (br U a) b n)
 |0,b=>bZ.h rfl
 |n+1,b=>by
  unfold loadBytes;refine bZ.e (bZ.ao rfl) λv=>?_;cases v<;>first|exact bZ.j|skip
  rename_i k m;cases k<;>first|exact bZ.j|skip
  have:=x7 (a.add 1) n (b.push m.toNat.toUInt8);rw[tW]at this;exact this
def ub{pb:β->β}(a:Addr)(u:Bi)(n:Nat){k g:Bool->Sem β}(i:U.X a.block=false->∀b,bZ P U pb (k b) (g b))(j:U.X a.block=true->∀b w w' es d,ur U w w'->zu U es d->w.shape? a.block=none->zw U pb w w' ((k false).runT P w es) ((g b).runT P w' d)):bZ P U pb (variablesAt a u n >>= k) (variablesAt (br U a) u n >>= g):=by
 unfold variablesAt;show bZ P U pb ((Go.shape a.block >>= λs=>match s with|some (e,cells)=>pure (liesAt P P.depth e (cells/P.cellsOf e) a.off u n)|none=>pure false:Sem Bool) >>= k) ((Go.shape (U.f a.block) >>= λs=>match s with|some (e,cells)=>pure (liesAt P P.depth e (cells/P.cellsOf e) a.off u n)|none=>pure false:Sem Bool) >>= g);have e:∀(r:Nat) (k:Bool->Sem β),((Go.shape r >>= λs=>match s with|some (e,cells)=>pure (liesAt P P.depth e (cells/P.cellsOf e) a.off u n)|none=>pure false:Sem Bool) >>= k)=(Go.shape r >>= λs=>k (match s with|some (e,cells)=>liesAt P P.depth e (cells/P.cellsOf e) a.off u n|none=>false)):=by
  intro r k;show Sem.shape r _=Sem.shape r _;congr 1
  funext s;cases s<;>rfl
 rw[e,e];refine bZ.af rfl (λh s=>i h _) λh w w' es d l m ⟨c,t,p,q,o,_⟩=>j h _ w w' es d l m ?_;unfold World.shape?
 rw[o]
include C in
def AT(c:Array Bi)(t:Bi)(args:Array Bg):bZ P U (pV U) (Builtin.unsafeString_ c t args) (Builtin.unsafeString_ c t (dI U args)):=by
 let ⟨l⟩:=args
 rcases l with _|⟨x,_|⟨y,_|⟨z,l⟩⟩⟩
 exactλ_ _ _ _ _ _=>aE;exactλ_ _ _ _ _ _=>aE
 .simp only[dI,qj];cases x<;>first|exactλ_ _ _ _ _ _=>aE|skip
  rename_i p;show bZ P U (pV U) (asInt y >>= λn=>_) (asInt (pV U y) >>= λn=>_);refine bZ.e (sV y) λn=>?_;simp;cases c[0]? with
  |none=>exact bZ.j
  |some d=>
   dsimp only;split;exact bZ.ai _;split;exact bZ.O;cases p with
   |none=>
    simp;split;exact bZ.h rfl;exact cr C _
   |some a=>
    simp;split;exact bZ.h rfl;refine bZ.e (rO d) λe=>ub a e n.toNat (λf b=>?_) λ_ _ _ _ _ _ _ _ _=>aE;cases b with
    |false=>exact bZ.H
    |true=>exact bZ.e (x7 a _ _) λs=>bZ.e (bZ.aq f rfl) λ_=>bZ.h rfl
 simp only[dI,qj];exactλ_ _ _ _ _ _=>aE
def vY(b:Array Bi)(t:Bi)(args:Array Bg):bZ P U (pV U) (Builtin.unsafeSliceData_ b t args) (Builtin.unsafeSliceData_ b t (dI U args)):=by
 obtain⟨l⟩:=args;rcases l with _|⟨x,_|⟨y,l⟩⟩
 exactλ_ _ _ _ _ _=>aE
 .simp only[dI,qj];cases x<;>first|exactλ_ _ _ _ _ _=>aE|skip
  rename_i a n c;cases a with
  |none=>exact bZ.h rfl
  |some a=>
   show bZ P U (pV U) (if c≠0 then pure (.pointer (some a)) else _) (if c≠0 then pure (.pointer (some (br U a))) else _);split;exact bZ.h rfl;refine bZ.e (vZ a.block) λv=>?_;cases v with
   |some v=>exact bZ.h rfl
   |none=>exact bZ.e (rO t) λe=>bZ.e (bZ.ab rfl) λr=>bZ.h rfl
 simp only[dI,qj];exactλ_ _ _ _ _ _=>aE
end Go.Eqv
