/- Parts of the proof. -/
import Derived.Test.YtbebfliimjjohabGreatDoorM03
set_option maxRecDepth 100000
set_option maxHeartbeats 8000000
set_option linter.all false
open Go.Extern Go.Extern.Rtype
namespace Go.Eqv
variable{fn:Fn}{U ρ:Pm}{P:Bo}{α β:Type}{s:Sem α}{f:α->Sem β}{pa:α->α}
def vz{α:Type}(P:Program)(s:Sem α)(Q:α->Prop):Prop:=∀w c a w1 b,s.runT P w c=(.ok a w1,b)->Q a
section
variable(C:gi P U)
def vz.e{Q:β->Prop}(k:∀a,vz P (f a) Q):vz P (s >>= f) Q:=by
 intro w c b w1 d h;replace h:(s.bind f).runT P w c=_:=h;rw[fU]at h;cases hx:s.runT P w c with
 |mk r g=>
  rw[hx]at h;cases r with
  |ok a w2=>exact k a _ _ _ _ _ h
  |halt i w2=>cases h
def vz.j{a:α}{Q:α->Prop}(h:Q a):vz P (Pure.pure a) Q:=λ_ _ _ _ _ e=>by cases e;exact h
def vz.h{h:Halt}{Q:α->Prop}:vz P (.halt h) Q:=λ_ _ _ _ _ e=>by cases e
def bZ.ap{pb:β->β}{s':Sem α}{f':α->Sem β}{Q:α->Prop}(h:bZ P U pa s s')(l:vz P s Q)(k:∀a,Q a->bZ P U pb (f a) (f' (pa a))):bZ P U pb (s >>= f) (s' >>= f'):=
 λw m n d o p=>zw.e (h w m n d o p) λa w1 g i b c _ j q=>k a (l _ _ _ _ _ c) w1 g i b q.h j
include C in
def CV:∀(n:Nat) (t:Bi) (v:Bg) (a:String),U.xT a=true->vz P (method n t v a) λy=>U.zx y.1=true
 |0,t,v,a,b=>vz.h
 |n+1,t,v,a,b=>by
  unfold method typeInfo;show vz P ((do match P.info? t with | some i => pure i | none => stuck "no such type") >>= _) _;cases hi:P.info? t with
  |none=>exactλ_ _ _ _ _ e=>by cases e
  |some i=>
   show vz P (match i.methods.find? (·.name==a) with|some m=>_|_=>_) _;cases hm:i.methods.find? (·.name==a) with
   |none=>exact vz.h
   |some m=>
    refine vz.e λy=>?_;cases hf:m.func with
    |none=>
     refine vz.e λu=>?_;cases u<;>first|exact vz.h|exact CV n _ _ a b|exact vz.e λ_=>vz.h
    |some f=>
     refine vz.e λu=>vz.j ?_;have c:m.name=a:=by
      have:=Array.find?_some hm;simpa using this
     exact C.j t i m f.1 f.2 hi (Rf hm) hf (by rw[c];exact b)
def rL (P : Program) (U : Pm) : Prop := ∀ f fn, P.funcs[f]? = some fn → U.zx f = true → (fn.name == "runtime.NumGoroutine") = false ∧ (fn.body = none → ∀ a, bZ P U (cV U) (callFunc f a) (callFunc f (dI U a)))
def Ou(U:Pm):Fn->Bool
 |.func f=>U.zx f
 |.via _ _ f _=>U.zx f
 |.method n=>U.xT n
 |.methodOf _ n=>U.xT n
 |.yield _=>true
def lx{f:Nat}(h:U.zx f=true):pM U f=f:=by simp[pM,h]
variable(E:rL P U)
include E in
def ut(f:FuncId)(args:Array Bg)(h:U.zx f=true):bZ P U (cV U) (callFunc f args) (callFunc f (dI U args)):=by
 cases hf:P.funcs[f]? with
 |none=>
  have : ∀ a, (callFunc f a : Sem Next) = (Go.program >>= fun p => match p.funcs[f]? with | none => stuck "call: no such function" | some fn => _) := fun _ => rfl;refine bZ.aU fun w b=>?_;show ry ((match P.funcs[f]? with | none => stuck "call: no such function" | some fn => _ : Sem Next).runT P w b);rw[hf];trivial
 |some fn=>
  cases hb:fn.body with
  |none=>exact(E f fn hf h).2 hb args
  |some c=>
   have run:∀a w b,(callFunc f a).runT P w b=(.ok (.enter f a) w,b):=by
    intro a w b;show ((match P.funcs[f]? with | none => stuck "call: no such function" | some fn => _ : Sem Next).runT P w b) = _;rw[hf];show (if fn.name == "runtime.NumGoroutine" then (pure .numGoroutine : Sem Next) else if fn.body.isNone = true then _ else pure (.enter f a)).runT P w b = _;rw[hb,((E f fn hf h).1)];rfl
   intro w i b d e g;rw[run,run];exact jc e g (by simp[cV,lx h])
include C E in
def qu(recv:Bg)(a:String)(args:Array Bg)(h:U.xT a=true):bZ P U (cV U) (callMethod recv a args) (callMethod (pV U recv) a (dI U args)):=by
 unfold callMethod;cases recv<;>first|exact bZ.j|exact cr C _|skip
 rename_i t v;apply bZ.I;refine bZ.ap (GE C _ t v a h) (CV C _ t v a h) λy b=>?_;have:=ut E y.1 (#[y.2]++args) b;rw[vD]at this;simp only[lx b];exact this
def Oc(l:List (Nat×Bg))(a:Array Bg):(l.map λx=>(x.1,pV U x.2)).foldl (λa (x:Nat×Bg)=>a.setIfInBounds x.1 x.2) (dI U a)=dI U (l.foldl (λa (x:Nat×Bg)=>a.setIfInBounds x.1 x.2) a):=by
 induction l generalizing a with
 |nil=>rfl
 |cons x l b=>simp;rw[za,b]
def pF{pb:β->β}(l:Nat){k a:Loop->Sem β}(h:∀r,U.X l=false->bZ P U pb (k r) (a (pP U r))):bZ P U pb (Instr.getLoop l >>= k) (Instr.getLoop (U.f l) >>= a):=by
 have e : ∀ (l : Nat) (k : Loop → Sem β), (Instr.getLoop l >>= k) = (Go.getObj l >>= fun o => match o with | .loop r => k r | _ => stuck "range over a function: no such loop") := by
  intro l k;unfold Instr.getLoop;show Sem.getObj l _=Sem.getObj l _;congr 1
  funext o;cases o<;>rfl
 rw[e,e];refine bZ.Z rfl (λo b=>?_) (λ_ _ _ _=>aE);cases o<;>first|exactλ_ _ _ _ _ _=>aE|exact h _ b
def Xi(l:Nat)(args:Array Bg):bZ P U (cV U) (Instr.yield l args) (Instr.yield (U.f l) (dI U args)):=by
 unfold Instr.yield;refine pF l λr a=>?_;show bZ P U (cV U) (if args.size≠r.params.size then _ else _) (if (dI U args).size≠r.params.size then _ else _);rw[pc];split;exact bZ.ae;apply bZ.h;simp only[cV,pP];congr 1;rw[<-mO,<-mO,<-Oc];congr 1;simp[dR,List.zip_map_right]
def okB(P:Program)(b:Builtin)(a:Array TypeId):Prop:=
 match b with
 |.append=>JK P a
 |.cap|.clear|.copy|.delete|.len|.max|.min|.recover|.unsafeSliceData|.unsafeString=>True
 |_=>False
include C in
def NR(b:Builtin)(a:Array Bi)(t:Bi)(cs:Array Bool)(args:Array Bg)(h:okB P b a):bZ P U (cV U) (builtin b a t cs args) (builtin b a t cs (dI U args)):=by
 have c:∀s d:Sem Bg,bZ P U (pV U) s d->bZ P U (cV U) (do pure (.value (<-s))) (do pure (.value (<-d))):=λs d h=>bZ.e h λv=>bZ.h rfl;cases b<;>first|exact h.elim|skip
 exact c _ _ (RF C a t args h);exact c _ _ (aca a t args);exact c _ _ (V8 C a t args);exact c _ _ (ZW a t args);exact c _ _ (RO C a t args);exact c _ _ (acd a t args);exact c _ _ (ach a t args);exact c _ _ (aci a t args);exact bZ.h rfl;exact c _ _ (vY a t args);exact c _ _ (AT C a t args)
def rP(args:Array Bg)(i j:Nat):dI U (args.extract i j)=(dI U args).extract i j:=by
 simp[dR]
include C E in
def uw(fn:Fn)(a args:Array Bg)(h:Ou U fn=true):bZ P U (cV U) (invoke (.fn fn a) args) (invoke (.fn (oZ U fn) (dI U a)) (dI U args)):=by
 cases fn with
 |func f=>
  have:=ut E f (args++a) h;rw[vD]at this;simp only[oZ,lx h];exact this
 |method b=>
  replace h:U.xT b=true:=h;simp only[oZ,h,dC];show bZ P U (cV U) (match args[0]? with|some recv=>_|_=>_) (match (dI U args)[0]? with|some recv=>_|_=>_);rw[lr];cases args[0]? with
  |none=>exact bZ.j
  |some r=>
   have:=qu C E r b (args.extract 1 args.size) h;rw[rP]at this;simp only[Option.map,pc];exact this
 |methodOf t b=>
  replace h:U.xT b=true:=h;simp only[oZ,h,dC];show bZ P U (cV U) (match args[0]? with|some recv=>_|_=>_) (match (dI U args)[0]? with|some recv=>_|_=>_);rw[lr];cases args[0]? with
  |none=>exact bZ.j
  |some r=>
   simp only[Option.map,pc];refine bZ.e (bE t) λd=>?_;have g:=qu C E r b (args.extract 1 args.size) h;have i:=qu C E (.iface t r) b (args.extract 1 args.size) h;rw[rP]at g i;cases d<;>first|exact g|exact i
 |via t c f p=>
  replace h:U.zx f=true:=h;simp only[oZ,lx h];show bZ P U (cV U) (match args[0]? with|some recv=>_|_=>_) (match (dI U args)[0]? with|some recv=>_|_=>_);rw[lr];cases args[0]? with
  |none=>exact bZ.j
  |some r=>
   simp only[Option.map,pc];refine bZ.e (BZ C t r c p) λv=>?_;have:=ut E f (#[v]++args.extract 1 args.size) h;rw[vD,rP]at this;exact this
 |yield l=>exact Xi l args
end
section
variable(C:gi P U)(E:rL P U)
def pEx(U:Pm):Except (Option Bool) (TypeId×Option Value)->Except (Option Bool) (TypeId×Option Value)
 |.ok x=>.ok (x.1,x.2.map (pV U))
 |.error e=>.error e
def l6:∀(l:List FieldStep) (t:Bi) (x:Option Bg),bZ P U (pEx U) (followBlind l t x) (followBlind l t (x.map (pV U)))
 | [],t,x=>bZ.h rfl
 |s::l,t,x=>by
  unfold followBlind;refine bZ.e (bE s.struct) λd=>?_;cases d<;>first|exact bZ.j|skip
  rename_i b;simp;cases b[s.index]? with
  |none=>exact bZ.j
  |some f=>

   cases s.deref with
   |true=>cases x with
    |none=>exact bZ.h rfl
    |some v=>cases v with
     |pointer a=>cases a with
      |none=>exact bZ.h rfl
      |some a=>exact l6 l f.type none
     |_=>exact bZ.j
   |false=>cases x with
    |none=>exact l6 l f.type none
    |some v=>cases v with
     |agg c=>exact bZ.e (ly f.type c f.offset) λv=>l6 l f.type (some v)
     |_=>exact bZ.j
def Ae:∀(n:Nat) (t:Bi) (v:Bg) (c:String),bZ P U id (nilAhead n t v c) (nilAhead n t (pV U v) c)
 |0,t,v,c=>bZ.h rfl
 |n+1,t,v,c=>by
  unfold nilAhead;refine bZ.e (gB t) λi=>?_;simp;cases i.methods.find? (·.name==c) with
  |none=>exact bZ.j
  |some m=>
   refine bZ.e (l6 m.path.toList t (some v)) λr=>?_;cases r with
   |error e=>exact bZ.h rfl
   |ok y=>
    let ⟨g,x⟩:=y
    simp;cases m.func with
    |none=>cases x with
     |none=>exact bZ.h rfl
     |some u=>cases u with
      |iface k l=>exact Ae n k l c
      |nilIface=>exact bZ.h rfl
      |_=>exact bZ.j
    |some f=>
     let ⟨f,b⟩:=f
     cases b with
     |true=>exact bZ.h rfl
     |false=>
      refine bZ.e (bE g) λd=>?_;cases d with
      |pointer e=>cases x with
       |none=>exact bZ.h rfl
       |some u=>cases u with
        |pointer a=>cases a<;>exact bZ.h rfl
        |_=>exact bZ.h rfl
      |_=>cases x<;>exact bZ.h rfl
def abX(P:Program)(U:Pm):Op->Prop
 |.move _|.assign _|.pick ..|.alloc _|.box ..|.build ..|.buildSlice ..|.load ..|.store ..|.nilCheck _|.binOp ..|.unOp ..|.makeInterface ..|.makeMap ..|.makeSlice ..|.slice ..|.fieldAddr ..|.field ..
 |.indexAddr ..|.index ..|.lookup ..|.mapUpdate ..|.insert ..|.range ..|.next ..|.entry _|.typeAssert ..|.extract ..|.panic _=>True
 |.convert s d _=>OkConv P s d
 |.makeFunc fn _ _=>oZ U fn=fn
 |.call c=>match c.callee with|.builtin b=>okB P b c.argTypes|.invoke _ n=>U.xT n=true|.value _=>True
 |.defer c=>match c.callee with|.builtin _=>False|.invoke _ n=>U.xT n=true|.value _=>True
 |_=>False
def yU{ρ a:Operand->Bg}(xs:Array Operand)(h:∀x∈xs,a x=pV U (ρ x)):xs.map a=dI U (xs.map ρ):=by
 rw[dR,lZ];exact il h
def xg(f:Bg)(args:Array Bg):bZ P U (lN U) (Deferred.ofValue f args) (Deferred.ofValue (pV U f) (dI U args)):=by
 cases f<;>first|exact bZ.j|exact bZ.h rfl|exact bZ.h (by simp[lN,ir,vD])
include C E in
def Gl(o:Oper)(ρ w:Operand->Bg)(h:abX P U o.op)(j:∀x∈o.op.operands,w x=pV U (ρ x))(hc:∀c f fn a b,o.op=.call c->c.callee=.value f->ρ f=.func fn a b->Ou U fn=true)(R:∀x fn a b,o.op=.nilCheck x->ρ x=.func fn a b->Ou U fn=true):
  bZ P U (cV U) (execOp ρ o) (execOp w o):=by
 have p:∀s H:Sem Bg,bZ P U (pV U) s H->bZ P U (cV U) (do pure (.value (<-s))) (do pure (.value (<-H))):=λs H h=>bZ.e h λv=>bZ.h rfl;have M:∀s H:Sem Unit,bZ P U id s H->bZ P U (cV U) (do s;pure .skip) (do H;pure .skip):=λs H h=>bZ.e h λv=>bZ.h rfl;unfold execOp;obtain⟨T,J,B,V,N,Q⟩:=o;dsimp only at h j hc R⊢;cases J<;>first|exact h.elim|skip
 case move x=>exact bZ.h (by rw[j x (by simp[Op.operands])];rfl)
 case assign x=>exact bZ.h (by rw[j x (by simp[Op.operands])];rfl)
 case pick c a b=>
  dsimp only;rw[j c (by simp[Op.operands]),j a (by simp[Op.operands]),j b (by simp[Op.operands])];exact bZ.e (zD _) λt=>bZ.h (by cases t<;>rfl)
 case alloc e=>exact p _ _ (V3 C e)
 case box e x=>exact p _ _ (by rw[j x (by simp[Op.operands])];exact ab9 e _)
 case build t F=>
  refine p _ _ ?_;have:(F.map λ(x:Nat×Operand)=>(x.1,w x.2))=(F.map λ(x:Nat×Operand)=>(x.1,ρ x.2)).map λx=>(x.1,pV U x.2):=by
   rw[lZ];refine il λx A=>?_;have:=j x.2 (by simp[Op.operands];exact⟨x.1,by simpa using A⟩);simp[this]
  show bZ P U (pV U) (Instr.build t (F.map λ(x:Nat×Operand)=>(x.1,ρ x.2))) (Instr.build t (F.map λ(x:Nat×Operand)=>(x.1,w x.2)));rw[this];exact V6 C t _
 case buildSlice t n F=>
  refine p _ _ ?_;have:(F.map λ(x:Nat×Operand)=>(x.1,w x.2))=(F.map λ(x:Nat×Operand)=>(x.1,ρ x.2)).map λx=>(x.1,pV U x.2):=by
   rw[lZ];refine il λx A=>?_;have:=j x.2 (by simp[Op.operands];exact⟨x.1,by simpa using A⟩);simp[this]
  show bZ P U (pV U) (Instr.buildSlice t n (F.map λ(x:Nat×Operand)=>(x.1,ρ x.2))) (Instr.buildSlice t n (F.map λ(x:Nat×Operand)=>(x.1,w x.2)));rw[this];exact Ej C t n _
 case insert t m k v=>exact M _ _ (by rw[j m (by simp[Op.operands]),j k (by simp[Op.operands]),j v (by simp[Op.operands])];exact x8 C t _ _ _)
 case load t a=>exact p _ _ (by rw[j a (by simp[Op.operands])];exact R8 t _)
 case store t a v=>exact M _ _ (by rw[j a (by simp[Op.operands]),j v (by simp[Op.operands])];exact OU t _ _)
 case nilCheck x=>
  dsimp only;rw[j x (by simp[Op.operands])];cases A:ρ x with
  |pointer a=>cases a with
   |none=>exact cr C _
   |some a=>exact bZ.h rfl
  |nilIface=>exact cr C _
  |nilFunc=>exact cr C _
  |func fn first captured=>
   have D:=R x fn first captured rfl A
   cases fn with
   |method z=>
    replace D:U.xT z=true:=D;simp only[pV,oZ,D,dC];rw[lr];cases first[0]? with
    |none=>exact bZ.h (by simp[cV,pV,oZ,D])
    |some u=>
     simp only[Option.map];cases u with
     |nilIface=>exact cr C _
     |iface t v=>
      refine bZ.I ?_;refine bZ.e (Ae _ t v z) λr=>?_;simp only[id];split;exact bZ.O;exact bZ.h (by simp[cV,pV,oZ,D])
     |_=>exact bZ.h (by simp[cV,pV,oZ,D])
   |methodOf t z=>
    replace D:U.xT z=true:=D;simp only[pV,oZ,D,dC];exact bZ.h (by simp[cV,pV,oZ,D])
   |_=>exact bZ.h rfl
  |_=>exact bZ.h rfl
 case binOp J t x y u=>
  refine p _ _ ?_;rw[j x (by simp[Op.operands]),j y (by simp[Op.operands])];exact bZ.e (N2 J t x y x y rfl rfl _ _) λ_=>V5 C J t _ _
 case unOp J t x=>exact p _ _ (by rw[j x (by simp[Op.operands])];exact Xb J _)
 case convert s d x=>exact p _ _ (by rw[j x (by simp[Op.operands])];exact NU s d _ h)
 case makeInterface t x=>exact p _ _ (by rw[j x (by simp[Op.operands])];exact yH t _)
 case makeFunc fn a b=>
  refine p _ _ ?_;rw[yU a λx A=>j x (by simp[Op.operands,A]),yU b λx A=>j x (by simp[Op.operands,A])];exact bZ.h (by simp only[pV];rw[show oZ U fn=fn from h])
 case makeMap t r=>
  refine p _ _ ?_;have:r.map w=(r.map ρ).map (pV U):=by
   cases r with
   |none=>rfl
   |some x=>simp[j x (by simp[Op.operands])]
  rw[this];exact Oi t _
 case makeSlice t l c=>exact p _ _ (by rw[j l (by simp[Op.operands]),j c (by simp[Op.operands])];exact GB C t _ _)
 case slice t x l S m=>
  refine p _ _ ?_;have e:∀r:Option Operand,(∀y,r=some y->y∈(Op.slice t x l S m).operands)->r.map w=(r.map ρ).map (pV U):=λr W=>by
   cases r with
   |none=>rfl
   |some y=>simp[j y (W y rfl)]
  rw[e l (λy L=>by simp[Op.operands,L]),e S (λy L=>by simp[Op.operands,L]),e m (λy L=>by simp[Op.operands,L]),j x (by simp[Op.operands])];exact OL C t _ _ _ _
 case fieldAddr t x f=>exact p _ _ (by rw[j x (by simp[Op.operands])];exact N7 t _ f)
 case field t x f=>exact p _ _ (by rw[j x (by simp[Op.operands])];exact Wm t _ f)
 case indexAddr t x i=>exact p _ _ (by rw[j x (by simp[Op.operands]),j i (by simp[Op.operands])];exact Oe C t _ _)
 case index t x i=>exact p _ _ (by rw[j x (by simp[Op.operands]),j i (by simp[Op.operands])];exact Ww C t _ _)
 case lookup t x i ok=>exact p _ _ (by rw[j x (by simp[Op.operands]),j i (by simp[Op.operands])];exact Sa C t _ _ ok)
 case mapUpdate t m k v=>exact M _ _ (by rw[j m (by simp[Op.operands]),j k (by simp[Op.operands]),j v (by simp[Op.operands])];exact x8 C t _ _ _)
 case range t x=>exact p _ _ (by rw[j x (by simp[Op.operands])];exact WR t _)
 case next x s=>exact p _ _ (by rw[j x (by simp[Op.operands])];exact aaj _ s _)
 case entry x=>exact p _ _ (by rw[j x (by simp[Op.operands])];exact Wi _)
 case typeAssert x t a ok=>exact p _ _ (by rw[j x (by simp[Op.operands])];exact ES C _ t a ok)
 case extract x i=>exact p _ _ (by rw[j x (by simp[Op.operands])];exact N5 _ i)
 case panic x=>exact p _ _ (by rw[j x (by simp[Op.operands])];exact WQ C _)
 case call c=>
  obtain⟨q,g,G⟩:=c;have K:g.map w=dI U (g.map ρ):=yU g λx A=>j x (by simp[Op.operands,Call.operands,A]);cases q with
  |builtin b=>
   show bZ P U (cV U) (builtin b G B _ (g.map ρ)) (builtin b G B _ (g.map w));rw[K];exact NR C b G B _ _ h
  |invoke r n=>
   show bZ P U (cV U) (invoke (.fn (.method n) #[]) (#[ρ r]++g.map ρ)) (invoke (.fn (.method n) #[]) (#[w r]++g.map w));rw[K,j r (by simp[Op.operands,Call.operands])];have:=uw C E (.method n) #[] (#[ρ r]++g.map ρ) h;rw[vD]at this;replace h:U.xT n=true:=h;simp only[oZ,h,dC]at this;exact this
  |value f=>
   show bZ P U (cV U) (Deferred.ofValue (ρ f) (g.map ρ) >>= λd=>invoke d.target d.args) (Deferred.ofValue (w f) (g.map w) >>= λd=>invoke d.target d.args);rw[K,j f (by simp[Op.operands,Call.operands])];cases hf:ρ f with
   |func fn first captured=>
    have:=uw C E fn captured (first++g.map ρ) (hc _ f fn first captured rfl rfl hf);rw[vD]at this;exact this
   |nilFunc=>exact(cr C (pa:=cV U) .nilDeref :)
   |_=>exactλ_ _ _ _ _ _=>aE
 case defer c=>
  obtain⟨q,g,G⟩:=c;have K:g.map w=dI U (g.map ρ):=yU g λx A=>j x (by simp[Op.operands,Call.operands,A]);cases q with
  |builtin b=>exact h.elim
  |invoke r n=>
   refine bZ.h ?_;rw[K,j r (by simp[Op.operands,Call.operands])];replace h:U.xT n=true:=h;simp[cV,lN,ir,oZ,h,vD];exact⟨rfl,rfl⟩
  |value f=>
   show bZ P U (cV U) (Deferred.ofValue (ρ f) (g.map ρ) >>= λd=>pure (.defer d)) (Deferred.ofValue (w f) (g.map w) >>= λd=>pure (.defer d));rw[K,j f (by simp[Op.operands,Call.operands])];exact bZ.e (xg _ _) λd=>bZ.h rfl
end
def PO{α:Type}(P:Program)(s:Sem α):Prop:=(∃a,∀w b,s.runT P w b=(.ok a w,b))\/∀w b,ry (s.runT P w b)
section
variable(C:gi P U)
def PO.h(a:α):PO P (Pure.pure a):=.inl ⟨a,λ_ _=>rfl⟩
def PO.O(m:String):PO P (Go.stuck m:Sem α):=.inr λ_ _=>aE
def PO.I(u:Unsupported):PO P (Go.unsupported u:Sem α):=.inr λ_ _=>aE
def PO.e(h:PO P s)(k:∀a,PO P (f a)):PO P (s >>= f):=by
 rcases h with⟨a,h⟩|h
 have e:∀w c,(s >>= f).runT P w c=(f a).runT P w c:=λw c=>by
  show (s.bind f).runT P w c=_;rw[fU,h]
 rcases k a with⟨b,k⟩|k
 exact .inl ⟨b,λw c=>(e w c).trans (k w c)⟩;exact .inr λw c=>by rw[e];exact k w c
 exact .inr λw c=>ry.h (h w c)
def PO.H{f:Bo->Sem β}(k:PO P (f P)):PO P (Go.program >>= f):=k
def PO.j(h:PO P s):bZ P U id s s:=by
 rcases h with⟨a,h⟩|h
 intro w e f b c d;rw[h,h];exact jc c d rfl;exact bZ.aU h
def nX(t:Bi):PO P (typeInfo t):=by
 unfold typeInfo;apply PO.H;split;exact PO.h _;exact PO.O _
def CB(n:String):PO P (cutType n):=by
 unfold cutType;apply PO.H;split;exact PO.h _;exact PO.O _
def tn(t:Bi):PO P (under t):=by
 unfold under;refine PO.e (nX t) λi=>?_;split;exact PO.e (nX _) λi=>PO.h _;exact PO.h _
def EC(t:Bi):PO P (kind t):=by
 unfold kind;refine PO.e (tn t) λi=>?_;dsimp only;split<;>first|exact PO.h _|exact PO.O _
def rW(w:String)(t:Bi):PO P (noPack w t):=by
 unfold noPack;apply PO.H;split;exact PO.I _;exact PO.h _
def iG(w:String)(t:Bi):PO P (noPackMethods w t):=by
 unfold noPackMethods;refine PO.H (PO.H ?_);split;exact PO.I _;exact PO.h _
def BX(w:String)(t:Bi):PO P (noPackNamed w t):=by
 unfold noPackNamed;refine PO.H (PO.H ?_);split;exact PO.I _;exact PO.h _
def OZ(t:Bi):PO P (typeStr t):=by
 unfold typeStr;refine PO.e (nX t) λi=>?_;dsimp only;split;exact PO.I _;exact PO.h _
def EP(t:Bi):PO P (spelt t):=by
 unfold spelt;exact PO.e (BX _ t) λ_=>OZ t
def RP(t:Bi):PO P (elem? t):=by
 unfold elem?
 refine PO.e (tn t) λi=>?_;split<;>exact PO.h _
def CP(t:Bi):PO P (hasName t):=by
 unfold hasName;refine PO.e (nX t) λi=>?_;split<;>exact PO.h _
def ls(T V:Bi):PO P (implements T V):=by
 unfold implements;refine PO.e (iG _ _) λ_=>PO.e (iG _ _) λ_=>PO.e (tn T) λa=>PO.e (tn V) λb=>?_;split;exact PO.h _;exact PO.e (nX _) λ_=>PO.h _;exact PO.h _
def zE(T V:Bi):PO P (directlyAssignable T V):=by
 unfold directlyAssignable;split;exact PO.h _;refine PO.e (CP T) λa=>PO.e (CP V) λb=>?_;split;exact PO.h _;refine PO.e (tn T) λa=>PO.e (tn V) λb=>?_;let ⟨t,c⟩:=a
 let ⟨v,d⟩:=b
 dsimp only;split<;>exact PO.h _
include C in
def CO(t:Bi):bZ P U (pV U) (handle t) (handle t):=by
 unfold handle;exact bZ.I (bZ.h (rS C t))
include C in
def Ey(h:Bg):handleType P (pV U h)=handleType P h:=by
 cases h with
 |pointer a=>cases a with
  |none=>rfl
  |some a=>
   show (if (U.f a.block==P.globals.size)=true then some a.off else none)=(if (a.block==P.globals.size)=true then some a.off else none);have:(U.f a.block==P.globals.size)=(a.block==P.globals.size):=by
    rw[mt,j7,j7];refine⟨λh=>U.Gc (h.trans C.e.symm),λh=>by rw[h,C.e]⟩
   rw[this]
 |_=>rfl
include C in
def uz(h:Bg):bZ P U id (ofHandle h) (ofHandle (pV U h)):=by
 unfold ofHandle;apply bZ.I;rw[Ey C];cases handleType P h with
 |none=>exact bZ.j
 |some t=>exact bZ.h rfl
include C in
def ack(t:Bi)(a:Addr)(b:Nat):bZ P U (pV U) (ReflectliteValue.mk t a b) (ReflectliteValue.mk t (br U a) b):=by
 unfold ReflectliteValue.mk;exact bZ.e (CO C t) λh=>bZ.e (EC t).j λk=>bZ.h rfl
include C in
def GU(v:Bg):bZ P U (pV U) (ReflectliteValue.unpack v) (ReflectliteValue.unpack (pV U v)):=by
 unfold ReflectliteValue.unpack;cases v<;>first|exact bZ.j|exact bZ.h rfl|skip
 exact bZ.e (rU _ _) λa=>ack C _ a 0
def jr(m:String)(k:Nat):bZ P U pa (ReflectliteValue.valueError m k) (ReflectliteValue.valueError m k):=by
 unfold ReflectliteValue.valueError;exact bZ.e (CB _).j λt=>bZ.e (rO _) λe=>bZ.e (CW e rfl) λa=>bZ.ag rfl
def l7(m:String):bZ P U pa (panicString m) (panicString m):=by
 unfold panicString;exact bZ.I (bZ.ag rfl)
def WP(U:Pm):Option (TypeId×Addr×Nat)->Option (TypeId×Addr×Nat):=Option.map λx=>(x.1,br U x.2.1,x.2.2)
include C in
def Ay(v:Bg):bZ P U (WP U) (ReflectliteValue.partsAny v) (ReflectliteValue.partsAny (pV U v)):=by
 cases v with
 |agg g=>
  obtain⟨l⟩:=g;rcases l with _|⟨x,_|⟨y,_|⟨z,_|⟨u,l⟩⟩⟩⟩
  exactλ_ _ _ _ _ _=>aE;exactλ_ _ _ _ _ _=>aE;exactλ_ _ _ _ _ _=>aE;have d:∀z:Bg,(∀n,z≠.int .u64 n)->bZ P U (WP U) (ReflectliteValue.partsAny (.agg #[x,y,z])) (ReflectliteValue.partsAny (pV U (.agg #[x,y,z]))):=λz c=>by
   cases z with
   |int k n=>cases k<;>first|exact absurd rfl (c _)|(cases y<;>first|exactλ_ _ _ _ _ _=>aE|(rename_i p;cases p<;>exactλ_ _ _ _ _ _=>trivial))
   |_=>cases y<;>first|exactλ_ _ _ _ _ _=>aE|(rename_i p;cases p<;>exactλ_ _ _ _ _ _=>trivial)
  by_cases c:∃n,z=.int .u64 n;obtain⟨n,rfl⟩:=c;have b:∀n:Int,n≠0->bZ P U (WP U) (ReflectliteValue.partsAny (.agg #[x,y,.int .u64 n])) (ReflectliteValue.partsAny (pV U (.agg #[x,y,.int .u64 n]))):=λn f=>by
   cases y with
   |pointer p=>cases p with
    |none=>rcases n with (_|n)|n<;>first|exact absurd rfl f|exactλ_ _ _ _ _ _=>aE
    |some a=>rcases n with (_|n)|n<;>first|exact absurd rfl f|exact bZ.e (uz C x) λt=>bZ.h rfl
   |_=>rcases n with (_|n)|n<;>first|exact absurd rfl f|exactλ_ _ _ _ _ _=>aE
  by_cases h0:n=0;subst h0;exact bZ.h rfl;exact b n h0;exact d z λn h=>c ⟨n,h⟩;exactλ_ _ _ _ _ _=>aE
 |_=>exact bZ.j
include C in
def EI(v:Bg):bZ P U (WP U) (ReflectliteValue.parts v) (ReflectliteValue.parts (pV U v)):=by
 unfold ReflectliteValue.parts;refine bZ.e (Ay C v) λr=>?_;cases r with
 |none=>exact bZ.h rfl
 |some r=>
  let ⟨t,a,b⟩:=r
  exact bZ.e (rW _ t).j λ_=>bZ.h rfl
include C in
def xc(z b:Sem Bg)(c:bZ P U (pV U) z b)(f f':Bi->Addr->Nat->Nat->Sem Bg)(d:∀t a n k,bZ P U (pV U) (f t a n k) (f' t (br U a) n k))(args:Array Bg):bZ P U (pV U) (ReflectliteValue.method z f args) (ReflectliteValue.method b f' (dI U args)):=by
 obtain⟨l⟩:=args;rcases l with _|⟨x,_|⟨y,l⟩⟩
 exactλ_ _ _ _ _ _=>aE;refine bZ.e (EI C x) λr=>?_;cases r with
 |none=>exact c
 |some r=>exact d _ _ _ _
 exactλ_ _ _ _ _ _=>aE
include C in
def GD(z b:Sem Bg)(c:bZ P U (pV U) z b)(f f':Bi->Addr->Nat->Nat->Sem Bg)(d:∀t a n k,bZ P U (pV U) (f t a n k) (f' t (br U a) n k))(args:Array Bg):bZ P U (pV U) (ReflectliteValue.methodAny z f args) (ReflectliteValue.methodAny b f' (dI U args)):=by
 obtain⟨l⟩:=args;rcases l with _|⟨x,_|⟨y,l⟩⟩
 exactλ_ _ _ _ _ _=>aE;refine bZ.e (Ay C x) λr=>?_;cases r with
 |none=>exact c
 |some r=>exact d _ _ _ _
 exactλ_ _ _ _ _ _=>aE
include C in
def AR(t:Bi):bZ P U (pV U) (ReflectliteType.toType t) (ReflectliteType.toType t):=by
 unfold ReflectliteType.toType;exact bZ.e (CB _).j λc=>bZ.e (CO C t) λh=>bZ.h rfl
def Wy(t:Bi)(a:Addr)(n k:Nat):bZ P U (pV U) (ReflectliteValue.isNil t a n k) (ReflectliteValue.isNil t (br U a) n k):=by
 unfold ReflectliteValue.isNil;split;refine bZ.e (pa:=id) (jr _ _) λ_=>bZ.e (jU t a) λv=>?_;cases v<;>first|exact bZ.h rfl|(rename_i p;cases p<;>exact bZ.h rfl)|(rename_i p _ _;cases p<;>exact bZ.h rfl)
 refine bZ.e (jU t a) λv=>?_;cases v<;>first|exact bZ.h rfl|(rename_i p;cases p<;>exact bZ.h rfl)|(rename_i p _ _;cases p<;>exact bZ.h rfl)
include C in
def Wh(t:Bi)(a:Addr)(n k:Nat):bZ P U (pV U) (ReflectliteValue.elem t a n k) (ReflectliteValue.elem t (br U a) n k):=by
 unfold ReflectliteValue.elem;by_cases h:(k != 20&&k != 22)=true
 ·rw[az h,az h];intro w f g c i l;refine zw.e (jr (pa:=id) _ _ w f g c i l) fun _ w1 m o d b _ _ _=>?_;exfalso;unfold ReflectliteValue.valueError at b;have : vz P (do let t ← cutType "*internal/reflectlite.ValueError"; let e ← newVar (← elemOf t) (.agg #[strVal "reflectlite.Value.Elem", .int .u8 (Int.ofNat k)]); goPanic (.iface t (.pointer (some e))) : Sem PUnit) fun _ => False := vz.e fun _ => vz.e fun _ => vz.e fun _ => vz.h;exact this _ _ _ _ _ b
 rw[ax h,ax h];refine bZ.e (jU t a) λv=>bZ.e (RP t).j λe=>?_;simp;have q:k=20\/k=22:=by simp at h;omega
 rcases q with rfl|rfl
 exact GU C v;cases v with
 |pointer p=>cases p with
  |none=>exact bZ.h rfl
  |some p=>cases e with
   |none=>exact jr _ _
   |some e=>exact ack C e p _
 |_=>exact jr _ _
include C in
def aax(args:Array Bg):bZ P U (pV U) (ReflectliteValue.set args) (ReflectliteValue.set (dI U args)):=by
 let ⟨l⟩:=args
 rcases l with _|⟨x,_|⟨y,_|⟨z,l⟩⟩⟩
 exactλ_ _ _ _ _ _=>aE;exactλ_ _ _ _ _ _=>aE;refine bZ.e (EI C x) λr=>bZ.e (EI C y) λq=>?_;cases r with
 |none=>exact bZ.H
 |some r=>cases q with
  |none=>exact bZ.H
  |some q=>
   let ⟨c,a,f⟩:=r
   let ⟨d,b,i⟩:=q
   show bZ P U (pV U) (if (f/ReflectliteValue.flagAddr%2==0)=true then (unsupported _ >>= λ_=>_) else _) (if (f/ReflectliteValue.flagAddr%2==0)=true then (unsupported _ >>= λ_=>_) else _);split;exact bZ.O;refine bZ.e (jU d b) λv=>bZ.e (zE c d).j λok=>?_;simp only[id];cases ok with
   |true=>exact bZ.e (qJ c a v) λ_=>bZ.h rfl
   |false=>
    refine bZ.e (ls c d).j λn=>?_;cases n with
    |true=>
     refine bZ.e (EC d).j λk=>?_;dsimp only[id];by_cases g:(k==20)=true;simp only[g,dC];cases v<;>first|exact bZ.O|exact bZ.e (qJ c a _) λ_=>bZ.h rfl
     simp only[g,mj,eL];exact bZ.e (qJ c a (.iface d v)) λ_=>bZ.h rfl
    |false=>
     refine bZ.e (EP d).j λm=>bZ.e (EP c).j λo=>?_;exact bZ.e (pa:=id) (l7 _) λ_=>bZ.h rfl
 exactλ_ _ _ _ _ _=>aE
def SU(C:gi P U)(args:Array Bg):bZ P U (pV U) (ReflectliteType.typeOf args) (ReflectliteType.typeOf (dI U args)):=by
 obtain⟨l⟩:=args;rcases l with _|⟨x,_|⟨y,l⟩⟩
 exactλ_ _ _ _ _ _=>aE;cases x<;>first|exactλ_ _ _ _ _ _=>aE|exact bZ.h rfl|exact AR C _
 cases x<;>exactλ_ _ _ _ _ _=>aE
include C in
def xe(v:Bg):bZ P U id (ReflectliteType.ofRtype v) (ReflectliteType.ofRtype (pV U v)):=by
 cases v with
 |agg a=>
  obtain⟨l⟩:=a;rcases l with _|⟨x,_|⟨y,l⟩⟩
  exactλ_ _ _ _ _ _=>aE;exact bZ.e (uz C x) λt=>bZ.e (rW _ t).j λ_=>bZ.h rfl;exactλ_ _ _ _ _ _=>aE
 |_=>exact bZ.j
include C in
def Ol(f:Bi->Sem Bg)(a:∀t,bZ P U (pV U) (f t) (f t))(args:Array Bg):bZ P U (pV U) (ReflectliteType.method f args) (ReflectliteType.method f (dI U args)):=by
 obtain⟨l⟩:=args;rcases l with _|⟨x,_|⟨y,l⟩⟩
 exactλ_ _ _ _ _ _=>aE;exact bZ.e (xe C x) λt=>a t;exactλ_ _ _ _ _ _=>aE
include C in
def Wf(t:Bi):bZ P U (pV U) (ReflectliteType.elem t) (ReflectliteType.elem t):=by
 unfold ReflectliteType.elem;refine bZ.e (RP t).j λe=>?_;cases e with
 |none=>exact bZ.e (EP t).j λm=>l7 _
 |some e=>exact AR C e
include C in
def AE(c:String)(f:Bi->Bi->Sem Bool)(d:∀a b,bZ P U id (f a b) (f a b))(args:Array Bg):bZ P U (pV U) (ReflectliteType.relation c f args) (ReflectliteType.relation c f (dI U args)):=by
 obtain⟨l⟩:=args;rcases l with _|⟨x,_|⟨y,_|⟨z,l⟩⟩⟩
 exactλ_ _ _ _ _ _=>aE;exactλ_ _ _ _ _ _=>aE
 .cases y<;>first|exactλ_ _ _ _ _ _=>aE|exact l7 _|skip
  exact bZ.e (xe C _) λu=>bZ.e (xe C x) λt=>bZ.e (d _ _) λb=>bZ.h rfl
 cases y<;>exactλ_ _ _ _ _ _=>aE
def aab(u t:Bi):bZ P U id (ReflectliteType.implements_ u t) (ReflectliteType.implements_ u t):=by
 unfold ReflectliteType.implements_;refine bZ.e (EC u).j λk=>?_;simp only[id];split;exact bZ.e (pa:=id) (l7 _) λ_=>bZ.e (iG _ t).j λ_=>bZ.e (rW _ u).j λ_=>(ls u t).j;exact bZ.e (iG _ t).j λ_=>bZ.e (rW _ u).j λ_=>(ls u t).j
def Eh(u t:Bi):bZ P U id (ReflectliteType.assignableTo u t) (ReflectliteType.assignableTo u t):=by
 apply PO.j;unfold ReflectliteType.assignableTo;split;exact PO.e (iG _ t) λ_=>PO.e (iG _ u) λ_=>PO.e (zE u t) λa=>PO.e (ls u t) λb=>PO.h _;exact PO.e (zE u t) λa=>PO.e (ls u t) λb=>PO.h _
def Gk:∀(n t:Nat) (a:Array Bg),dI U a=a->dI U (BytealgMakeNoZero.digits n t a)=BytealgMakeNoZero.digits n t a
 |0,t,a,h=>h
 |n+1,t,a,h=>by
  rw[BytealgMakeNoZero.digits];apply Gk n _ _;rw[dR,Array.map_push,<-dR,h];rfl
def EG(C:gi P U)(g c:Array Bi)(args:Array Bg):bZ P U (pV U) (BytealgMakeNoZero.makeNoZero g c args) (BytealgMakeNoZero.makeNoZero g c (dI U args)):=by
 obtain⟨l⟩:=args;rcases l with _|⟨x,_|⟨y,l⟩⟩
 exactλ_ _ _ _ _ _=>aE
 .cases x with
  |int k n=>
         cases k<;>first|exactλ_ _ _ _ _ _=>aE|skip
         show bZ P U (pV U) (match c[0]? with|some t=>_|_=>_) (match c[0]? with|some t=>_|_=>_);cases c[0]? with
         |none=>exact bZ.j
         |some t=>
          refine bZ.e (bE t) λd=>?_;cases d<;>first|exact bZ.j|skip
          rename_i e;dsimp only[id];split;exact bZ.ai _;refine bZ.e bZ.V λf=>bZ.e (wU _) λ_=>bZ.e bZ.V λb=>?_;have:=pL (P:=P) (U:=U) e (BytealgMakeNoZero.digits f b #[]);rw[Gk f b #[] rfl]at this;exact bZ.e this λa=>bZ.h rfl
  |_=>exactλ_ _ _ _ _ _=>aE
 cases x with
 |int k n=>cases k<;>exactλ_ _ _ _ _ _=>aE
 |_=>exactλ_ _ _ _ _ _=>aE
def Gg(a:Addr):∀(n:Nat) (b:Bh),bZ P U id (Bytes.loadBytes a n b) (Bytes.loadBytes (br U a) n b)
 |0,b=>bZ.h rfl
 |n+1,b=>by
  unfold Bytes.loadBytes;refine bZ.e (bZ.ao rfl) λv=>?_;cases v<;>first|exact bZ.j|skip
  rename_i k m;cases k<;>first|exact bZ.j|skip
  have:=Gg (a.add 1) n (b.push m.toNat.toUInt8);rw[tW]at this;exact this
def wV(v:Bg):bZ P U id (Bytes.bytesOf v) (Bytes.bytesOf (pV U v)):=by
 cases v with
 |string s=>exact bZ.h rfl
 |slice a n c=>cases a with
  |none=>exact bZ.h rfl
  |some a=>exact Gg a n _
 |_=>exact bZ.j
def Gw(args:Array Bg):bZ P U (pV U) (BytealgIndexByte.indexByte args) (BytealgIndexByte.indexByte (dI U args)):=by
 obtain⟨l⟩:=args;rcases l with _|⟨x,_|⟨y,_|⟨z,l⟩⟩⟩
 exactλ_ _ _ _ _ _=>aE;exactλ_ _ _ _ _ _=>aE;refine bZ.e (wV x) λb=>bZ.e (pa:=id) ?_ λc=>?_;cases y with
 |int k n=>cases k<;>first|exact bZ.j|exact bZ.h rfl
 |_=>exact bZ.j
 dsimp only[id];split<;>exact bZ.h rfl;exactλ_ _ _ _ _ _=>aE
def aaw(args:Array Bg):bZ P U (pV U) (AbiNoEscape.same args) (AbiNoEscape.same (dI U args)):=by
 let ⟨l⟩:=args
 rcases l with _|⟨x,_|⟨y,l⟩⟩
 exactλ_ _ _ _ _ _=>aE;exact bZ.h rfl;exactλ_ _ _ _ _ _=>aE
end
structure ju where
 b:Nat->Bool
 h:String->Bool
 e:Code->Bool
 G:Nat->Bool
def gC(κ:ju)(n b:Nat):Prop:=b<n/\κ.G b=false
def rQ(κ:ju)(n:Nat):Fn->Prop
 |.func f=>κ.b f=true
 |.via _ _ f _=>κ.b f=true
 |.method m=>κ.h m=true
 |.methodOf _ m=>κ.h m=true
 |.yield l=>gC κ n l
mutual
def ix(κ:ju)(n:Nat):Value->Prop
 |.pointer a=>∀x,a=some x->gC κ n x.block
 |.slice a _ _=>∀x,a=some x->gC κ n x.block
 |.map r=>∀x,r=some x->gC κ n x
 |.chan r=>∀x,r=some x->gC κ n x
 |.func fn first captured=>rQ κ n fn/\gX κ n first/\gX κ n captured
 |.iface _ v=>ix κ n v
 |.agg cs=>gX κ n cs
 |.tuple vs=>gX κ n vs
 |.bool _=>True
 |.int _ _=>True
 |.float _ _=>True
 |.complex _ _ _=>True
 |.string _=>True
 |.nilFunc=>True
 |.nilIface=>True
def gX(κ:ju)(n:Nat):Array Value->Prop
 |⟨l⟩=>rh κ n l
def rh(κ:ju)(n:Nat):List Value->Prop
 | []=>True
 |v::l=>ix κ n v/\rh κ n l
end
variable{n:Nat}{κ:ju}{Q:α->Prop}
def Of(κ:ju)(U:Pm):Prop:=U.zx=κ.b/\U.xT=κ.h/\U.VL=κ.e
def oI(κ:ju)(n:Nat)(U ρ:Pm):Prop:=Of κ U/\Of κ ρ/\∀b,gC κ n b->U.f b=ρ.f b
def lm(κ:ju)(n:Nat)(U ρ:Pm):Prop:=Of κ U/\Of κ ρ/\U.k≠ρ.k/\∀b,¬gC κ n b->U.f b≠ρ.f b
def Gp(h:oI κ n U ρ)(a:rQ κ n fn):oZ U fn=oZ ρ fn:=by
 obtain⟨⟨c,d,_⟩,⟨e,g,_⟩,i⟩:=h;cases fn with
 |func f=>replace a:κ.b f=true:=a;simp[oZ,pM,c,e,a]
 |via t p f b=>replace a:κ.b f=true:=a;simp[oZ,pM,c,e,a]
 |method m=>replace a:κ.h m=true:=a;simp[oZ,d,g,a]
 |methodOf t m=>replace a:κ.h m=true:=a;simp[oZ,d,g,a]
 |yield l=>simp only[oZ];rw[i l a]
def CZ(h:oI κ n U ρ){a:Option Addr}(b:∀x,a=some x->gC κ n x.block):a.map (br U)=a.map (br ρ):=by
 cases a with
 |none=>rfl
 |some a=>simp only[Option.map,br];rw[h.2.2 _ (b a rfl)]
def uA(h:oI κ n U ρ){a:Option Nat}(b:∀x,a=some x->gC κ n x):a.map U.f=a.map ρ.f:=by
 cases a with
 |none=>rfl
 |some a=>simp;rw[h.2.2 _ (b a rfl)]
mutual
theorem tq(h:oI κ n U ρ):∀v,ix κ n v->pV U v=pV ρ v
 |.pointer a,hv=>by simp only[pV];rw[CZ h hv]
 |.slice a _ _,hv=>by simp only[pV];rw[CZ h hv]
 |.map r,hv=>by simp only[pV];rw[uA h hv]
 |.chan r,hv=>by simp only[pV];rw[uA h hv]
 |.func fn a b,hv=>by simp only[pV];rw[Gp h hv.1,kj h a hv.2.1,kj h b hv.2.2]
 |.iface _ v,hv=>by simp only[pV];rw[tq h v hv]
 |.agg cs,hv=>by simp only[pV];rw[kj h cs hv]
 |.tuple cs,hv=>by simp only[pV];rw[kj h cs hv]
 |.bool _,_=>rfl
 |.int _ _,_=>rfl
 |.float _ _,_=>rfl
 |.complex _ _ _,_=>rfl
 |.string _,_=>rfl
 |.nilFunc,_=>rfl
 |.nilIface,_=>rfl
theorem kj(h:oI κ n U ρ):∀a,gX κ n a->dI U a=dI ρ a
 |⟨l⟩,hv=>by simp only[dI];rw[GW h l hv]
theorem GW(h:oI κ n U ρ):∀l,rh κ n l->qj U l=qj ρ l
 | [],_=>rfl
 |v::l,hv=>by simp only[qj];rw[tq h v hv.1,GW h l hv.2]
end
def lu(h:lm κ n U ρ){b:Nat}(e:U.f b=ρ.f b):gC κ n b:=cO λq=>h.2.2.2 b q e
def zQ(h:lm κ n U ρ)(e:oZ U fn=oZ ρ fn):rQ κ n fn:=by
 obtain⟨⟨c,d,_⟩,⟨g,i,_⟩,a,j⟩:=h;cases fn with
 |func f=>
  show κ.b f=true;cases q:κ.b f with
  |true=>rfl
  |false=>simp[oZ,pM,c,g,q]at e;exact absurd e a
 |via t p f b=>
  show κ.b f=true;cases q:κ.b f with
  |true=>rfl
  |false=>simp[oZ,pM,c,g,q]at e;exact absurd e a
 |method m=>
  show κ.h m=true;cases q:κ.h m with
  |true=>rfl
  |false=>simp[oZ,d,i,q]at e;exact absurd e a
 |methodOf t m=>
  show κ.h m=true;cases q:κ.h m with
  |true=>rfl
  |false=>simp[oZ,d,i,q]at e;exact absurd e a
 |yield l=>exact cO λq=>j l q (by simpa[oZ] using e)
def ME(h:lm κ n U ρ)(a:Option Addr)(e:a.map (br U)=a.map (br ρ)):∀x,a=some x->gC κ n x.block:=by
 rintro x rfl;simp only[Option.map,aW,br,kK]at e;exact lu h e.1
def Ao(h:lm κ n U ρ)(a:Option Nat)(e:a.map U.f=a.map ρ.f):∀x,a=some x->gC κ n x:=by
 rintro x rfl;simp at e;exact lu h e
mutual
theorem ye(h:lm κ n U ρ):∀v,pV U v=pV ρ v->ix κ n v
 |.pointer a,e=>ME h a (by simpa[pV] using e)
 |.slice a _ _,e=>ME h a (by simpa[pV] using e)
 |.map r,e=>Ao h r (by simpa[pV] using e)
 |.chan r,e=>Ao h r (by simpa[pV] using e)
 |.func fn a b,e=>by
  simp only[pV,Value.func.injEq]at e;exact⟨zQ h e.1,mY h a e.2.1,mY h b e.2.2⟩
 |.iface _ v,e=>ye h v (by simpa[pV] using e)
 |.agg cs,e=>mY h cs (by simpa[pV] using e)
 |.tuple cs,e=>mY h cs (by simpa[pV] using e)
 |.bool _,_=>aE
 |.int _ _,_=>aE
 |.float _ _,_=>aE
 |.complex _ _ _,_=>aE
 |.string _,_=>aE
 |.nilFunc,_=>aE
 |.nilIface,_=>aE
theorem mY(h:lm κ n U ρ):∀a,dI U a=dI ρ a->gX κ n a
 |⟨l⟩,e=>SW h l (by simpa[dI] using e)
theorem SW(h:lm κ n U ρ):∀l,qj U l=qj ρ l->rh κ n l
 | [],_=>aE
 |v::l,e=>by
  simp only[qj,gP]at e;exact⟨ye h v e.1,SW h l e.2⟩
end
end Go.Eqv
