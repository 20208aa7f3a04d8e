/- Parts of the proof. -/
import Derived.Test.YtbebfliimjjohabGreatDoorM03
set_option maxRecDepth 100000
set_option maxHeartbeats 8000000
set_option linter.all false
open Go.Extern Go.Extern.Rtype
namespace Go.Eqv
variable{fn:Fn}{U ρ:Pm}{P:Ft}{α β:Type}{s:Sem α}{f:α->Sem β}{pa:α->α}
def uv{α:Type}(P:Program)(s:Sem α)(Q:α->Prop):Prop:=∀w c a w1 b,s.runT P w c=(.ok a w1,b)->Q a
section
variable(C:fD P U)
def uv.e{Q:β->Prop}(k:∀a,uv P (f a) Q):uv P (s >>= f) Q:=by
 intro w c b w1 d h;replace h:(s.bind f).runT P w c=_:=h;rw[ft]at h;cases hx:s.runT P w c with
 |mk r g=>
  rw[hx]at h;cases r with
  |ok a w2=>exact k a _ _ _ _ _ h
  |halt i w2=>cases h
def uv.j{a:α}{Q:α->Prop}(h:Q a):uv P (Pure.pure a) Q:=λ_ _ _ _ _ e=>by cases e;exact h
def uv.h{h:Halt}{Q:α->Prop}:uv P (.halt h) Q:=λ_ _ _ _ _ e=>by cases e
def bU.ap{pb:β->β}{s':Sem α}{f':α->Sem β}{Q:α->Prop}(h:bU P U pa s s')(l:uv P s Q)(k:∀a,Q a->bU P U pb (f a) (f' (pa a))):bU P U pb (s >>= f) (s' >>= f'):=
 λw m n d o p=>AY.e (h w m n d o p) λa w1 g i b c _ j q=>k a (l _ _ _ _ _ c) w1 g i b q.h j
include C in
def BT:∀(n:Nat) (t:DU) (v:Dv) (a:String),U.wS a=true->uv P (method n t v a) λy=>U.yy y.1=true
 |0,t,v,a,b=>uv.h
 |n+1,t,v,a,b=>by
  unfold method typeInfo;show uv P ((do match P.info? t with | some i => pure i | none => stuck "no such type") >>= _) _;cases hi:P.info? t with
  |none=>exactλ_ _ _ _ _ e=>by cases e
  |some i=>
   show uv P (match i.methods.find? (·.name==a) with|some m=>_|_=>_) _;cases hm:i.methods.find? (·.name==a) with
   |none=>exact uv.h
   |some m=>
    refine uv.e λy=>?_;cases hf:m.func with
    |none=>
     refine uv.e λu=>?_;cases u<;>first|exact uv.h|exact BT n _ _ a b|exact uv.e λ_=>uv.h
    |some f=>
     refine uv.e λu=>uv.j ?_;have c:m.name=a:=by
      have:=Array.find?_some hm;simpa using this
     exact C.j t i m f.1 f.2 hi (Pt hm) hf (c▸b)
def qK (P : Program) (U : Pm) : Prop := ∀ f fn, P.funcs[f]? = some fn → U.yy f = true → (fn.name == "runtime.NumGoroutine") = false ∧ (fn.body = none → ∀ a, bU P U (dc U) (callFunc f a) (callFunc f (dx U a)))
def My(U:Pm):Fn->Bool
 |.func f=>U.yy f
 |.via _ _ f _=>U.yy f
 |.method n=>U.wS n
 |.methodOf _ n=>U.wS n
 |.yield _=>true
def kA{f:Nat}(h:U.yy f=true):oy U f=f:=by simp[oy,h]
variable(E:qK P U)
include E in
def tB(f:FuncId)(args:Array Dv)(h:U.yy f=true):bU P U (dc U) (callFunc f args) (callFunc f (dx U args)):=by
 cases hf:P.funcs[f]? with
 |none=>
  have : ∀ a, (callFunc f a : Sem Next) = (Go.program >>= fun p => match p.funcs[f]? with | none => stuck "call: no such function" | some fn => _) := fun _ => rfl;refine bU.aU fun w b=>?_;show qs ((match P.funcs[f]? with | none => stuck "call: no such function" | some fn => _ : Sem Next).runT P w b);rw[hf];trivial
 |some fn=>
  cases hb:fn.body with
  |none=>exact(E f fn hf h).2 hb args
  |some c=>
   have run:∀a w b,(callFunc f a).runT P w b=(.ok (.enter f a) w,b):=by
    intro a w b;show ((match P.funcs[f]? with | none => stuck "call: no such function" | some fn => _ : Sem Next).runT P w b) = _;rw[hf];show (if fn.name == "runtime.NumGoroutine" then (pure .numGoroutine : Sem Next) else if fn.body.isNone = true then _ else pure (.enter f a)).runT P w b = _;rw[hb,((E f fn hf h).1)];rfl
   intro w i b d e g;rw[run,run];exact ji e g (by simp[dc,kA h])
include C E in
def oV(recv:Dv)(a:String)(args:Array Dv)(h:U.wS a=true):bU P U (dc U) (callMethod recv a args) (callMethod (pV U recv) a (dx U args)):=by
 unfold callMethod;cases recv<;>first|exact bU.j|exact bW C _|skip
 rename_i t v;apply bU.I;refine bU.ap (E9 C _ t v a h) (BT C _ t v a h) λy b=>?_;have:=tB E y.1 (#[y.2]++args) b;rw[ux]at this;simp only[kA b];exact this
def Mn(l:List (Nat×Dv))(a:Array Dv):(l.map λx=>(x.1,pV U x.2)).foldl (λa (x:Nat×Dv)=>a.setIfInBounds x.1 x.2) (dx U a)=dx U (l.foldl (λa (x:Nat×Dv)=>a.setIfInBounds x.1 x.2) a):=by
 induction l generalizing a with
 |nil=>rfl
 |cons x l b=>simp;rw[yb,b]
def og{pb:β->β}(l:Nat){k a:Loop->Sem β}(h:∀r,U.X l=false->bU P U pb (k r) (a (oz U r))):bU P U pb (Instr.getLoop l >>= k) (Instr.getLoop (U.f l) >>= a):=by
 have e : ∀ (l : Nat) (k : Loop → Sem β), (Instr.getLoop l >>= k) = (Go.getObj l >>= fun o => match o with | .loop r => k r | _ => stuck "range over a function: no such loop") := by
  intro l k;unfold Instr.getLoop;show Sem.getObj l _=Sem.getObj l _;congr 1
  funext o;cases o<;>rfl
 rw[e,e];refine bU.Z rfl (λo b=>?_) (λ_ _ _ _=>aB);cases o<;>first|exactλ_ _ _ _ _ _=>aB|exact h _ b
def Vv(l:Nat)(args:Array Dv):bU P U (dc U) (Instr.yield l args) (Instr.yield (U.f l) (dx U args)):=by
 unfold Instr.yield;refine og l λr a=>?_;show bU P U (dc U) (if args.size≠r.params.size then _ else _) (if (dx U args).size≠r.params.size then _ else _);rw[nO];split;exact bU.ae;apply bU.h;simp only[dc,oz];congr 1;rw[<-lO,<-lO,<-Mn];congr 1;simp[dF,List.zip_map_right]
def okB(P:Program)(b:Builtin)(a:Array TypeId):Prop:=
 match b with
 |.append=>Io P a
 |.cap|.clear|.copy|.delete|.len|.max|.min|.recover|.unsafeSliceData|.unsafeString=>True
 |_=>False
include C in
def L3(b:Builtin)(a:Array DU)(t:DU)(cs:Array Bool)(args:Array Dv)(h:okB P b a):bU P U (dc U) (builtin b a t cs args) (builtin b a t cs (dx U args)):=by
 have c:∀s d:Sem Dv,bU P U (pV U) s d->bU P U (dc U) (do pure (.value (<-s))) (do pure (.value (<-d))):=λs d h=>bU.e h λv=>bU.h rfl;cases b<;>first|exact h.elim|skip
 exact c _ _ (PV C a t args h);exact c _ _ (aak a t args);exact c _ _ (Uu C a t args);exact c _ _ (Ye a t args);exact c _ _ (P4 C a t args);exact c _ _ (aan a t args);exact c _ _ (aaq a t args);exact c _ _ (aar a t args);exact bU.h rfl;exact c _ _ (uP a t args);exact c _ _ (zK C a t args)
def qO(args:Array Dv)(i j:Nat):dx U (args.extract i j)=(dx U args).extract i j:=by
 simp[dF]
include C E in
def tF(fn:Fn)(a args:Array Dv)(h:My U fn=true):bU P U (dc U) (invoke (.fn fn a) args) (invoke (.fn (nN U fn) (dx U a)) (dx U args)):=by
 cases fn with
 |func f=>
  have:=tB E f (args++a) h;rw[ux]at this;simp only[nN,kA h];exact this
 |method b=>
  replace h:U.wS b=true:=h;simp only[nN,h,dG];show bU P U (dc U) (match args[0]? with|some recv=>_|_=>_) (match (dx U args)[0]? with|some recv=>_|_=>_);rw[kx];cases args[0]? with
  |none=>exact bU.j
  |some r=>
   have:=oV C E r b (args.extract 1 args.size) h;rw[qO]at this;simp only[Option.map,nO];exact this
 |methodOf t b=>
  replace h:U.wS b=true:=h;simp only[nN,h,dG];show bU P U (dc U) (match args[0]? with|some recv=>_|_=>_) (match (dx U args)[0]? with|some recv=>_|_=>_);rw[kx];cases args[0]? with
  |none=>exact bU.j
  |some r=>
   simp only[Option.map,nO];refine bU.e (br t) λd=>?_;have g:=oV C E r b (args.extract 1 args.size) h;have i:=oV C E (.iface t r) b (args.extract 1 args.size) h;rw[qO]at g i;cases d<;>first|exact g|exact i
 |via t c f p=>
  replace h:U.yy f=true:=h;simp only[nN,kA h];show bU P U (dc U) (match args[0]? with|some recv=>_|_=>_) (match (dx U args)[0]? with|some recv=>_|_=>_);rw[kx];cases args[0]? with
  |none=>exact bU.j
  |some r=>
   simp only[Option.map,nO];refine bU.e (A7 C t r c p) λv=>?_;have:=tB E f (#[v]++args.extract 1 args.size) h;rw[ux,qO]at this;exact this
 |yield l=>exact Vv l args
end
section
variable(C:fD P U)(E:qK P U)
def pEx(U:Pm):Except (Option Bool) (TypeId×Option Value)->Except (Option Bool) (TypeId×Option Value)
 |.ok x=>.ok (x.1,x.2.map (pV U))
 |.error e=>.error e
def ls:∀(l:List FieldStep) (t:DU) (x:Option Dv),bU P U (pEx U) (followBlind l t x) (followBlind l t (x.map (pV U)))
 | [],t,x=>bU.h rfl
 |s::l,t,x=>by
  unfold followBlind;refine bU.e (br s.struct) λd=>?_;cases d<;>first|exact bU.j|skip
  rename_i b;simp;cases b[s.index]? with
  |none=>exact bU.j
  |some f=>

   cases s.deref with
   |true=>cases x with
    |none=>exact bU.h rfl
    |some v=>cases v with
     |pointer a=>cases a with
      |none=>exact bU.h rfl
      |some a=>exact ls l f.type none
     |_=>exact bU.j
   |false=>cases x with
    |none=>exact ls l f.type none
    |some v=>cases v with
     |agg c=>exact bU.e (kC f.type c f.offset) λv=>ls l f.type (some v)
     |_=>exact bU.j
def za:∀(n:Nat) (t:DU) (v:Dv) (c:String),bU P U id (nilAhead n t v c) (nilAhead n t (pV U v) c)
 |0,t,v,c=>bU.h rfl
 |n+1,t,v,c=>by
  unfold nilAhead;refine bU.e (fR t) λi=>?_;simp;cases i.methods.find? (·.name==c) with
  |none=>exact bU.j
  |some m=>
   refine bU.e (ls m.path.toList t (some v)) λr=>?_;cases r with
   |error e=>exact bU.h rfl
   |ok y=>
    let ⟨g,x⟩:=y
    simp;cases m.func with
    |none=>cases x with
     |none=>exact bU.h rfl
     |some u=>cases u with
      |iface k l=>exact za n k l c
      |nilIface=>exact bU.h rfl
      |_=>exact bU.j
    |some f=>
     let ⟨f,b⟩:=f
     cases b with
     |true=>exact bU.h rfl
     |false=>
      refine bU.e (br g) λd=>?_;cases d with
      |pointer e=>cases x with
       |none=>exact bU.h rfl
       |some u=>cases u with
        |pointer a=>cases a<;>exact bU.h rfl
        |_=>exact bU.h rfl
      |_=>cases x<;>exact bU.h rfl
def Z7(P:Program)(U:Pm):Op->Prop
 |.move _|.assign _|.pick ..|.alloc _|.box ..|.build ..|.buildSlice ..|.load ..|.store ..|.nilCheck _|.binOp ..|.unOp ..|.makeInterface ..|.makeMap ..|.makeSlice ..|.slice ..|.fieldAddr ..|.field ..
 |.indexAddr ..|.index ..|.lookup ..|.mapUpdate ..|.insert ..|.range ..|.next ..|.entry _|.typeAssert ..|.extract ..|.panic _=>True
 |.convert s d _=>OkConv P s d
 |.makeFunc fn _ _=>nN U fn=fn
 |.call c=>match c.callee with|.builtin b=>okB P b c.argTypes|.invoke _ n=>U.wS n=true|.value _=>True
 |.defer c=>match c.callee with|.builtin _=>False|.invoke _ n=>U.wS n=true|.value _=>True
 |_=>False
def xY{ρ b:Operand->Dv}(a:Array Operand)(h:∀x∈a,b x=pV U (ρ x)):a.map b=dx U (a.map ρ):=by
 rw[dF,lr];exact gK h
def vV(f:Dv)(args:Array Dv):bU P U (kQ U) (Deferred.ofValue f args) (Deferred.ofValue (pV U f) (dx U args)):=by
 cases f<;>first|exact bU.j|exact bU.h rfl|exact bU.h (by simp[kQ,gO,ux])
include C E in
def ER(o:Oper)(ρ w:Operand->Dv)(h:Z7 P U o.op)(j:∀x∈o.op.operands,w x=pV U (ρ x))(hc:∀c f fn a b,o.op=.call c->c.callee=.value f->ρ f=.func fn a b->My U fn=true)(R:∀x fn a b,o.op=.nilCheck x->ρ x=.func fn a b->My U fn=true):
  bU P U (dc U) (execOp ρ o) (execOp w o):=by
 have p:∀s H:Sem Dv,bU P U (pV U) s H->bU P U (dc U) (do pure (.value (<-s))) (do pure (.value (<-H))):=λs H h=>bU.e h λv=>bU.h rfl;have M:∀s H:Sem Unit,bU P U id s H->bU P U (dc U) (do s;pure .skip) (do H;pure .skip):=λs H h=>bU.e h λv=>bU.h rfl;unfold execOp;obtain⟨T,J,B,V,N,Q⟩:=o;dsimp only at h j hc R⊢;cases J<;>first|exact h.elim|skip
 case move x=>exact bU.h (by rw[j x (by simp[Op.operands])];rfl)
 case assign x=>exact bU.h (by rw[j x (by simp[Op.operands])];rfl)
 case pick c a b=>
  dsimp only;rw[j c (by simp[Op.operands]),j a (by simp[Op.operands]),j b (by simp[Op.operands])];exact bU.e (EK _) λt=>bU.h (by cases t<;>rfl)
 case alloc e=>exact p _ _ (Un C e)
 case box e x=>exact p _ _ (by rw[j x (by simp[Op.operands])];exact aaj e _)
 case build t F=>
  refine p _ _ ?_;have:(F.map λ(x:Nat×Operand)=>(x.1,w x.2))=(F.map λ(x:Nat×Operand)=>(x.1,ρ x.2)).map λx=>(x.1,pV U x.2):=by
   rw[lr];refine gK λx A=>?_;have:=j x.2 (by simp[Op.operands];exact⟨x.1,dD A⟩);simp[this]
  show bU P U (pV U) (Instr.build t (F.map λ(x:Nat×Operand)=>(x.1,ρ x.2))) (Instr.build t (F.map λ(x:Nat×Operand)=>(x.1,w x.2)));rw[this];exact Ur C t _
 case buildSlice t n F=>
  refine p _ _ ?_;have:(F.map λ(x:Nat×Operand)=>(x.1,w x.2))=(F.map λ(x:Nat×Operand)=>(x.1,ρ x.2)).map λx=>(x.1,pV U x.2):=by
   rw[lr];refine gK λx A=>?_;have:=j x.2 (by simp[Op.operands];exact⟨x.1,dD A⟩);simp[this]
  show bU P U (pV U) (Instr.buildSlice t n (F.map λ(x:Nat×Operand)=>(x.1,ρ x.2))) (Instr.buildSlice t n (F.map λ(x:Nat×Operand)=>(x.1,w x.2)));rw[this];exact Db C t n _
 case insert t m k v=>exact M _ _ (by rw[j m (by simp[Op.operands]),j k (by simp[Op.operands]),j v (by simp[Op.operands])];exact xc C t _ _ _)
 case load t a=>exact p _ _ (by rw[j a (by simp[Op.operands])];exact Qi t _)
 case store t a v=>exact M _ _ (by rw[j a (by simp[Op.operands]),j v (by simp[Op.operands])];exact MY t _ _)
 case nilCheck x=>
  dsimp only;rw[j x (by simp[Op.operands])];cases A:ρ x with
  |pointer a=>cases a with
   |none=>exact bW C _
   |some a=>exact bU.h rfl
  |nilIface=>exact bW C _
  |nilFunc=>exact bW C _
  |func fn first captured=>
   have D:=R x fn first captured rfl A
   cases fn with
   |method z=>
    replace D:U.wS z=true:=D;simp only[pV,nN,D,dG];rw[kx];cases first[0]? with
    |none=>exact bU.h (by simp[dc,pV,nN,D])
    |some u=>
     simp only[Option.map];cases u with
     |nilIface=>exact bW C _
     |iface t v=>
      refine bU.I ?_;refine bU.e (za _ t v z) λr=>?_;simp only[id];split;exact bU.O;exact bU.h (by simp[dc,pV,nN,D])
     |_=>exact bU.h (by simp[dc,pV,nN,D])
   |methodOf t z=>
    replace D:U.wS z=true:=D;simp only[pV,nN,D,dG];exact bU.h (by simp[dc,pV,nN,D])
   |_=>exact bU.h rfl
  |_=>exact bU.h rfl
 case binOp J t x y u=>
  refine p _ _ ?_;rw[j x (by simp[Op.operands]),j y (by simp[Op.operands])];exact bU.e (Md J t x y x y rfl rfl _ _) λ_=>Uq C J t _ _
 case unOp J t x=>exact p _ _ (by rw[j x (by simp[Op.operands])];exact Vo J _)
 case convert s d x=>exact p _ _ (by rw[j x (by simp[Op.operands])];exact L5 s d _ h)
 case makeInterface t x=>exact p _ _ (by rw[j x (by simp[Op.operands])];exact xM t _)
 case makeFunc fn a b=>
  refine p _ _ ?_;rw[xY a λx A=>j x (by simp[Op.operands,A]),xY b λx A=>j x (by simp[Op.operands,A])];exact bU.h (by simp only[pV];rw[show nN U fn=fn from h])
 case makeMap t r=>
  refine p _ _ ?_;have:r.map w=(r.map ρ).map (pV U):=by
   cases r with
   |none=>rfl
   |some x=>simp[j x (by simp[Op.operands])]
  rw[this];exact Ms t _
 case makeSlice t l c=>exact p _ _ (by rw[j l (by simp[Op.operands]),j c (by simp[Op.operands])];exact E6 C t _ _)
 case slice t x l S m=>
  refine p _ _ ?_;have e:∀r:Option Operand,(∀y,r=some y->y∈(Op.slice t x l S m).operands)->r.map w=(r.map ρ).map (pV U):=λr W=>by
   cases r with
   |none=>rfl
   |some y=>simp[j y (W y rfl)]
  rw[e l (λy L=>by simp[Op.operands,L]),e S (λy L=>by simp[Op.operands,L]),e m (λy L=>by simp[Op.operands,L]),j x (by simp[Op.operands])];exact MP C t _ _ _ _
 case fieldAddr t x f=>exact p _ _ (by rw[j x (by simp[Op.operands])];exact Mj t _ f)
 case field t x f=>exact p _ _ (by rw[j x (by simp[Op.operands])];exact UI t _ f)
 case indexAddr t x i=>exact p _ _ (by rw[j x (by simp[Op.operands]),j i (by simp[Op.operands])];exact Mp C t _ _)
 case index t x i=>exact p _ _ (by rw[j x (by simp[Op.operands]),j i (by simp[Op.operands])];exact UR C t _ _)
 case lookup t x i ok=>exact p _ _ (by rw[j x (by simp[Op.operands]),j i (by simp[Op.operands])];exact Qk C t _ _ ok)
 case mapUpdate t m k v=>exact M _ _ (by rw[j m (by simp[Op.operands]),j k (by simp[Op.operands]),j v (by simp[Op.operands])];exact xc C t _ _ _)
 case range t x=>exact p _ _ (by rw[j x (by simp[Op.operands])];exact U9 t _)
 case next x s=>exact p _ _ (by rw[j x (by simp[Op.operands])];exact Ys _ s _)
 case entry x=>exact p _ _ (by rw[j x (by simp[Op.operands])];exact UD _)
 case typeAssert x t a ok=>exact p _ _ (by rw[j x (by simp[Op.operands])];exact DJ C _ t a ok)
 case extract x i=>exact p _ _ (by rw[j x (by simp[Op.operands])];exact Mg _ i)
 case panic x=>exact p _ _ (by rw[j x (by simp[Op.operands])];exact U7 C _)
 case call c=>
  obtain⟨q,g,G⟩:=c;have K:g.map w=dx U (g.map ρ):=xY g λx A=>j x (by simp[Op.operands,Call.operands,A]);cases q with
  |builtin b=>
   show bU P U (dc U) (builtin b G B _ (g.map ρ)) (builtin b G B _ (g.map w));rw[K];exact L3 C b G B _ _ h
  |invoke r n=>
   show bU P U (dc U) (invoke (.fn (.method n) #[]) (#[ρ r]++g.map ρ)) (invoke (.fn (.method n) #[]) (#[w r]++g.map w));rw[K,j r (by simp[Op.operands,Call.operands])];have:=tF C E (.method n) #[] (#[ρ r]++g.map ρ) h;rw[ux]at this;replace h:U.wS n=true:=h;simp only[nN,h,dG]at this;exact this
  |value f=>
   show bU P U (dc U) (Deferred.ofValue (ρ f) (g.map ρ) >>= λd=>invoke d.target d.args) (Deferred.ofValue (w f) (g.map w) >>= λd=>invoke d.target d.args);rw[K,j f (by simp[Op.operands,Call.operands])];cases hf:ρ f with
   |func fn first captured=>
    have:=tF C E fn captured (first++g.map ρ) (hc _ f fn first captured rfl rfl hf);rw[ux]at this;exact this
   |nilFunc=>exact(bW C (pa:=dc U) .nilDeref :)
   |_=>exactλ_ _ _ _ _ _=>aB
 case defer c=>
  obtain⟨q,g,G⟩:=c;have K:g.map w=dx U (g.map ρ):=xY g λx A=>j x (by simp[Op.operands,Call.operands,A]);cases q with
  |builtin b=>exact h.elim
  |invoke r n=>
   refine bU.h ?_;rw[K,j r (by simp[Op.operands,Call.operands])];replace h:U.wS n=true:=h;simp[dc,kQ,gO,nN,h,ux];exact⟨rfl,rfl⟩
  |value f=>
   show bU P U (dc U) (Deferred.ofValue (ρ f) (g.map ρ) >>= λd=>pure (.defer d)) (Deferred.ofValue (w f) (g.map w) >>= λd=>pure (.defer d));rw[K,j f (by simp[Op.operands,Call.operands])];exact bU.e (vV _ _) λd=>bU.h rfl
end
def PO{α:Type}(P:Program)(s:Sem α):Prop:=(∃a,∀w b,s.runT P w b=(.ok a w,b))\/∀w b,qs (s.runT P w b)
section
variable(C:fD P U)
def PO.h(a:α):PO P (Pure.pure a):=.inl ⟨a,λ_ _=>rfl⟩
def PO.O(m:String):PO P (Go.stuck m:Sem α):=.inr λ_ _=>aB
def PO.I(u:Unsupported):PO P (Go.unsupported u:Sem α):=.inr λ_ _=>aB
def PO.e(h:PO P s)(k:∀a,PO P (f a)):PO P (s >>= f):=by
 rcases h with⟨a,h⟩|h
 have e:∀w c,(s >>= f).runT P w c=(f a).runT P w c:=λw c=>by
  show (s.bind f).runT P w c=_;rw[ft,h]
 rcases k a with⟨b,k⟩|k
 exact .inl ⟨b,λw c=>(e w c).trans (k w c)⟩;exact .inr λw c=>by rw[e];exact k w c
 exact .inr λw c=>qs.h (h w c)
def PO.H{f:Ft->Sem β}(k:PO P (f P)):PO P (Go.program >>= f):=k
def PO.j(h:PO P s):bU P U id s s:=by
 rcases h with⟨a,h⟩|h
 intro w e f b c d;rw[h,h];exact ji c d rfl;exact bU.aU h
def mV(t:DU):PO P (typeInfo t):=by
 unfold typeInfo;apply PO.H;split;exact PO.h _;exact PO.O _
def BB(n:String):PO P (cutType n):=by
 unfold cutType;apply PO.H;split;exact PO.h _;exact PO.O _
def rV(t:DU):PO P (under t):=by
 unfold under;refine PO.e (mV t) λi=>?_;split;exact PO.e (mV _) λi=>PO.h _;exact PO.h _
def Dq(t:DU):PO P (kind t):=by
 unfold kind;refine PO.e (rV t) λi=>?_;dsimp only;split<;>first|exact PO.h _|exact PO.O _
def qW(w:String)(t:DU):PO P (noPack w t):=by
 unfold noPack;apply PO.H;split;exact PO.I _;exact PO.h _
def gY(w:String)(t:DU):PO P (noPackMethods w t):=by
 unfold noPackMethods;refine PO.H (PO.H ?_);split;exact PO.I _;exact PO.h _
def A4(w:String)(t:DU):PO P (noPackNamed w t):=by
 unfold noPackNamed;refine PO.H (PO.H ?_);split;exact PO.I _;exact PO.h _
def M3(t:DU):PO P (typeStr t):=by
 unfold typeStr;refine PO.e (mV t) λi=>?_;dsimp only;split;exact PO.I _;exact PO.h _
def DG(t:DU):PO P (spelt t):=by
 unfold spelt;exact PO.e (A4 _ t) λ_=>M3 t
def P5(t:DU):PO P (elem? t):=by
 unfold elem?
 refine PO.e (rV t) λi=>?_;split<;>exact PO.h _
def BN(t:DU):PO P (hasName t):=by
 unfold hasName;refine PO.e (mV t) λi=>?_;split<;>exact PO.h _
def ky(T V:DU):PO P (implements T V):=by
 unfold implements;refine PO.e (gY _ _) λ_=>PO.e (gY _ _) λ_=>PO.e (rV T) λa=>PO.e (rV V) λb=>?_;split;exact PO.h _;exact PO.e (mV _) λ_=>PO.h _;exact PO.h _
def yD(T V:DU):PO P (directlyAssignable T V):=by
 unfold directlyAssignable;split;exact PO.h _;refine PO.e (BN T) λa=>PO.e (BN V) λb=>?_;split;exact PO.h _;refine PO.e (rV T) λa=>PO.e (rV V) λb=>?_;let ⟨t,c⟩:=a
 let ⟨v,d⟩:=b
 dsimp only;split<;>exact PO.h _
include C in
def BM(t:DU):bU P U (pV U) (handle t) (handle t):=by
 unfold handle;exact bU.I (bU.h (qR C t))
include C in
def Dp(h:Dv):handleType P (pV U h)=handleType P h:=by
 cases h with
 |pointer a=>cases a with
  |none=>rfl
  |some a=>
   show (if (U.f a.block==P.globals.size)=true then some a.off else none)=(if (a.block==P.globals.size)=true then some a.off else none);have:(U.f a.block==P.globals.size)=(a.block==P.globals.size):=by
    rw[lE,jD,jD];refine⟨λh=>U.EH (h.trans C.e.symm),λh=>by rw[h,C.e]⟩
   rw[this]
 |_=>rfl
include C in
def tI(h:Dv):bU P U id (ofHandle h) (ofHandle (pV U h)):=by
 unfold ofHandle;apply bU.I;rw[Dp C];cases handleType P h with
 |none=>exact bU.j
 |some t=>exact bU.h rfl
include C in
def aat(t:DU)(a:Addr)(b:Nat):bU P U (pV U) (ReflectliteValue.mk t a b) (ReflectliteValue.mk t (bh U a) b):=by
 unfold ReflectliteValue.mk;exact bU.e (BM C t) λh=>bU.e (Dq t).j λk=>bU.h rfl
include C in
def Fr(v:Dv):bU P U (pV U) (ReflectliteValue.unpack v) (ReflectliteValue.unpack (pV U v)):=by
 unfold ReflectliteValue.unpack;cases v<;>first|exact bU.j|exact bU.h rfl|skip
 exact bU.e (qT _ _) λa=>aat C _ a 0
def iR(m:String)(k:Nat):bU P U pa (ReflectliteValue.valueError m k) (ReflectliteValue.valueError m k):=by
 unfold ReflectliteValue.valueError;exact bU.e (BB _).j λt=>bU.e (qN _) λe=>bU.e (BU e rfl) λa=>bU.af rfl
def lu(m:String):bU P U pa (panicString m) (panicString m):=by
 unfold panicString;exact bU.I (bU.af rfl)
def U6(U:Pm):Option (TypeId×Addr×Nat)->Option (TypeId×Addr×Nat):=Option.map λx=>(x.1,bh U x.2.1,x.2.2)
include C in
def zn(v:Dv):bU P U (U6 U) (ReflectliteValue.partsAny v) (ReflectliteValue.partsAny (pV U v)):=by
 cases v with
 |agg g=>
  obtain⟨l⟩:=g;rcases l with _|⟨x,_|⟨y,_|⟨z,_|⟨u,l⟩⟩⟩⟩
  exactλ_ _ _ _ _ _=>aB;exactλ_ _ _ _ _ _=>aB;exactλ_ _ _ _ _ _=>aB;have d:∀z:Dv,(∀n,z≠.int .u64 n)->bU P U (U6 U) (ReflectliteValue.partsAny (.agg #[x,y,z])) (ReflectliteValue.partsAny (pV U (.agg #[x,y,z]))):=λz c=>by
   cases z with
   |int k n=>cases k<;>first|exact absurd rfl (c _)|(cases y<;>first|exactλ_ _ _ _ _ _=>aB|(rename_i p;cases p<;>exactλ_ _ _ _ _ _=>trivial))
   |_=>cases y<;>first|exactλ_ _ _ _ _ _=>aB|(rename_i p;cases p<;>exactλ_ _ _ _ _ _=>trivial)
  by_cases c:∃n,z=.int .u64 n;obtain⟨n,rfl⟩:=c;have b:∀n:Int,n≠0->bU P U (U6 U) (ReflectliteValue.partsAny (.agg #[x,y,.int .u64 n])) (ReflectliteValue.partsAny (pV U (.agg #[x,y,.int .u64 n]))):=λn f=>by
   cases y with
   |pointer p=>cases p with
    |none=>rcases n with (_|n)|n<;>first|exact absurd rfl f|exactλ_ _ _ _ _ _=>aB
    |some a=>rcases n with (_|n)|n<;>first|exact absurd rfl f|exact bU.e (tI C x) λt=>bU.h rfl
   |_=>rcases n with (_|n)|n<;>first|exact absurd rfl f|exactλ_ _ _ _ _ _=>aB
  by_cases h0:n=0;subst h0;exact bU.h rfl;exact b n h0;exact d z λn h=>c ⟨n,h⟩;exactλ_ _ _ _ _ _=>aB
 |_=>exact bU.j
include C in
def Dy(v:Dv):bU P U (U6 U) (ReflectliteValue.parts v) (ReflectliteValue.parts (pV U v)):=by
 unfold ReflectliteValue.parts;refine bU.e (zn C v) λr=>?_;cases r with
 |none=>exact bU.h rfl
 |some r=>
  let ⟨t,a,b⟩:=r
  exact bU.e (qW _ t).j λ_=>bU.h rfl
include C in
def vS(z b:Sem Dv)(c:bU P U (pV U) z b)(f f':DU->Addr->Nat->Nat->Sem Dv)(d:∀t a n k,bU P U (pV U) (f t a n k) (f' t (bh U a) n k))(args:Array Dv):bU P U (pV U) (ReflectliteValue.method z f args) (ReflectliteValue.method b f' (dx U args)):=by
 obtain⟨l⟩:=args;rcases l with _|⟨x,_|⟨y,l⟩⟩
 exactλ_ _ _ _ _ _=>aB;refine bU.e (Dy C x) λr=>?_;cases r with
 |none=>exact c
 |some r=>exact d _ _ _ _
 exactλ_ _ _ _ _ _=>aB
include C in
def E8(z b:Sem Dv)(c:bU P U (pV U) z b)(f f':DU->Addr->Nat->Nat->Sem Dv)(d:∀t a n k,bU P U (pV U) (f t a n k) (f' t (bh U a) n k))(args:Array Dv):bU P U (pV U) (ReflectliteValue.methodAny z f args) (ReflectliteValue.methodAny b f' (dx U args)):=by
 obtain⟨l⟩:=args;rcases l with _|⟨x,_|⟨y,l⟩⟩
 exactλ_ _ _ _ _ _=>aB;refine bU.e (zn C x) λr=>?_;cases r with
 |none=>exact c
 |some r=>exact d _ _ _ _
 exactλ_ _ _ _ _ _=>aB
include C in
def zI(t:DU):bU P U (pV U) (ReflectliteType.toType t) (ReflectliteType.toType t):=by
 unfold ReflectliteType.toType;exact bU.e (BB _).j λc=>bU.e (BM C t) λh=>bU.h rfl
def UT(t:DU)(a:Addr)(n k:Nat):bU P U (pV U) (ReflectliteValue.isNil t a n k) (ReflectliteValue.isNil t (bh U a) n k):=by
 unfold ReflectliteValue.isNil;split;refine bU.e (pa:=id) (iR _ _) λ_=>bU.e (jr t a) λv=>?_;cases v<;>first|exact bU.h rfl|(rename_i p;cases p<;>exact bU.h rfl)|(rename_i p _ _;cases p<;>exact bU.h rfl)
 refine bU.e (jr t a) λv=>?_;cases v<;>first|exact bU.h rfl|(rename_i p;cases p<;>exact bU.h rfl)|(rename_i p _ _;cases p<;>exact bU.h rfl)
include C in
def Uz(t:DU)(a:Addr)(n k:Nat):bU P U (pV U) (ReflectliteValue.elem t a n k) (ReflectliteValue.elem t (bh U a) n k):=by
 unfold ReflectliteValue.elem;by_cases h:(k != 20&&k != 22)=true
 ·rw[aH h,aH h];intro w f g c i l;refine AY.e (iR (pa:=id) _ _ w f g c i l) fun _ w1 m o d b _ _ _=>?_;exfalso;unfold ReflectliteValue.valueError at b;have : uv P (do let t ← cutType "*internal/reflectlite.ValueError"; let e ← newVar (← elemOf t) (.agg #[strVal "reflectlite.Value.Elem", .int .u8 (Int.ofNat k)]); goPanic (.iface t (.pointer (some e))) : Sem PUnit) fun _ => False := uv.e fun _ => uv.e fun _ => uv.e fun _ => uv.h;exact this _ _ _ _ _ b
 rw[ay h,ay h];refine bU.e (jr t a) λv=>bU.e (P5 t).j λe=>?_;simp;have q:k=20\/k=22:=by simp at h;omega
 rcases q with rfl|rfl
 exact Fr C v;cases v with
 |pointer p=>cases p with
  |none=>exact bU.h rfl
  |some p=>cases e with
   |none=>exact iR _ _
   |some e=>exact aat C e p _
 |_=>exact iR _ _
include C in
def YD(args:Array Dv):bU P U (pV U) (ReflectliteValue.set args) (ReflectliteValue.set (dx U args)):=by
 let ⟨l⟩:=args
 rcases l with _|⟨x,_|⟨y,_|⟨z,l⟩⟩⟩
 exactλ_ _ _ _ _ _=>aB;exactλ_ _ _ _ _ _=>aB;refine bU.e (Dy C x) λr=>bU.e (Dy C y) λq=>?_;cases r with
 |none=>exact bU.H
 |some r=>cases q with
  |none=>exact bU.H
  |some q=>
   let ⟨c,a,f⟩:=r
   let ⟨d,b,i⟩:=q
   show bU P U (pV U) (if (f/ReflectliteValue.flagAddr%2==0)=true then (unsupported _ >>= λ_=>_) else _) (if (f/ReflectliteValue.flagAddr%2==0)=true then (unsupported _ >>= λ_=>_) else _);split;exact bU.O;refine bU.e (jr d b) λv=>bU.e (yD c d).j λok=>?_;simp only[id];cases ok with
   |true=>exact bU.e (py c a v) λ_=>bU.h rfl
   |false=>
    refine bU.e (ky c d).j λn=>?_;cases n with
    |true=>
     refine bU.e (Dq d).j λk=>?_;dsimp only[id];by_cases g:(k==20)=true;simp only[g,dG];cases v<;>first|exact bU.O|exact bU.e (py c a _) λ_=>bU.h rfl
     simp only[g,nX,dZ];exact bU.e (py c a (.iface d v)) λ_=>bU.h rfl
    |false=>
     refine bU.e (DG d).j λm=>bU.e (DG c).j λo=>?_;exact bU.e (pa:=id) (lu _) λ_=>bU.h rfl
 exactλ_ _ _ _ _ _=>aB
def QU(C:fD P U)(args:Array Dv):bU P U (pV U) (ReflectliteType.typeOf args) (ReflectliteType.typeOf (dx U args)):=by
 obtain⟨l⟩:=args;rcases l with _|⟨x,_|⟨y,l⟩⟩
 exactλ_ _ _ _ _ _=>aB;cases x<;>first|exactλ_ _ _ _ _ _=>aB|exact bU.h rfl|exact zI C _
 cases x<;>exactλ_ _ _ _ _ _=>aB
include C in
def vU(v:Dv):bU P U id (ReflectliteType.ofRtype v) (ReflectliteType.ofRtype (pV U v)):=by
 cases v with
 |agg a=>
  obtain⟨l⟩:=a;rcases l with _|⟨x,_|⟨y,l⟩⟩
  exactλ_ _ _ _ _ _=>aB;exact bU.e (tI C x) λt=>bU.e (qW _ t).j λ_=>bU.h rfl;exactλ_ _ _ _ _ _=>aB
 |_=>exact bU.j
include C in
def Mu(f:DU->Sem Dv)(a:∀t,bU P U (pV U) (f t) (f t))(args:Array Dv):bU P U (pV U) (ReflectliteType.method f args) (ReflectliteType.method f (dx U args)):=by
 obtain⟨l⟩:=args;rcases l with _|⟨x,_|⟨y,l⟩⟩
 exactλ_ _ _ _ _ _=>aB;exact bU.e (vU C x) λt=>a t;exactλ_ _ _ _ _ _=>aB
include C in
def Uy(t:DU):bU P U (pV U) (ReflectliteType.elem t) (ReflectliteType.elem t):=by
 unfold ReflectliteType.elem;refine bU.e (P5 t).j λe=>?_;cases e with
 |none=>exact bU.e (DG t).j λm=>lu _
 |some e=>exact zI C e
include C in
def zv(c:String)(f:DU->DU->Sem Bool)(d:∀a b,bU P U id (f a b) (f a b))(args:Array Dv):bU P U (pV U) (ReflectliteType.relation c f args) (ReflectliteType.relation c f (dx U args)):=by
 obtain⟨l⟩:=args;rcases l with _|⟨x,_|⟨y,_|⟨z,l⟩⟩⟩
 exactλ_ _ _ _ _ _=>aB;exactλ_ _ _ _ _ _=>aB
 .cases y<;>first|exactλ_ _ _ _ _ _=>aB|exact lu _|skip
  exact bU.e (vU C _) λu=>bU.e (vU C x) λt=>bU.e (d _ _) λb=>bU.h rfl
 cases y<;>exactλ_ _ _ _ _ _=>aB
def Yo(u t:DU):bU P U id (ReflectliteType.implements_ u t) (ReflectliteType.implements_ u t):=by
 unfold ReflectliteType.implements_;refine bU.e (Dq u).j λk=>?_;simp only[id];split;exact bU.e (pa:=id) (lu _) λ_=>bU.e (gY _ t).j λ_=>bU.e (qW _ u).j λ_=>(ky u t).j;exact bU.e (gY _ t).j λ_=>bU.e (qW _ u).j λ_=>(ky u t).j
def C8(u t:DU):bU P U id (ReflectliteType.assignableTo u t) (ReflectliteType.assignableTo u t):=by
 apply PO.j;unfold ReflectliteType.assignableTo;split;exact PO.e (gY _ t) λ_=>PO.e (gY _ u) λ_=>PO.e (yD u t) λa=>PO.e (ky u t) λb=>PO.h _;exact PO.e (yD u t) λa=>PO.e (ky u t) λb=>PO.h _
def EQ:∀(n t:Nat) (a:Array Dv),dx U a=a->dx U (BytealgMakeNoZero.digits n t a)=BytealgMakeNoZero.digits n t a
 |0,t,a,h=>h
 |n+1,t,a,h=>by
  rw[BytealgMakeNoZero.digits];apply EQ n _ _;rw[dF,Array.map_push,<-dF,h];rfl
def Dw(C:fD P U)(g c:Array DU)(args:Array Dv):bU P U (pV U) (BytealgMakeNoZero.makeNoZero g c args) (BytealgMakeNoZero.makeNoZero g c (dx U args)):=by
 obtain⟨l⟩:=args;rcases l with _|⟨x,_|⟨y,l⟩⟩
 exactλ_ _ _ _ _ _=>aB
 .cases x with
  |int k n=>
         cases k<;>first|exactλ_ _ _ _ _ _=>aB|skip
         show bU P U (pV U) (match c[0]? with|some t=>_|_=>_) (match c[0]? with|some t=>_|_=>_);cases c[0]? with
         |none=>exact bU.j
         |some t=>
          refine bU.e (br t) λd=>?_;cases d<;>first|exact bU.j|skip
          rename_i e;dsimp only[id];split;exact bU.ai _;refine bU.e bU.V λf=>bU.e (vJ _) λ_=>bU.e bU.V λb=>?_;have:=ox (P:=P) (U:=U) e (BytealgMakeNoZero.digits f b #[]);rw[EQ f b #[] rfl]at this;exact bU.e this λa=>bU.h rfl
  |_=>exactλ_ _ _ _ _ _=>aB
 cases x with
 |int k n=>cases k<;>exactλ_ _ _ _ _ _=>aB
 |_=>exactλ_ _ _ _ _ _=>aB
def EM(a:Addr):∀(n:Nat) (b:DS),bU P U id (Bytes.loadBytes a n b) (Bytes.loadBytes (bh U a) n b)
 |0,b=>bU.h rfl
 |n+1,b=>by
  unfold Bytes.loadBytes;refine bU.e (bU.ao rfl) λv=>?_;cases v<;>first|exact bU.j|skip
  rename_i k m;cases k<;>first|exact bU.j|skip
  have:=EM (a.add 1) n (b.push m.toNat.toUInt8);rw[sI]at this;exact this
def vK(v:Dv):bU P U id (Bytes.bytesOf v) (Bytes.bytesOf (pV U v)):=by
 cases v with
 |string s=>exact bU.h rfl
 |slice a n c=>cases a with
  |none=>exact bU.h rfl
  |some a=>exact EM a n _
 |_=>exact bU.j
def E0(args:Array Dv):bU P U (pV U) (BytealgIndexByte.indexByte args) (BytealgIndexByte.indexByte (dx U args)):=by
 obtain⟨l⟩:=args;rcases l with _|⟨x,_|⟨y,_|⟨z,l⟩⟩⟩
 exactλ_ _ _ _ _ _=>aB;exactλ_ _ _ _ _ _=>aB;refine bU.e (vK x) λb=>bU.e (pa:=id) ?_ λc=>?_;cases y with
 |int k n=>cases k<;>first|exact bU.j|exact bU.h rfl
 |_=>exact bU.j
 dsimp only[id];split<;>exact bU.h rfl;exactλ_ _ _ _ _ _=>aB
def YC(args:Array Dv):bU P U (pV U) (AbiNoEscape.same args) (AbiNoEscape.same (dx U args)):=by
 let ⟨l⟩:=args
 rcases l with _|⟨x,_|⟨y,l⟩⟩
 exactλ_ _ _ _ _ _=>aB;exact bU.h rfl;exactλ_ _ _ _ _ _=>aB
end
structure iW where
 b:Nat->Bool
 h:String->Bool
 e:Code->Bool
 G:Nat->Bool
def fU(κ:iW)(n b:Nat):Prop:=b<n/\κ.G b=false
def qP(κ:iW)(n:Nat):Fn->Prop
 |.func f=>κ.b f=true
 |.via _ _ f _=>κ.b f=true
 |.method m=>κ.h m=true
 |.methodOf _ m=>κ.h m=true
 |.yield l=>fU κ n l
mutual
def gQ(κ:iW)(n:Nat):Value->Prop
 |.pointer a=>∀x,a=some x->fU κ n x.block
 |.slice a _ _=>∀x,a=some x->fU κ n x.block
 |.map r=>∀x,r=some x->fU κ n x
 |.chan r=>∀x,r=some x->fU κ n x
 |.func fn first captured=>qP κ n fn/\gA κ n first/\gA κ n captured
 |.iface _ v=>gQ κ n v
 |.agg cs=>gA κ n cs
 |.tuple vs=>gA κ n vs
 |.bool _=>True
 |.int _ _=>True
 |.float _ _=>True
 |.complex _ _ _=>True
 |.string _=>True
 |.nilFunc=>True
 |.nilIface=>True
def gA(κ:iW)(n:Nat):Array Value->Prop
 |⟨l⟩=>p9 κ n l
def p9(κ:iW)(n:Nat):List Value->Prop
 | []=>True
 |v::l=>gQ κ n v/\p9 κ n l
end
variable{n:Nat}{κ:iW}{Q:α->Prop}
def Of(κ:iW)(U:Pm):Prop:=U.yy=κ.b/\U.wS=κ.h/\U.TZ=κ.e
def nk(κ:iW)(n:Nat)(U ρ:Pm):Prop:=Of κ U/\Of κ ρ/\∀b,fU κ n b->U.f b=ρ.f b
def kq(κ:iW)(n:Nat)(U ρ:Pm):Prop:=Of κ U/\Of κ ρ/\U.k≠ρ.k/\∀b,¬fU κ n b->U.f b≠ρ.f b
def ET(h:nk κ n U ρ)(a:qP κ n fn):nN U fn=nN ρ fn:=by
 obtain⟨⟨c,d,_⟩,⟨e,g,_⟩,i⟩:=h;cases fn with
 |func f=>replace a:κ.b f=true:=a;simp[nN,oy,c,e,a]
 |via t p f b=>replace a:κ.b f=true:=a;simp[nN,oy,c,e,a]
 |method m=>replace a:κ.h m=true:=a;simp[nN,d,g,a]
 |methodOf t m=>replace a:κ.h m=true:=a;simp[nN,d,g,a]
 |yield l=>simp only[nN];rw[i l a]
def BX(h:nk κ n U ρ){a:Option Addr}(b:∀x,a=some x->fU κ n x.block):a.map (bh U)=a.map (bh ρ):=by
 cases a with
 |none=>rfl
 |some a=>simp only[Option.map,bh];rw[h.2.2 _ (b a rfl)]
def tJ(h:nk κ n U ρ){a:Option Nat}(b:∀x,a=some x->fU κ n x):a.map U.f=a.map ρ.f:=by
 cases a with
 |none=>rfl
 |some a=>simp;rw[h.2.2 _ (b a rfl)]
mutual
theorem rW(h:nk κ n U ρ):∀v,gQ κ n v->pV U v=pV ρ v
 |.pointer a,hv=>by simp only[pV];rw[BX h hv]
 |.slice a _ _,hv=>by simp only[pV];rw[BX h hv]
 |.map r,hv=>by simp only[pV];rw[tJ h hv]
 |.chan r,hv=>by simp only[pV];rw[tJ h hv]
 |.func fn a b,hv=>by simp only[pV];rw[ET h hv.1,jJ h a hv.2.1,jJ h b hv.2.2]
 |.iface _ v,hv=>by simp only[pV];rw[rW h v hv]
 |.agg cs,hv=>by simp only[pV];rw[jJ h cs hv]
 |.tuple cs,hv=>by simp only[pV];rw[jJ h cs hv]
 |.bool _,_=>rfl
 |.int _ _,_=>rfl
 |.float _ _,_=>rfl
 |.complex _ _ _,_=>rfl
 |.string _,_=>rfl
 |.nilFunc,_=>rfl
 |.nilIface,_=>rfl
theorem jJ(h:nk κ n U ρ):∀a,gA κ n a->dx U a=dx ρ a
 |⟨l⟩,hv=>by simp only[dx];rw[Fv h l hv]
theorem Fv(h:nk κ n U ρ):∀l,p9 κ n l->qe U l=qe ρ l
 | [],_=>rfl
 |v::l,hv=>by simp only[qe];rw[rW h v hv.1,Fv h l hv.2]
end
def kz(h:kq κ n U ρ){b:Nat}(e:U.f b=ρ.f b):fU κ n b:=cK λq=>h.2.2.2 b q e
def yO(h:kq κ n U ρ)(e:nN U fn=nN ρ fn):qP κ n fn:=by
 obtain⟨⟨c,d,_⟩,⟨g,i,_⟩,a,j⟩:=h;cases fn with
 |func f=>
  show κ.b f=true;cases q:κ.b f with
  |true=>rfl
  |false=>simp[nN,oy,c,g,q]at e;exact absurd e a
 |via t p f b=>
  show κ.b f=true;cases q:κ.b f with
  |true=>rfl
  |false=>simp[nN,oy,c,g,q]at e;exact absurd e a
 |method m=>
  show κ.h m=true;cases q:κ.h m with
  |true=>rfl
  |false=>simp[nN,d,i,q]at e;exact absurd e a
 |methodOf t m=>
  show κ.h m=true;cases q:κ.h m with
  |true=>rfl
  |false=>simp[nN,d,i,q]at e;exact absurd e a
 |yield l=>exact cK λq=>j l q (by simpa[nN] using e)
def KP(h:kq κ n U ρ)(a:Option Addr)(e:a.map (bh U)=a.map (bh ρ)):∀x,a=some x->fU κ n x.block:=by
 rintro x rfl;simp only[Option.map,ba,bh,jY]at e;exact kz h e.1
def zi(h:kq κ n U ρ)(a:Option Nat)(e:a.map U.f=a.map ρ.f):∀x,a=some x->fU κ n x:=by
 rintro x rfl;simp at e;exact kz h e
mutual
theorem xk(h:kq κ n U ρ):∀v,pV U v=pV ρ v->gQ κ n v
 |.pointer a,e=>KP h a (by simpa[pV] using e)
 |.slice a _ _,e=>KP h a (by simpa[pV] using e)
 |.map r,e=>zi h r (by simpa[pV] using e)
 |.chan r,e=>zi h r (by simpa[pV] using e)
 |.func fn a b,e=>by
  simp only[pV,Value.func.injEq]at e;exact⟨yO h e.1,lV h a e.2.1,lV h b e.2.2⟩
 |.iface _ v,e=>xk h v (by simpa[pV] using e)
 |.agg cs,e=>lV h cs (by simpa[pV] using e)
 |.tuple cs,e=>lV h cs (by simpa[pV] using e)
 |.bool _,_=>aB
 |.int _ _,_=>aB
 |.float _ _,_=>aB
 |.complex _ _ _,_=>aB
 |.string _,_=>aB
 |.nilFunc,_=>aB
 |.nilIface,_=>aB
theorem lV(h:kq κ n U ρ):∀a,dx U a=dx ρ a->gA κ n a
 |⟨l⟩,e=>QW h l (by simpa[dx] using e)
theorem QW(h:kq κ n U ρ):∀l,qe U l=qe ρ l->p9 κ n l
 | [],_=>aB
 |v::l,e=>by
  simp only[qe,gr]at e;exact⟨xk h v e.1,QW h l e.2⟩
end
end Go.Eqv
