/- Parts of the proof. -/
import Derived.Test.YtbebfliimjjohabGreatDoorM02
set_option maxRecDepth 100000
set_option maxHeartbeats 8000000
set_option linter.all false
namespace Go.Eqv
variable{U:Pm}{P:Ft}{α β:Type}(C:fD P U){p:α->Prop}{s:Sem α}{f:α->Sem β}{pa:α->α}{s':Sem α}
def MN{γ:Type}(s:Sem α)(f:α->Sem β)(g:β->Sem γ):(s.bind f).bind g=s.bind λa=>(f a).bind g:=by
 induction s with
 |pure a=>rfl
 |halt h=>rfl
 |_=>simp only[Sem.bind, *]
def QE(s:Sem α):s.bind Sem.pure=s:=by
 induction s with
 |pure a=>rfl
 |halt h=>rfl
 |_=>simp only[Sem.bind, *]
theorem vQ:LawfulMonad Sem:=LawfulMonad.mk' Sem (λs=>QE s) (λ_ _=>rfl) (λs f g=>MN s f g)
include C in
def Un(t:DU):bU P U (pV U) (Instr.alloc t true (.tuple #[])) (Instr.alloc t true (.tuple #[])):=by
 unfold Instr.alloc;exact bU.e (gH C t) λz=>bU.e (qT t z) λa=>bU.h rfl
def aaj(t:DU)(v:Dv):bU P U (pV U) (Instr.box t v) (Instr.box t (pV U v)):=by
 unfold Instr.box;exact bU.e (qT t v) λa=>bU.h rfl
def KG(b:Nat):∀(l:List (Dv×Nat)) (a:Array Dv),(l.map λx=>(pV U x.1,x.2)).foldl (λa (x:Dv×Nat)=>a.setIfInBounds (b+x.2) x.1) (dx U a)=dx U (l.foldl (λa (x:Dv×Nat)=>a.setIfInBounds (b+x.2) x.1) a)
 | [],a=>rfl
 |x::l,a=>by
  simp;rw[yb,KG b l]
def Dh(a:Nat->Option (Nat×Nat)):∀(l:List (Nat×Dv)) (b:Array Dv),Instr.fill a (dx U b) (l.map λx=>(x.1,pV U x.2))=(Instr.fill a b l).map (dx U)
 | [],b=>rfl
 |(i,v)::l,b=>by
  rw[bT,Instr.fill,Instr.fill];cases a i with
  |none=>rfl
  |some p=>
   obtain⟨c,d⟩:=p;have e:(pV U v).cells.size=v.cells.size:=by rw[kw,nO]
   simp only[e,nO];split;rfl;have f:(pV U v).cells.zipIdx.foldl (λb (x:Dv×Nat)=>b.setIfInBounds (c+x.2) x.1) (dx U b)=dx U (v.cells.zipIdx.foldl (λb (x:Dv×Nat)=>b.setIfInBounds (c+x.2) x.1) b):=by
    rw[<-lO,<-lO,<-KG];congr 1;rw[kw,dF];simp[List.zipIdx_map]
   rw[f];exact Dh a l _
def BS(f:α->Sem β)(c:∀a,bU P U id (f a) (f a)):∀l:List α,bU P U id (l.mapM f) (l.mapM f)
 | []=>by rw[Bs];exact bU.h rfl
 |a::l=>by
  haveI:=vQ;rw[yq];exact bU.e (c a) λb=>bU.e (BS f c l) λbs=>bU.h rfl
include C in
def Ur(t:DU)(a:Array (Nat×Dv)):bU P U (pV U) (Instr.build t a) (Instr.build t (a.map λx=>(x.1,pV U x.2))):=by
 unfold Instr.build;refine bU.e (gH C t) λz=>bU.e (br t) λd=>?_;have c:(a.map λx=>(x.1,pV U x.2)).toList=a.toList.map λx=>(x.1,pV U x.2):=aY;simp only[id,c,kw];cases d<;>first|exact bU.j|skip
 rename_i n e;refine bU.e (fh e) λi=>?_;simp only[id,Dh];cases Instr.fill _ z.cells a.toList with
 |none=>exact bU.j
 |some g=>exact bU.h rfl
 rename_i k;refine bU.e (pa:=id) ?_ λb=>?_;haveI:=vQ;rw[kP];refine bU.e (pa:=id) (BS _ ?_ _) λl=>bU.h rfl;intro f;exact bU.e (fh f.type) λn=>bU.h rfl;simp only[id,Dh];cases Instr.fill _ z.cells a.toList with
 |none=>exact bU.j
 |some g=>exact bU.h rfl
def xM(t:DU)(x:Dv):bU P U (pV U) (Instr.makeInterface t x) (Instr.makeInterface t (pV U x)):=by
 unfold Instr.makeInterface;refine bU.e (br t) λd=>?_;cases d<;>first|exact bU.j|exact bU.h rfl
def Ms(t:DU)(r:Option Dv):bU P U (pV U) (Instr.makeMap t r) (Instr.makeMap t (r.map (pV U))):=by
 unfold Instr.makeMap;cases r with
 |none=>exact bU.e (bU.ab (by simp[dR])) λr=>bU.h rfl
 |some v=>
  refine bU.e (br t) λd=>?_;cases d<;>first|exact bU.ae|skip
  exact bU.e (rO v) λ_=>bU.e (bU.ab (by simp[dR])) λr=>bU.h rfl
def BY(zero:Array Dv)(n:Nat):(Array.range n).map ((dx U zero)[· % (dx U zero).size]!)=dx U ((Array.range n).map (zero[· % zero.size]!)):=by
 rw[dF,dF,lr,eh];congr 1
 funext i;show (zero.map (pV U))[i%zero.size]! = pV U (zero[i%zero.size]!);rw[getElem!_def,getElem!_def,b9];cases zero[i%zero.size]?<;>rfl
include C in
def E6(t:DU)(l c:Dv):bU P U (pV U) (Instr.makeSlice t l c) (Instr.makeSlice t (pV U l) (pV U c)):=by
 unfold Instr.makeSlice;refine bU.e (br t) λd=>?_;cases d<;>first|exact bU.j|skip
 rename_i e;refine bU.e (rO l) λl=>bU.e (rO c) λc=>bU.e (fR e) λi=>?_;simp;have row:∀(n:Nat) (zero:Array Dv),bU P U (bh U) (newRow e ((Array.range n).map (zero[· % zero.size]!))) (newRow e ((Array.range n).map ((dx U zero)[· % (dx U zero).size]!))):=λn zero=>by
  rw[BY];exact ox e _
 split;split;exact bU.ai _;split;exact bU.ai _;exact bU.e bU.V λn=>bU.ai _;refine bU.e (vJ _) λ_=>bU.e (fh e) λb=>?_;simp;split;exact bU.e (pa:=dx U) (bU.h rfl) λzero=>bU.e (row _ zero) λa=>bU.h rfl;exact bU.e (gH C e) λz=>bU.e (pa:=dx U) (bU.h (by rw[kw])) λzero=>bU.e (row _ zero) λa=>bU.h rfl
include C in
def Db(t:DU)(b:Nat)(f:Array (Nat×Dv)):bU P U (pV U) (Instr.buildSlice t b f) (Instr.buildSlice t b (f.map λx=>(x.1,pV U x.2))):=by
 unfold Instr.buildSlice;refine bU.e (br t) λd=>?_;cases d<;>first|exact bU.j|skip
 rename_i e;refine bU.e (fh e) fun g=>?_;have l:(f.map fun x=>(x.1,pV U x.2)).toList=f.toList.map fun x=>(x.1,pV U x.2):=aY;simp;have c : ∀ zero : Array Value, bU P U (pV U) (match Instr.fill (fun i => some (i * g, g)) ((Array.range (b * g)).map (zero[· % zero.size]!)) f.toList with | some cells => (do pure (.slice (some (← newRow e cells)) b b) : Sem Value) | _ => stuck "buildSlice: a part of the wrong size") (match Instr.fill (fun i => some (i * g, g)) ((Array.range (b * g)).map ((dx U zero)[· % (dx U zero).size]!)) (f.toList.map fun x => (x.1, pV U x.2)) with | some cells => (do pure (.slice (some (← newRow e cells)) b b) : Sem Value) | _ => stuck "buildSlice: a part of the wrong size") := fun zero => by
  rw[BY,Dh];cases Instr.fill _ _ f.toList with
  |none=>exact bU.j
  |some k=>exact bU.e (ox e k) λa=>bU.h rfl
 split;exact bU.O;split;exact bU.e (pa:=dx U) (bU.h rfl) λzero=>c zero;exact bU.e (gH C e) λz=>bU.e (pa:=dx U) (bU.h (by rw[kw])) λzero=>c zero
include C in
def MP(t:DU)(x:Dv)(l h m:Option Dv):bU P U (pV U) (Instr.sliceAt t x l h m) (Instr.sliceAt t (pV U x) (l.map (pV U)) (h.map (pV U)) (m.map (pV U))):=by
 unfold Instr.sliceAt;refine bU.e (br t) λd=>?_;cases d<;>first|exact Vj C t x l h m|skip
 rename_i n e;refine bU.e (mU x) λa=>bU.e (lz C _ _ _ l h m) λr=>bU.e (fh e) λb=>bU.h ?_;simp only[id,pV,Option.map];split;rfl;simp[sI]
def Qv(a:Addr)(c b:Nat):bU P U (bh U) (partAt a c b) (partAt (bh U a) c b):=by
 unfold partAt;refine bU.e (mM a) λx=>?_;refine bU.e (mM {block:=a.block,off:=a.off+c}) λy=>bU.h ?_;simp;split;rfl;rfl
def oX(a:Addr)(f:Field):bU P U (bh U) (fieldPlace a f) (fieldPlace (bh U a) f):=by
 unfold fieldPlace;refine bU.e (fh f.type) λn=>?_;simp;split;exact Qv a _ _;exact bU.h (sI a _)
def Mj(s:DU)(a:Dv)(f:Nat):bU P U (pV U) (Instr.fieldAt s a f) (Instr.fieldAt s (pV U a) f):=by
 unfold Instr.fieldAt;refine bU.e (br s) λd=>?_;cases d<;>first|exact bU.j|skip
 rename_i b;simp;cases b[f]? with
 |none=>exact bU.j
 |some c=>exact bU.e (mU a) λx=>bU.e (oX x c) λy=>bU.h rfl
def UI(t:DU)(x:Dv)(f:Nat):bU P U (pV U) (Instr.field t x f) (Instr.field t (pV U x) f):=by
 unfold Instr.field;refine bU.e (br t) λd=>?_;cases d<;>first|exact bU.j|skip
 rename_i a;simp;cases a[f]? with
 |none=>exact bU.j
 |some c=>exact bU.e (Uo x) λb=>kC _ b _
include C in
def UR(t:DU)(x i:Dv):bU P U (pV U) (Instr.index t x i) (Instr.index t (pV U x) (pV U i)):=by
 unfold Instr.index;refine bU.e (rN i) λa=>bU.e (br t) λd=>?_;simp;cases d<;>first|(cases x<;>exact bU.j)|skip
 .cases x<;>first|exact bU.j|skip
  simp only[pV];split;exact bU.h rfl;exact iY C _ _ _ _
 .cases x<;>first|exact bU.j|skip
  simp only[pV];split;exact bU.e (fh _) λn=>kC _ _ _;exact iY C _ _ _ _
def U9(t:DU)(x:Dv):bU P U (pV U) (Instr.range t x) (Instr.range t (pV U x)):=by
 unfold Instr.range;refine bU.e (br t) λd=>?_;simp;cases d<;>first|(cases x<;>exact bU.ae)|skip
 .cases x<;>first|exact bU.ae|skip
  exact bU.e (pa:=dR U) (bU.h rfl) λa=>bU.e (bU.ab rfl) λr=>bU.h rfl
 .cases x<;>first|exact bU.ae|skip
  rename_i r;cases r with
  |none=>exact bU.e (pa:=dR U) (bU.h rfl) λa=>bU.e (bU.ab rfl) λr=>bU.h rfl
  |some r=>
   refine bU.Z rfl (λo b=>?_) (λ_ _ _ _=>aB);cases o<;>first|exactλ_ _ _ _ _ _=>aB|skip
   exact bU.e (pa:=dR U) (bU.h rfl) λa=>bU.e (bU.ab rfl) λr=>bU.h rfl
def Mg(x:Dv)(i:Nat):bU P U (pV U) (Instr.extract x i) (Instr.extract (pV U x) i):=by
 unfold Instr.extract;cases x<;>first|exact bU.j|skip
 simp only[pV,kx];rename_i a;cases a[i]? with
 |none=>exact bU.j
 |some v=>exact bU.h rfl
include C in
def DJ(x:Dv)(t a:DU)(ok:Bool):bU P U (pV U) (Instr.typeAssert x t a ok) (Instr.typeAssert (pV U x) t a ok):=by
 unfold Instr.typeAssert;have f:∀v,bU P U (pV U) (pure (if ok then .tuple #[v,.bool true] else v):Sem Dv) (pure (if ok then .tuple #[pV U v,.bool true] else pV U v):Sem Dv):=λv=>bU.h (by cases ok<;>rfl);have b:∀(s d:Option DU) (m:String),bU P U (pV U) (if ok then (do pure (.tuple #[<-zeroValue a,.bool false]):Sem Dv) else runtimePanic (.typeAssertion s d a m)) (if ok then (do pure (.tuple #[<-zeroValue a,.bool false]):Sem Dv) else runtimePanic (.typeAssertion s d a m)):=λs d m=>by
  cases ok with
  |true=>exact bU.e (gH C a) λz=>bU.h rfl
  |false=>exact(bW C (pa:=pV U) (.typeAssertion s d a m) :)
 refine bU.e (br a) λd=>?_;simp;cases d with
 |interface g=>
  cases x<;>first|exact bU.j|exact b _ _ _|skip
  rename_i c v;refine bU.e (fR c) λi=>?_;simp;split;exact f (.iface c v);exact b _ _ _
 |_=>
  cases x<;>first|exact bU.j|exact b _ _ _|skip
  rename_i c v;simp only[pV];split;exact f v;exact b _ _ _
def ES(p:MapEntry->Bool)(b:∀e,p (dU U e)=p e)(a:Array MapEntry):(a.map (dU U)).filter p=(a.filter p).map (dU U):=by
 apply vE;simp only[Array.toList_filter,Array.toList_map,List.filter_map];congr 2
 funext e;exact b e
def Ys(i:Dv)(s:Bool)(t:DU):bU P U (pV U) (Instr.next i s t) (Instr.next (pV U i) s t):=by
 unfold Instr.next;cases i<;>first|exact bU.j|skip
 rename_i a;cases a with
 |none=>exact bU.j
 |some a=>
  obtain⟨r,k,C⟩:=a;cases k with
  |succ n=>exact bU.j
  |zero=>
   refine bU.Z rfl (λo q=>?_) (λ_ _ _ _=>by cases s<;>trivial);cases o<;>first|(cases s<;>exactλ_ _ _ _ _ _=>aB)|skip
   rename_i v w;cases s with
   |false=>exactλ_ _ _ _ _ _=>aB
   |true=>
    dsimp only[dR];split;exact bU.e (bU.ac q rfl rfl) λ_=>bU.h rfl;exact bU.h rfl
   .rename_i m d seen last;cases s with
    |true=>cases m<;>exactλ_ _ _ _ _ _=>aB
    |false=>
     cases m with
     |none=>exact bU.h rfl
     |some m=>
      refine bU.Z rfl (λo y=>?_) (λ_ _ _ _=>aB);cases o<;>first|exactλ_ _ _ _ _ _=>aB|skip
      rename_i f l;dsimp only[dR];have z:(f.map (dU U)).isEmpty=f.isEmpty:=by unfold Array.isEmpty;rw[eh]
      have A:(f.map (dU U)).all (·.born>=last)=f.all (·.born>=last):=by
       rw[Array.all_map];rfl
      rw[z,A];split;exact bU.O;have u:∀p:MapEntry->Bool,(∀e,p (dU U e)=p e)->((f.map (dU U)).filter λe=>!seen.contains e.born).filter p=(((f.filter λe=>!seen.contains e.born).filter p).map (dU U)):=λp B=>by
       rw[(ES (U:=U) (λe=>!seen.contains e.born) (λ_=>rfl) f),ES p B]
      have hc:∀b new:Array MapEntry,((if (b.map (dU U)).isEmpty then #[none] else #[])++(b.map (dU U)++new.map (dU U)).map some:Array (Option MapEntry))=((if b.isEmpty then #[none] else #[])++(b++new).map some).map (Option.map (dU U)):=λb new=>by
       have:(b.map (dU U)).isEmpty=b.isEmpty:=by unfold Array.isEmpty;rw[eh]
       rw[this];cases b.isEmpty<;>simp[Eu]
      rw[u (λx=>decide (x.born<d)) (λ_=>rfl),u (λx=>decide (x.born>=d)) (λ_=>rfl)];generalize ((f.filter λe=>!seen.contains e.born).filter λx=>decide (x.born<d))=b;generalize ((f.filter λe=>!seen.contains e.born).filter λx=>decide (x.born>=d))=new;rw[hc,eh];generalize ((if b.isEmpty then #[none] else #[])++(b++new).map some:Array (Option MapEntry))=g;refine bU.e bU.V λn=>?_;simp;cases g[n]? with
      |none=>exact bU.j
      |some c=>cases c with
       |none=>exact bU.h rfl
       |some e=>exact bU.e (bU.ac q rfl rfl) λ_=>bU.h rfl
def UD(b:Dv):bU P U (pV U) (Instr.entry b) (Instr.entry (pV U b)):=by
 unfold Instr.entry;cases b<;>first|exact bU.j|skip
 rename_i a;cases a with
 |none=>exact bU.j
 |some a=>
  obtain⟨r,c,l⟩:=a;cases c with
  |succ n=>exact bU.j
  |zero=>
   refine bU.Z rfl (λo k=>?_) (λ_ _ _ _=>aB);cases o<;>first|exactλ_ _ _ _ _ _=>aB|skip
   rename_i m d seen last;cases m with
   |none=>exactλ_ _ _ _ _ _=>aB
   |some m=>
    dsimp only[dR,Option.map];cases seen.back? with
    |none=>exact bU.j
    |some f=>
     refine bU.Z rfl (λo k=>?_) (λ_ _ _ _=>aB);cases o<;>first|exactλ_ _ _ _ _ _=>aB|skip
     rename_i g i;dsimp only[dR];split;exact bU.O;have:(g.map (dU U)).find? (·.born==f)=(g.find? (·.born==f)).map (dU U):=by
      rw[Array.find?_map];rfl
     rw[this];cases g.find? (·.born==f) with
     |none=>exact bU.H
     |some e=>exact bU.h rfl
include C in
def KV(a:BinOp)(k:IntKind)(x:Int)(b:IntKind)(y:Int):bU P U (pV U) (Op.shift a k x b y) (Op.shift a k x b y):=by
 unfold Op.shift;split;exact bW C _;cases a<;>first|exact bU.j|exact bU.h rfl
def yU(a:BinOp)(k:IntKind)(x y:Int):bU P U (pV U) (Op.intArith a k x y) (Op.intArith a k x y):=by
 cases a<;>first|exact bU.j|exact bU.h rfl
include C in
def Qd(a:BinOp)(k:IntKind)(x y:Int):bU P U (pV U) (Op.intDiv a k x y) (Op.intDiv a k x y):=by
 unfold Op.intDiv;split;exact bW C _;cases a<;>first|exact bU.j|exact bU.h rfl
def BP(a:BinOp)(k:IntKind)(x y:Int):bU P U (pV U) (Op.intBits a k x y) (Op.intBits a k x y):=by
 cases a<;>first|exact bU.j|exact bU.h rfl
def Qc(a:BinOp)(x y:Int):bU P U (pV U) (Op.intCmp a x y) (Op.intCmp a x y):=by
 cases a<;>first|exact bU.j|exact bU.h rfl
def ej(a:BinOp)(x y:DS):bU P U (pV U) (Op.stringOp a x y) (Op.stringOp a x y):=by
 unfold Op.stringOp;cases a<;>first|exact bU.j|exact bU.h rfl|skip
 dsimp only;split;exact bU.H;exact bU.h rfl
def Vo(b:UnOp)(x:Dv):bU P U (pV U) (Op.unary b x) (Op.unary b (pV U x)):=by
 unfold Op.unary;cases b<;>cases x<;>first|exact bU.j|exact bU.h rfl|exact yU _ _ _ _|exact BP _ _ _ _|(rename_i a;cases a<;>first|exact bU.j|exact bU.H)
inductive ChL {α:Type} (p:α->Prop):Sem α->Prop
 |pure (a:α):p a->ChL p (.pure a)
 |choose (q:Question) (k:Nat->Sem α):(∀n,ChL p (k n))->ChL p (.choose q k)
 |stuck (m:String):ChL p (.halt (.stuck m))
 |unsup (u:Unsupported):ChL p (.halt (.unsupported u))
def ChL.e{q:β->Prop}(h:ChL p s)(k:∀a,p a->ChL q (f a)):ChL q (s >>= f):=by
 show ChL q (s.bind f);induction h with
 |pure a b=>exact k a b
 |choose d g _ c=>exact ChL.choose _ _ λn=>c n
 |stuck m=>exact ChL.stuck m
 |unsup u=>exact ChL.unsup u
def ChL.h(h:ChL p s)(b:∀a,p a->pa a=a):bU P U pa s s:=by
 induction h with
 |pure a c=>exact bU.h (b a c)
 |choose q k _ d=>exact bU.e (s:=Go.choose q) (s':=Go.choose q) bU.V λn=>d n
 |stuck m=>exact bU.a5
 |unsup u=>exact bU.a7
def C3(v:Value):Prop:=(∃k b,v=.float k b)\/(∃k a b,v=.complex k a b)\/(∃b,v=.bool b)\/∃k n,v=.int k n
def C3.e{v:Dv}(h:C3 v):pV U v=v:=by
 rcases h with⟨_,_,rfl⟩|⟨_,_,_,rfl⟩|⟨_,rfl⟩|⟨_,_,rfl⟩<;>rfl
def uD(a:BinOp)(k:FloatKind)(x y:Nat):ChL C3 (Op.floatArith a k x y):=by
 unfold Op.floatArith;have h:∀r:Option Nat,ChL C3 (match r with|some r=>pure (.float k r)|none=>(do pure (.float k (<-choose (.nanBits k x y)))):Sem Dv):=λr=>by
  cases r with
  |none=>exact ChL.choose _ _ λn=>ChL.pure _ (.inl ⟨_,_,rfl⟩)
  |some r=>exact ChL.pure _ (.inl ⟨_,_,rfl⟩)
 cases a<;>first|exact ChL.stuck _|exact h _
def yN(a:BinOp)(k:FloatKind)(x y:Nat):ChL C3 (Op.floatCmp a k x y):=by
 cases a<;>first|exact ChL.stuck _|exact ChL.pure _ (.inr (.inr (.inl ⟨_,rfl⟩)))
def mO(k:FloatKind)(b:Nat)(d:FloatKind):ChL C3 (Conv.floatToFloat k b d):=by
 unfold Conv.floatToFloat;split;exact ChL.pure _ (.inl ⟨_,_,rfl⟩);split;exact ChL.choose _ _ λn=>ChL.pure _ (.inl ⟨_,_,rfl⟩);exact ChL.pure _ (.inl ⟨_,_,rfl⟩);dsimp only;split;exact ChL.choose _ _ λn=>ChL.pure _ (.inl ⟨_,_,rfl⟩);exact ChL.pure _ (.inl ⟨_,_,rfl⟩)
def Dj(k:FloatKind)(b:Nat)(d:IntKind):ChL C3 (Conv.floatToInt k b d):=by
 unfold Conv.floatToInt;have h:ChL C3 (do pure (.int d (d.wrap (<-choose (.floatToInt k b d)))):Sem Dv):=ChL.choose _ _ λn=>ChL.pure _ (.inr (.inr (.inr ⟨_,_,rfl⟩)));split;split;exact ChL.pure _ (.inr (.inr (.inr ⟨_,_,rfl⟩)));exact h;exact h
def Uf{α:Type}(_:α):Prop:=True
def dY(a:BinOp)(k:FloatKind)(x y:Nat):ChL Uf (Op.Complex.arith a k x y):=by
 unfold Op.Complex.arith;refine ChL.e (uD _ _ _ _) λv _=>?_;cases v<;>first|exact ChL.stuck _|exact ChL.pure _ aB
def yF(a:BinOp)(k:FloatKind)(x y:Nat):ChL Uf (Op.Complex.cmp a k x y):=by
 unfold Op.Complex.cmp;refine ChL.e (yN _ _ _ _) λv _=>?_;cases v<;>first|exact ChL.stuck _|exact ChL.pure _ aB
def lT(k:FloatKind)(x:Nat)(d:FloatKind):ChL Uf (Op.Complex.conv k x d):=by
 unfold Op.Complex.conv;split;exact ChL.pure _ aB;refine ChL.e (mO _ _ _) λv _=>?_;cases v<;>first|exact ChL.stuck _|exact ChL.pure _ aB
def MD(a b c d:Nat):ChL Uf (Op.Complex.product a b c d):=by
 unfold Op.Complex.product Op.Complex.sub Op.Complex.mul Op.Complex.add;exact ChL.e (dY _ _ _ _) λ_ _=>ChL.e (dY _ _ _ _) λ_ _=>ChL.e (dY _ _ _ _) λ_ _=>ChL.e (dY _ _ _ _) λ_ _=>ChL.e (dY _ _ _ _) λ_ _=>ChL.e (dY _ _ _ _) λ_ _=>ChL.pure _ aB
def EO(s a b c d:Nat):ChL Uf (Op.Complex.corrected s a b c d):=by
 unfold Op.Complex.corrected Op.Complex.sub Op.Complex.mul Op.Complex.add;exact ChL.e (dY _ _ _ _) λ_ _=>ChL.e (dY _ _ _ _) λ_ _=>ChL.e (dY _ _ _ _) λ_ _=>ChL.e (dY _ _ _ _) λ_ _=>ChL.e (dY _ _ _ _) λ_ _=>ChL.e (dY _ _ _ _) λ_ _=>ChL.e (dY _ _ _ _) λ_ _=>ChL.e (dY _ _ _ _) λ_ _=>ChL.pure _ aB
def Iz(a b c d:Nat):ChL Uf (Op.Complex.quotient a b c d):=by
 unfold Op.Complex.quotient Op.Complex.sub Op.Complex.mul Op.Complex.add Op.Complex.quo;refine ChL.e (yF _ _ _ _) λt _=>?_;dsimp only;split;all_goals
  refine ChL.e (dY _ _ _ _) λ_ _=>ChL.e (dY _ _ _ _) λ_ _=>ChL.e (dY _ _ _ _) λ_ _=>ChL.e (dY _ _ _ _) λ_ _=>ChL.e (dY _ _ _ _) λ_ _=>ChL.e (dY _ _ _ _) λ_ _=>ChL.e (dY _ _ _ _) λ_ _=>ChL.e (dY _ _ _ _) λ_ _=>ChL.e (dY _ _ _ _) λ_ _=>?_;refine ChL.e (p:=Uf) (ChL.pure _ aB) λf _=>ChL.e (yF _ _ _ _) λ_ _=>ChL.e (yF _ _ _ _) λ_ _=>?_;repeat' split
  all_goals first|exact ChL.pure _ aB|exact EO _ _ _ _ _|exact ChL.e (dY _ _ _ _) λ_ _=>ChL.e (dY _ _ _ _) λ_ _=>ChL.pure _ aB
def EN(f:BinOp)(k:FloatKind)(a b c d:Nat):ChL C3 (Op.complexOp f k a b c d):=by
 unfold Op.complexOp;cases f<;>first|exact ChL.stuck _|skip
 exact ChL.e (dY _ _ _ _) λ_ _=>ChL.e (dY _ _ _ _) λ_ _=>ChL.pure _ (.inr (.inl ⟨_,_,_,rfl⟩));exact ChL.e (dY _ _ _ _) λ_ _=>ChL.e (dY _ _ _ _) λ_ _=>ChL.pure _ (.inr (.inl ⟨_,_,_,rfl⟩));refine ChL.e (lT _ _ _) λ_ _=>ChL.e (lT _ _ _) λ_ _=>ChL.e (lT _ _ _) λ_ _=>ChL.e (lT _ _ _) λ_ _=>?_;exact ChL.e (p:=Uf) (MD _ _ _ _) λg _=>ChL.e (lT _ _ _) λ_ _=>ChL.e (lT _ _ _) λ_ _=>ChL.pure _ (.inr (.inl ⟨_,_,_,rfl⟩));refine ChL.e (lT _ _ _) λ_ _=>ChL.e (lT _ _ _) λ_ _=>ChL.e (lT _ _ _) λ_ _=>ChL.e (lT _ _ _) λ_ _=>?_;exact ChL.e (p:=Uf) (Iz _ _ _ _) λg _=>ChL.e (lT _ _ _) λ_ _=>ChL.e (lT _ _ _) λ_ _=>ChL.pure _ (.inr (.inl ⟨_,_,_,rfl⟩));exact ChL.e (yF _ _ _ _) λ_ _=>ChL.e (yF _ _ _ _) λ_ _=>ChL.pure _ (.inr (.inr (.inl ⟨_,rfl⟩)));exact ChL.e (yF _ _ _ _) λ_ _=>ChL.e (yF _ _ _ _) λ_ _=>ChL.pure _ (.inr (.inr (.inl ⟨_,rfl⟩)))
include C in
def xj(a b:Addr):bU P U id (Op.twoPlaces a b) (Op.twoPlaces (bh U a) (bh U b)):=by
 unfold Op.twoPlaces;apply bU.I;have g:((bh U a).block != (bh U b).block)=(a.block != b.block):=by
  have:=C9 (U:=U) a b;simp only[bne,this]
 rw[g];by_cases c:(a.block != b.block||decide (a.block>=P.globals.size))=true;rw[aH c];exact bU.O;rw[ay c];by_cases d:(a.block != b.block||decide ((bh U a).block>=P.globals.size))=true;rw[aH d];simp only[oP,f9,not_or]at c d;have f:U.wk=true:=by
  cases f:U.wk with
  |true=>rfl
  |false=>exact absurd (C.h f _ (Hz c.2)) (Nat.not_lt.2 (d.resolve_left c.1))
 exact bU.a8 f λw i=>aB;rw[ay d];exact bU.e (mM a) λx=>bU.e (mM b) λy=>bU.h rfl
include C in
def LX(k:IntKind)(a b:Addr):bU P U (pV U) (Op.addrSub k a b) (Op.addrSub k (bh U a) (bh U b)):=by
 unfold Op.addrSub;exact bU.e (xj C a b) λr=>bU.h rfl
include C in
def LW(c:BinOp)(a b:Addr):bU P U (pV U) (Op.addrCmp c a b) (Op.addrCmp c (bh U a) (bh U b)):=by
 unfold Op.addrCmp;refine bU.e (xj C a b) λr=>?_;cases c<;>first|exact bU.H|exact bU.h rfl
def Bv(k:IntKind)(a:Addr)(n:Int):bU P U (pV U) (Op.addrMod k a n) (Op.addrMod k (bh U a) n):=by
 unfold Op.addrMod;refine bU.ag rfl (λc s=>?_) λc w f g d j l _=>aB;cases s with
 |none=>exact bU.H
 |some s=>
  refine bU.e (fR s.1) λi=>?_;simp;split;exact bU.O;exact bU.e (mM a) λb=>bU.h rfl
def j0(ts:Array DU)(t:DU)(x y:Dv):bU P U (pV U) (Builtin.unsafeAdd_ ts t #[x,y]) (Builtin.unsafeAdd_ ts t #[pV U x,pV U y]):=by
 cases x<;>first|exactλ_ _ _ _ _ _=>aB|skip
 rename_i p;show bU P U (pV U) (asInt y >>= λn=>_) (asInt (pV U y) >>= λn=>_);refine bU.e (rO y) λn=>?_;simp;split;cases p with
 |none=>exact bU.H
 |some a=>
  refine bU.e (ZB a.block).1 λv=>?_;cases v with
  |none=>exact bU.h rfl
  |some v=>exact bU.O
 split;exact bU.O;cases p with
 |none=>exact bU.H
 |some a=>
  refine bU.ag rfl (λhx s=>?_) λhx w w' es es' hr he _=>aB;cases s with
  |none=>exact bU.H
  |some s=>
   refine bU.I ?_;show bU P U (pV U) (match cellAtBytes P P.depth s.1 (s.2/P.cellsOf s.1) a.off n with|some off=>pure (.pointer (some {a with off}))|none=>unsupported _) (match cellAtBytes P P.depth s.1 (s.2/P.cellsOf s.1) a.off n with|some off=>pure (.pointer (some {bh U a with off}))|none=>unsupported _);cases cellAtBytes P P.depth s.1 (s.2/P.cellsOf s.1) a.off n with
   |none=>exact bU.H
   |some off=>exact bU.h rfl
def Ic(a:Addr)(l:Bool):bU P U (pV U) (asNumber a l) (asNumber (bh U a) l):=by
 unfold asNumber;exact bU.e (bU.ab rfl) λr=>bU.h rfl
def nM(t:DU)(x y:Dv):bU P U (pV U) (movedNumber t x y) (movedNumber t (pV U x) (pV U y)):=by
 unfold movedNumber;refine bU.e (br t) λd=>?_;by_cases h:d=.unsafePointer;subst h;exact bU.O;have a:(match d with|.unsafePointer=>true|_=>false)=false:=by cases d<;>first|rfl|exact absurd rfl h
 simp;cases x with
 |pointer p=>cases p with
  |none=>exact j0 #[] t (.pointer none) y
  |some n=>
   refine bU.e (fF n) λal=>?_;refine bU.e (j0 #[] t (.pointer (some al.1)) y) λv=>?_;cases v with
   |pointer q=>cases q with
    |none=>exact bU.h rfl
    |some q=>exact Ic q _
   |_=>exact bU.h rfl
 |_=>exact j0 #[] t _ y
def y7(t:DU)(x y:Dv):bU P U (pV U) (movedPointer t x y) (movedPointer t (pV U x) (pV U y)):=by
 unfold movedPointer;cases x with
 |pointer p=>cases p with
  |none=>exact j0 #[] t (.pointer none) y
  |some a=>
   refine bU.e (ZB a.block).2 λv=>?_;cases v with
   |none=>exact j0 #[] t (.pointer (some a)) y
   |some v=>exact bU.O
 |_=>exact j0 #[] t _ y
def bU.av{s0:Sem α}(e:s=s0)(h:∀w a,qs (s0.runT P w a)):bU P U pa s s':=e▸bU.aU h
def bU.a3{s0 a:Sem α}(e:s=s0)(b:s'=a)(h:bU P U pa s0 a):bU P U pa s s':=e▸b▸h
include C in
def Uq(m:BinOp)(t:DU)(x y:Dv):bU P U (pV U) (binOp m t x y) (binOp m t (pV U x) (pV U y)):=by
 have f:bU P U (pV U) (do pure (.bool ((<-Op.equal t x y))):Sem Dv) (do pure (.bool ((<-Op.equal t (pV U x) (pV U y)))):Sem Dv):=bU.e (De C t x y) λb=>bU.h rfl;have g:bU P U (pV U) (do pure (.bool (!(<-Op.equal t x y))):Sem Dv) (do pure (.bool (!(<-Op.equal t (pV U x) (pV U y)))):Sem Dv):=bU.e (De C t x y) λb=>bU.h rfl;cases m<;>(cases x with
  |int k a=>cases y with
   |int l b=>first
    |exact KV C .shl k a l b
    |exact KV C .shr k a l b
    |(
      by_cases i:k≠l;exact bU.av (aH i) λ_ _=>aB;refine bU.a3 (ay i) (ay i) ?_;first|exact yU _ k a b|exact Qd C _ k a b|exact BP _ k a b|exact Qc _ a b)
   |pointer p=>first|exact f|exact g|exact nM t (.pointer p) (.int k a)|(cases p<;>first|exact bU.H|exact bU.e (fF _) λu=>Bv _ _ _)
   |_=>first|exact bU.j|exact f|exact g
  |pointer p=>cases y with
   |int k b=>first|exact f|exact g|exact nM t (.pointer p) (.int k (-b))|exact bU.e (br t) λd=>(by cases d<;>first|exact y7 t (.pointer p) (.int k b)|exact nM t (.pointer p) (.int k b))|(cases p<;>first|exact bU.H|exact bU.e (fF _) λu=>Bv _ _ _)
   |pointer q=>first|exact f|exact g|(cases p<;>cases q<;>first|exact bU.H|exact bU.e (fF _) λu=>bU.e (fF _) λv=>LW C _ _ _|exact bU.e (fF _) λu=>bU.e (fF _) λv=>LX C _ _ _)
   |_=>first|exact f|exact g|(cases p<;>exact bU.H)
  |float k a=>cases y with
   |float l b=>
    by_cases i:k≠l;exact bU.av (aH i) λ_ _=>aB;refine bU.a3 (ay i) (ay i) ?_;first|exact(uD _ k a b).h λ_ h=>h.e|exact(yN _ k a b).h λ_ h=>h.e
   |pointer p=>first|exact f|exact g|(cases p<;>exact bU.H)
   |_=>first|exact bU.j|exact f|exact g
  |complex k a b=>cases y with
   |complex l c d=>
    by_cases i:k≠l;exact bU.av (aH i) λ_ _=>aB;refine bU.a3 (ay i) (ay i) ?_;exact(EN _ k a b c d).h λ_ h=>h.e
   |pointer p=>first|exact f|exact g|(cases p<;>exact bU.H)
   |_=>first|exact bU.j|exact f|exact g
  |string a=>cases y with
   |string b=>first|exact ej .add a b|exact ej .sub a b|exact ej .mul a b|exact ej .quo a b|exact ej .rem a b|exact ej .and a b|exact ej .or a b|exact ej .xor a b|exact ej .shl a b|exact ej .shr a b|exact ej .andNot a b|exact ej .eql a b|exact ej .neq a b|exact ej .lss a b|exact ej .leq a b|exact ej .gtr a b|exact ej .geq a b
   |pointer p=>first|exact f|exact g|(cases p<;>exact bU.H)
   |_=>first|exact bU.j|exact f|exact g
  |_=>cases y with
   |pointer p=>first|exact f|exact g|(cases p<;>exact bU.H)
   |_=>first|exact bU.j|exact f|exact g)
def wX:∀(n:Nat) (t:DU) (x y:Dv),bU P U id (Op.eqGuardIn n t x y) (Op.eqGuardIn n t (pV U x) (pV U y))
 |0,t,x,y=>bU.H
 |n+1,t,x,y=>by
  have g:=wX n;unfold Op.eqGuardIn;refine bU.e (br t) λd=>?_;simp only[id];cases d with
  |interface j=>cases x<;>cases y<;>exact bU.h rfl
  |struct i=>
   cases x<;>cases y<;>first|exact bU.h rfl|skip
   rename_i a c;simp only[pV];refine bU.e (yP (pb:=id) (λf b=>?_) i _) λr=>?_;split;refine bU.e (kC _ a _) λu=>bU.e (kC _ c _) λv=>bU.e (g _ u v) λq=>?_;cases q<;>exact bU.h rfl;exact bU.h rfl;let ⟨r,_⟩:=r
   cases r<;>exact bU.h rfl
  |array l e=>
   cases x<;>cases y<;>first|exact bU.h rfl|skip
   rename_i a c;simp only[pV];refine bU.e (fh e) λm=>?_;refine bU.e (yR (pb:=id) (λf b=>?_) _ _) λr=>?_;refine bU.e (kC _ a _) λu=>bU.e (kC _ c _) λv=>bU.e (g _ u v) λq=>?_;cases q<;>exact bU.h rfl;let ⟨r,_⟩:=r
   cases r<;>exact bU.h rfl
  |_=>cases x<;>cases y<;>exact bU.h rfl
def E5:Operand->Bool
 |.const _=>true
 |_=>false
def Hs(x:Operand):Operand:=if E5 x then .const .nilFunc else .tmp 0
def wY(c:BinOp)(t:DU)(x y:Operand)(a b:Dv):eqGuard c t x y a b=eqGuard c t (Hs x) (Hs y) a b:=by
 cases x<;>cases y<;>rfl
def Md(c:BinOp)(t:DU)(x y x' i:Operand)(l:E5 x'=E5 x)(m:E5 i=E5 y)(a b:Dv):bU P U id (eqGuard c t x y a b) (eqGuard c t x' i (pV U a) (pV U b)):=by
 rw[wY c t x y,wY c t x' i];have n:Hs x'=Hs x:=by unfold Hs;rw[l]
 have o:Hs i=Hs y:=by unfold Hs;rw[m]
 rw[n,o];have j:Hs x=.const .nilFunc\/Hs x=.tmp 0:=by unfold Hs;split<;>simp
 have k:Hs y=.const .nilFunc\/Hs y=.tmp 0:=by unfold Hs;split<;>simp
 generalize Hs x=X at j;generalize Hs y=Y at k;have f:∀(u:Unsupported) (v:Dv),pV U v=v->bU P U id (Op.eqGuardIn Op.maxDepth t a b >>= λq=>if q=true then unsupported u else pure ()) (Op.eqGuardIn Op.maxDepth t (pV U a) (pV U b) >>= λq=>if q=true then unsupported u else pure ()):=λu v _=>by
  refine bU.e (wX _ t a b) λq=>?_;cases q;exact bU.h rfl;exact bU.H
 have g:∀c:BinOp,(c=.eql\/c=.neq)->bU P U id (eqGuard c t X Y a b) (eqGuard c t X Y (pV U a) (pV U b)):=by
  rintro c d;cases a with
  |nilIface=>cases b with
   |nilIface=>
    rcases d with rfl|rfl<;>rcases j with rfl|rfl<;>rcases k with rfl|rfl
    all_goals first|exact bU.h rfl|exact f _ .nilFunc rfl
   |_=>rcases d with rfl|rfl<;>exact bU.h rfl
  |agg p=>cases b with
   |agg r=>
    rcases d with rfl|rfl
    all_goals
     show bU P U id (if (!P.eqGuardType P.depth t)=true then pure () else _) (if (!P.eqGuardType P.depth t)=true then pure () else _);split;exact bU.h rfl;exact f _ .nilFunc rfl
   |_=>rcases d with rfl|rfl<;>exact bU.h rfl
  |_=>rcases d with rfl|rfl<;>(cases b<;>exact bU.h rfl)
 cases c<;>first|exact g _ (.inl rfl)|exact g _ (.inr rfl)|exact bU.h rfl
def EU{f f':Dv->β->Sem (ForInStep β)}(h:∀x b,bU P U (KR id) (f x b) (f' (pV U x) b)):∀(l:List Dv) (b:β),bU P U id (forIn l b f) (forIn (qe U l) b f')
 | [],b=>bU.h rfl
 |x::l,b=>by
  rw[qe,oR,oR];refine bU.e (h x b) λs=>?_;cases s with
  |done b=>exact bU.h rfl
  |yield b=>exact EU h l b
def xI(x:Dv):bU P U (pV U) (Conv.bytesToString x) (Conv.bytesToString (pV U x)):=by
 unfold Conv.bytesToString;cases x<;>first|exact bU.j|skip
 rename_i a n c;cases a with
 |none=>exact bU.h rfl
 |some a=>
  refine bU.e (qS a n) λd=>?_;rw[<-lP,<-lP,ri];refine bU.e (pa:=id) (EU (λv b=>?_) _ _) λr=>bU.h rfl;cases v with
  |int k m=>cases k<;>first|exact bU.j|exact bU.h rfl
  |_=>exact bU.j
theorem Im(t:DU)(c:Array Dv)(w:Ba)(a:Array Event):(newRow t c).runT P w a=(.ok ⟨w.heap.size,0,none⟩ {w with heap:=w.heap.push (.cells c t)},a):=rfl
def xP(e:DU)(s:DS):bU P U (pV U) (Conv.stringToBytes e s) (Conv.stringToBytes e s):=by
 unfold Conv.stringToBytes;refine bU.e bU.V λg=>?_;simp;intro w p q k m r;have i:dx U (s.data.map (λb=>.int .u8 b.toNat)++Array.replicate (g-s.size) (.int .u8 0))=s.data.map (λb=>.int .u8 b.toNat)++Array.replicate (g-s.size) (.int .u8 0):=by
  rw[dF,nj,lr,AS];rfl
 have j:=ox (P:=P) (U:=U) e (s.data.map (λb=>.int .u8 b.toNat)++Array.replicate (g-s.size) (.int .u8 0));rw[i]at j;refine AY.e (j w p q k m r) λa w1 u v n d _ l y=>?_;rw[Im]at d;simp at d;obtain⟨⟨rfl,rfl⟩,rfl⟩:=d;have o:U.X w.heap.size=false:=by
  cases hx:U.X w.heap.size with
  |false=>rfl
  |true=>
   obtain⟨c,t,j,_⟩:=m.x _ hx;exact absurd (gu j) (sZ _)
 have z:bU P U id (markStringish (FI w 0)) (markStringish (bh U (FI w 0))):=by
  unfold markStringish;refine bU.e (bU.a2 o rfl) λA=>?_;cases A with
  |none=>exact bU.h rfl
  |some x=>exact bU.aq o rfl
 exact(bU.e (pb:=pV U) (f:=λ_=>pure _) (f':=λ_=>pure _) z λ_=>bU.h rfl) _ _ _ _ y.h l
def Fh(a:Addr):bU P U (bh U) (Conv.seenAt a) (Conv.seenAt (bh U a)):=by
 unfold Conv.seenAt;refine bU.e (ZB a.block).1 λv=>?_;cases v with
 |none=>exact bU.h rfl
 |some v=>
  let ⟨seen,u⟩:=v
  show bU P U (bh U) (if (a.off=0&&a.spot.isNone)=true then pure seen else _) (if (a.off=0&&a.spot.isNone)=true then pure (bh U seen) else _);split;exact bU.h rfl;show bU P U (bh U) (if (a.spot.isSome||seen.spot.isSome)=true then (unsupported _ >>= λ_=>_) else _) (if (a.spot.isSome||seen.spot.isSome)=true then (unsupported _ >>= λ_=>_) else _);split;exact bU.O;apply bU.I;have b:(bh U a).off=a.off:=rfl;have d:(bh U seen).off=seen.off:=rfl;have g:(bh U seen).block=U.f seen.block:=rfl;simp only[b,d,g];cases byteOfCell P P.depth u a.off with
  |none=>exact bU.H
  |some β=>
   refine bU.ag rfl (λi s=>?_) λi w k l j m o _=>aB;cases s with
   |none=>exact bU.H
   |some s=>
    let ⟨e,n⟩:=s
    dsimp only;split;exact bU.O;cases cellAtBytes P P.depth e (n/P.cellsOf e) seen.off β with
    |none=>exact bU.H
    |some c=>exact bU.h rfl
def qh(s d:DU)(x:Dv)(h:(∃t,P.underlying s=some (.pointer t)/\P.underlying d=some .unsafePointer)\/∃t,P.underlying s=some .unsafePointer/\P.underlying d=some (.pointer t)):bU P U (pV U) (Conv.unsafePointer s d x) (Conv.unsafePointer s d (pV U x)):=by
 unfold Conv.unsafePointer;rcases h with⟨t,f,g⟩|⟨t,f,g⟩
 .refine bU.ah f (bU.ah g ?_);cases x<;>first|exact bU.j|skip
  rename_i p;cases p with
  |none=>exact bU.h rfl
  |some a=>
   refine bU.e (Fh a) λu=>bU.e (L4 u.block) λn=>?_;simp only[id];refine bU.e (fh t) λc=>?_;simp only[id];have A:(match n with|some cells=>decide ((bh U u).off>=cells)&&(bh U u).spot.isNone|none=>false)=(match n with|some cells=>decide (u.off>=cells)&&u.spot.isNone|none=>false):=rfl;cases n with
   |none=>

    split;exact bU.e (bU.ab rfl) λr=>bU.h rfl;exact bU.h rfl
   |some n=>
    show bU P U (pV U) (if (decide (c=0)||(decide (u.off>=n)&&u.spot.isNone))=true then _ else _) (if (decide (c=0)||(decide (u.off>=n)&&u.spot.isNone))=true then _ else _);split;exact bU.e (bU.ab rfl) λr=>bU.h rfl;exact bU.h rfl
 .refine bU.ah f (bU.ah g ?_);cases x<;>first|exact bU.j|skip
  rename_i p;cases p with
  |none=>exact bU.h rfl
  |some a=>
   refine bU.e (Fh a) λu=>bU.e (fh t) λc=>sM u t 1 (λi b=>?_) λi b w B m o q v y=>?_;simp;split;exact bU.h rfl;refine bU.e (bU.a2 i rfl) λk=>?_;cases k with
   |none=>exact bU.O
   |some k=>
    refine bU.I (bU.I ?_);split;exact bU.O;exact bU.e (bU.ab rfl) λr=>bU.h rfl
   simp;by_cases l:c=0;subst l;exact ji q v rfl;simp only[l,decide_false,AV,dZ,nX];apply AY.h;show qs ((match w.shape? u.block with|some (e,z)=>_|none=>(unsupported _ >>= λ_=>_):Sem Dv).runT P w m);rw[y];trivial
inductive OkConv (P:Program) (s d:TypeId):Prop
 |ints (k k':IntKind):P.underlying s=some (.int k')->P.underlying d=some (.int k)->OkConv P s d
 |bytes (e:TypeId):P.underlying s=some (.slice e)->P.underlying d=some .string->P.underlying e=some (.int .u8)->OkConv P s d
 |text (e:TypeId):P.underlying s=some .string->P.underlying d=some (.slice e)->P.underlying e=some (.int .u8)->OkConv P s d
 |ptr (t:TypeId):P.underlying s=some (.pointer t)->P.underlying d=some .unsafePointer->OkConv P s d
 |back (t:TypeId):P.underlying s=some .unsafePointer->P.underlying d=some (.pointer t)->OkConv P s d
def L5(s d:DU)(x:Dv)(h:OkConv P s d):bU P U (pV U) (convert s d x) (convert s d (pV U x)):=by
 unfold convert;cases h with
 |ints k j f g=>
  refine bU.ah f (bU.ah g ?_);cases x with
  |int k n=>exact bU.h rfl
  |float k b=>exact(Dj _ _ _).h λ_ h=>h.e
  |pointer a=>cases a<;>exact bU.H
  |slice a n c=>cases a<;>exact bU.H
  |_=>exact bU.H
 |bytes e f g i=>
  refine bU.ah f (bU.ah g ?_);cases x with
  |int k n=>exact bU.h rfl
  |string s=>exact bU.h rfl
  |_=>exact bU.ah i (xI _)
 |text e f g i=>
  refine bU.ah f (bU.ah g ?_);cases x with
  |string s=>exact bU.ah i (xP e s)
  |pointer a=>cases a<;>exact bU.H
  |slice a n c=>cases a<;>exact bU.H
  |_=>exact bU.H
 |ptr t f g=>
  refine bU.ah f (bU.ah g ?_);have:=qh (U:=U) s d x (.inl ⟨t,f,g⟩);cases x with
  |pointer a=>cases a<;>exact this
  |slice a n c=>cases a<;>exact this
  |_=>exact this
 |back t f g=>
  refine bU.ah f (bU.ah g ?_);have:=qh (U:=U) s d x (.inr ⟨t,f,g⟩);cases x with
  |pointer a=>cases a<;>exact this
  |slice a n c=>cases a<;>exact this
  |_=>exact this
def zm(U:Pm):Place->Place
 |.val v=>.val (pV U v)
 |.var a=>.var (bh U a)
def dc(U:Pm):Next->Next
 |.value v=>.value (pV U v)
 |.enter f c=>.enter (oy U f) (dx U c)
 |.round l f e a b=>.round (U.f l) (oy U f) (dx U e) (pC U a) (pC U b)
 |.defer d=>.defer (kQ U d)
 |.skip=>.skip
 |.recover=>.recover
 |_=>.sleep U.k
def yT(t:DU)(x:Place):bU P U (pV U) (x.get t) ((zm U x).get t):=by
 cases x with
 |val v=>exact bU.h rfl
 |var a=>exact jr t a
include C in
def qQ:∀(l:List FieldStep) (t:DU) (x:Place),bU P U (λy=>(y.1,zm U y.2)) (follow l t x) (follow l t (zm U x))
 | [],t,x=>bU.h rfl
 |s::l,t,x=>by
  unfold follow;refine bU.e (br s.struct) λd=>?_;cases d<;>first|exact bU.j|skip
  rename_i c;simp;cases c[s.index]? with
  |none=>exact bU.j
  |some f=>
   dsimp only;split;refine bU.e (yT t x) λv=>bU.e (qL C v) λa=>bU.e (oX a f) λb=>?_;exact qQ l f.type (.var b)
   .cases x with
    |var a=>exact bU.e (oX a f) λb=>qQ l f.type (.var b)
    |val v=>
     cases v<;>first|exact bU.j|skip
     rename_i g;exact bU.e (kC f.type g f.offset) λv=>qQ l f.type (.val v)
def bU.a4{pb:β->β}{f':α->Sem β}:bU P U pb ((runtimePanic .nilDeref:Sem α) >>= f) ((runtimePanic .nilDeref:Sem α) >>= f'):=
 λ_ b _ a c d _=>.inr ⟨b,a,rfl,d,ko.e c⟩
include C in
def M6 (b : TypeId) (p : Value) (m : String) : bU P U (pV U) (Builtin.ssaWrapNilChk_ #[b] b #[p, strVal "", strVal m]) (Builtin.ssaWrapNilChk_ #[b] b #[pV U p, strVal "", strVal m]) := by
 cases p with
 |pointer a=>cases a with
  |some a=>exact bU.h rfl
  |none=>
   refine bU.e bU.V λn=>?_;simp;split;exact bU.a4
   .refine bU.e (br b) λd=>?_;cases d<;>first|exact bU.j|skip
    rename_i t;refine bU.e (fR t) λi=>?_;simp;split;split;split;exact bW C _;exact bU.H;exact bU.j;exact bU.j
 |_=>exact bU.j
include C in
def uL(b:DU)(x:Place)(p:Bool)(w:Option String):bU P U (pV U) (receiverAt b x p w) (receiverAt b (zm U x) p w):=by
 unfold receiverAt;refine bU.e (br b) fun d=>?_;simp;have c : bU P U (pV U) (match p, x with | true, .var a => pure (.pointer (some a)) | true, .val _ => stuck "method row: a pointer method of a value without an address" | false, x => x.get b) (match p, zm U x with | true, .var a => pure (.pointer (some a)) | true, .val _ => stuck "method row: a pointer method of a value without an address" | false, x => x.get b) := by
  cases p with
  |true=>cases x<;>first|exact bU.h rfl|exact bU.j
  |false=>cases x<;>exact yT b _
 cases d with
 |pointer e=>cases p with
  |true=>cases x<;>exact yT b _
  |false=>
   cases x;all_goals
    refine bU.e (yT b _) λptr=>?_;cases w with
    |none=>exact bU.e (pa:=pV U) (bU.h rfl) λptr=>bU.e (qL C ptr) λa=>jr e a
    |some m=>exact bU.e (M6 C b ptr m) λptr=>bU.e (qL C ptr) λa=>jr e a
 |_=>cases p<;>cases x<;>first|exact bU.h rfl|exact bU.j|exact yT b (.val _)|exact yT b (.var _)
include C in
def A7(t:DU)(v:Dv)(a:Array FieldStep)(p:Bool):bU P U (pV U) (receiverVia t v a p) (receiverVia t (pV U v) a p):=by
 unfold receiverVia;exact bU.e (qQ C a.toList t (.val v)) λy=>uL C y.1 y.2 p none
include C in
def E9:∀(n:Nat) (t:DU) (v:Dv) (a:String),U.wS a=true->bU P U (λy=>(oy U y.1,pV U y.2)) (method n t v a) (method n t (pV U v) a)
 |0,t,v,a,b=>bU.H
 |n+1,t,v,a,b=>by
  unfold method typeInfo;show bU P U _ ((do match P.info? t with | some i => pure i | none => stuck "no such type") >>= _) ((do match P.info? t with | some i => pure i | none => stuck "no such type") >>= _);cases hi:P.info? t with
  |none=>exactλ_ _ _ _ _ _=>aB
  |some i=>
   show bU P U _ (match i.methods.find? (·.name==a) with|some m=>_|_=>_) (match i.methods.find? (·.name==a) with|some m=>_|_=>_);cases hm:i.methods.find? (·.name==a) with
   |none=>exact bU.j
   |some m=>
    refine bU.e (qQ C m.path.toList t (.val v)) λy=>?_;cases hf:m.func with
    |none=>
     refine bU.e (yT y.1 y.2) λu=>?_;cases u<;>first|exact bU.j|exact bW C _|skip
     exact E9 n _ _ a b
    |some f=>
     refine bU.e (uL C y.1 y.2 _ _) λu=>bU.h ?_;have c:m.name=a:=by
      have:=Array.find?_some hm;simpa using this
     have:=C.j t i m f.1 f.2 hi (Pt hm) hf (c▸b);simp only[oy,this,dG]
end Go.Eqv
