/- Parts of the proof. -/
import Derived.Test.YtbebfliimjjohabGreatDoorM02
set_option maxRecDepth 100000
set_option maxHeartbeats 8000000
set_option linter.all false
namespace Go.Eqv
variable{U:Pm}{P:Bo}{α β:Type}(C:gi P U){p:α->Prop}{s:Sem α}{f:α->Sem β}{pa:α->α}{s':Sem α}
def OI{γ:Type}(s:Sem α)(f:α->Sem β)(g:β->Sem γ):(s.bind f).bind g=s.bind λa=>(f a).bind g:=by
 induction s with
 |pure a=>rfl
 |halt h=>rfl
 |_=>simp only[Sem.bind, *]
def SD(s:Sem α):s.bind Sem.pure=s:=by
 induction s with
 |pure a=>rfl
 |halt h=>rfl
 |_=>simp only[Sem.bind, *]
theorem xb:LawfulMonad Sem:=LawfulMonad.mk' Sem (λs=>SD s) (λ_ _=>rfl) (λs f g=>OI s f g)
include C in
def V3(t:Bi):bZ P U (pV U) (Instr.alloc t true (.tuple #[])) (Instr.alloc t true (.tuple #[])):=by
 unfold Instr.alloc;exact bZ.e (ig C t) λz=>bZ.e (rU t z) λa=>bZ.h rfl
def ab9(t:Bi)(v:Bg):bZ P U (pV U) (Instr.box t v) (Instr.box t (pV U v)):=by
 unfold Instr.box;exact bZ.e (rU t v) λa=>bZ.h rfl
def Mt(b:Nat):∀(l:List (Bg×Nat)) (a:Array Bg),(l.map λx=>(pV U x.1,x.2)).foldl (λa (x:Bg×Nat)=>a.setIfInBounds (b+x.2) x.1) (dI U a)=dI U (l.foldl (λa (x:Bg×Nat)=>a.setIfInBounds (b+x.2) x.1) a)
 | [],a=>rfl
 |x::l,a=>by
  simp;rw[za,Mt b l]
def Es(a:Nat->Option (Nat×Nat)):∀(l:List (Nat×Bg)) (b:Array Bg),Instr.fill a (dI U b) (l.map λx=>(x.1,pV U x.2))=(Instr.fill a b l).map (dI U)
 | [],b=>rfl
 |(i,v)::l,b=>by
  rw[cE,Instr.fill,Instr.fill];cases a i with
  |none=>rfl
  |some p=>
   obtain⟨c,d⟩:=p;have e:(pV U v).cells.size=v.cells.size:=by rw[lq,pc]
   simp only[e,pc];split;rfl;have f:(pV U v).cells.zipIdx.foldl (λb (x:Bg×Nat)=>b.setIfInBounds (c+x.2) x.1) (dI U b)=dI U (v.cells.zipIdx.foldl (λb (x:Bg×Nat)=>b.setIfInBounds (c+x.2) x.1) b):=by
    rw[<-mO,<-mO,<-Mt];congr 1;rw[lq,dR];simp[List.zipIdx_map]
   rw[f];exact Es a l _
def CU(f:α->Sem β)(c:∀a,bZ P U id (f a) (f a)):∀l:List α,bZ P U id (l.mapM f) (l.mapM f)
 | []=>by rw[Cp];exact bZ.h rfl
 |a::l=>by
  haveI:=xb;rw[zq];exact bZ.e (c a) λb=>bZ.e (CU f c l) λbs=>bZ.h rfl
include C in
def V6(t:Bi)(a:Array (Nat×Bg)):bZ P U (pV U) (Instr.build t a) (Instr.build t (a.map λx=>(x.1,pV U x.2))):=by
 unfold Instr.build;refine bZ.e (ig C t) λz=>bZ.e (bE t) λd=>?_;have c:(a.map λx=>(x.1,pV U x.2)).toList=a.toList.map λx=>(x.1,pV U x.2):=by simp
 simp only[id,c,lq];cases d<;>first|exact bZ.j|skip
 rename_i n e;refine bZ.e (fL e) λi=>?_;simp only[id,Es];cases Instr.fill _ z.cells a.toList with
 |none=>exact bZ.j
 |some g=>exact bZ.h rfl
 rename_i k;refine bZ.e (pa:=id) ?_ λb=>?_;haveI:=xb;rw[lM];refine bZ.e (pa:=id) (CU _ ?_ _) λl=>bZ.h rfl;intro f;exact bZ.e (fL f.type) λn=>bZ.h rfl;simp only[id,Es];cases Instr.fill _ z.cells a.toList with
 |none=>exact bZ.j
 |some g=>exact bZ.h rfl
def yH(t:Bi)(x:Bg):bZ P U (pV U) (Instr.makeInterface t x) (Instr.makeInterface t (pV U x)):=by
 unfold Instr.makeInterface;refine bZ.e (bE t) λd=>?_;cases d<;>first|exact bZ.j|exact bZ.h rfl
def Oi(t:Bi)(r:Option Bg):bZ P U (pV U) (Instr.makeMap t r) (Instr.makeMap t (r.map (pV U))):=by
 unfold Instr.makeMap;cases r with
 |none=>exact bZ.e (bZ.ab (by simp[ei])) λr=>bZ.h rfl
 |some v=>
  refine bZ.e (bE t) λd=>?_;cases d<;>first|exact bZ.ae|skip
  exact bZ.e (sV v) λ_=>bZ.e (bZ.ab (by simp[ei])) λr=>bZ.h rfl
def C0(zero:Array Bg)(n:Nat):(Array.range n).map ((dI U zero)[· % (dI U zero).size]!)=dI U ((Array.range n).map (zero[· % zero.size]!)):=by
 rw[dR,dR,lZ,eR];congr 1
 funext i;show (zero.map (pV U))[i%zero.size]! = pV U (zero[i%zero.size]!);rw[getElem!_def,getElem!_def,cD];cases zero[i%zero.size]?<;>rfl
include C in
def GB(t:Bi)(l c:Bg):bZ P U (pV U) (Instr.makeSlice t l c) (Instr.makeSlice t (pV U l) (pV U c)):=by
 unfold Instr.makeSlice;refine bZ.e (bE t) λd=>?_;cases d<;>first|exact bZ.j|skip
 rename_i e;refine bZ.e (sV l) λl=>bZ.e (sV c) λc=>bZ.e (gB e) λi=>?_;simp;have row:∀(n:Nat) (zero:Array Bg),bZ P U (br U) (newRow e ((Array.range n).map (zero[· % zero.size]!))) (newRow e ((Array.range n).map ((dI U zero)[· % (dI U zero).size]!))):=λn zero=>by
  rw[C0];exact pL e _
 split;split;exact bZ.ai _;split;exact bZ.ai _;exact bZ.e bZ.V λn=>bZ.ai _;refine bZ.e (wU _) λ_=>bZ.e (fL e) λb=>?_;simp;split;exact bZ.e (pa:=dI U) (bZ.h rfl) λzero=>bZ.e (row _ zero) λa=>bZ.h rfl;exact bZ.e (ig C e) λz=>bZ.e (pa:=dI U) (bZ.h (by rw[lq])) λzero=>bZ.e (row _ zero) λa=>bZ.h rfl
include C in
def Ej(t:Bi)(b:Nat)(f:Array (Nat×Bg)):bZ P U (pV U) (Instr.buildSlice t b f) (Instr.buildSlice t b (f.map λx=>(x.1,pV U x.2))):=by
 unfold Instr.buildSlice;refine bZ.e (bE t) λd=>?_;cases d<;>first|exact bZ.j|skip
 rename_i e;refine bZ.e (fL e) λg=>?_;have l:(f.map λx=>(x.1,pV U x.2)).toList=f.toList.map λx=>(x.1,pV U x.2):=by simp
 simp;have c : ∀ zero : Array Value, bZ P U (pV U) (match Instr.fill (fun i => some (i * g, g)) ((Array.range (b * g)).map (zero[· % zero.size]!)) f.toList with | some cells => (do pure (.slice (some (← newRow e cells)) b b) : Sem Value) | _ => stuck "buildSlice: a part of the wrong size") (match Instr.fill (fun i => some (i * g, g)) ((Array.range (b * g)).map ((dI U zero)[· % (dI U zero).size]!)) (f.toList.map fun x => (x.1, pV U x.2)) with | some cells => (do pure (.slice (some (← newRow e cells)) b b) : Sem Value) | _ => stuck "buildSlice: a part of the wrong size") := fun zero => by
  rw[C0,Es];cases Instr.fill _ _ f.toList with
  |none=>exact bZ.j
  |some k=>exact bZ.e (pL e k) λa=>bZ.h rfl
 split;exact bZ.O;split;exact bZ.e (pa:=dI U) (bZ.h rfl) λzero=>c zero;exact bZ.e (ig C e) λz=>bZ.e (pa:=dI U) (bZ.h (by rw[lq])) λzero=>c zero
include C in
def OL(t:Bi)(x:Bg)(l h m:Option Bg):bZ P U (pV U) (Instr.sliceAt t x l h m) (Instr.sliceAt t (pV U x) (l.map (pV U)) (h.map (pV U)) (m.map (pV U))):=by
 unfold Instr.sliceAt;refine bZ.e (bE t) λd=>?_;cases d<;>first|exact W6 C t x l h m|skip
 rename_i n e;refine bZ.e (nV x) λa=>bZ.e (ma C _ _ _ l h m) λr=>bZ.e (fL e) λb=>bZ.h ?_;simp only[id,pV,Option.map];split;rfl;simp[tW]
def Sp(a:Addr)(c b:Nat):bZ P U (br U) (partAt a c b) (partAt (br U a) c b):=by
 unfold partAt;refine bZ.e (nO a) λx=>?_;refine bZ.e (nO {block:=a.block,off:=a.off+c}) λy=>bZ.h ?_;simp;split;rfl;rfl
def qy(a:Addr)(f:Field):bZ P U (br U) (fieldPlace a f) (fieldPlace (br U a) f):=by
 unfold fieldPlace;refine bZ.e (fL f.type) λn=>?_;simp;split;exact Sp a _ _;exact bZ.h (tW a _)
def N7(s:Bi)(a:Bg)(f:Nat):bZ P U (pV U) (Instr.fieldAt s a f) (Instr.fieldAt s (pV U a) f):=by
 unfold Instr.fieldAt;refine bZ.e (bE s) λd=>?_;cases d<;>first|exact bZ.j|skip
 rename_i b;simp;cases b[f]? with
 |none=>exact bZ.j
 |some c=>exact bZ.e (nV a) λx=>bZ.e (qy x c) λy=>bZ.h rfl
def Wm(t:Bi)(x:Bg)(f:Nat):bZ P U (pV U) (Instr.field t x f) (Instr.field t (pV U x) f):=by
 unfold Instr.field;refine bZ.e (bE t) λd=>?_;cases d<;>first|exact bZ.j|skip
 rename_i a;simp;cases a[f]? with
 |none=>exact bZ.j
 |some c=>exact bZ.e (V4 x) λb=>ly _ b _
include C in
def Ww(t:Bi)(x i:Bg):bZ P U (pV U) (Instr.index t x i) (Instr.index t (pV U x) (pV U i)):=by
 unfold Instr.index;refine bZ.e (sU i) λa=>bZ.e (bE t) λd=>?_;simp;cases d<;>first|(cases x<;>exact bZ.j)|skip
 .cases x<;>first|exact bZ.j|skip
  simp only[pV];split;exact bZ.h rfl;exact jA C _ _ _ _
 .cases x<;>first|exact bZ.j|skip
  simp only[pV];split;exact bZ.e (fL _) λn=>ly _ _ _;exact jA C _ _ _ _
def WR(t:Bi)(x:Bg):bZ P U (pV U) (Instr.range t x) (Instr.range t (pV U x)):=by
 unfold Instr.range;refine bZ.e (bE t) λd=>?_;simp;cases d<;>first|(cases x<;>exact bZ.ae)|skip
 .cases x<;>first|exact bZ.ae|skip
  exact bZ.e (pa:=ei U) (bZ.h rfl) λa=>bZ.e (bZ.ab rfl) λr=>bZ.h rfl
 .cases x<;>first|exact bZ.ae|skip
  rename_i r;cases r with
  |none=>exact bZ.e (pa:=ei U) (bZ.h rfl) λa=>bZ.e (bZ.ab rfl) λr=>bZ.h rfl
  |some r=>
   refine bZ.Z rfl (λo b=>?_) (λ_ _ _ _=>aE);cases o<;>first|exactλ_ _ _ _ _ _=>aE|skip
   exact bZ.e (pa:=ei U) (bZ.h rfl) λa=>bZ.e (bZ.ab rfl) λr=>bZ.h rfl
def N5(x:Bg)(i:Nat):bZ P U (pV U) (Instr.extract x i) (Instr.extract (pV U x) i):=by
 unfold Instr.extract;cases x<;>first|exact bZ.j|skip
 simp only[pV,lr];rename_i a;cases a[i]? with
 |none=>exact bZ.j
 |some v=>exact bZ.h rfl
include C in
def ES(x:Bg)(t a:Bi)(ok:Bool):bZ P U (pV U) (Instr.typeAssert x t a ok) (Instr.typeAssert (pV U x) t a ok):=by
 unfold Instr.typeAssert;have f:∀v,bZ P U (pV U) (pure (if ok then .tuple #[v,.bool true] else v):Sem Bg) (pure (if ok then .tuple #[pV U v,.bool true] else pV U v):Sem Bg):=λv=>bZ.h (by cases ok<;>rfl);have b:∀(s d:Option Bi) (m:String),bZ P U (pV U) (if ok then (do pure (.tuple #[<-zeroValue a,.bool false]):Sem Bg) else runtimePanic (.typeAssertion s d a m)) (if ok then (do pure (.tuple #[<-zeroValue a,.bool false]):Sem Bg) else runtimePanic (.typeAssertion s d a m)):=λs d m=>by
  cases ok with
  |true=>exact bZ.e (ig C a) λz=>bZ.h rfl
  |false=>exact(cr C (pa:=pV U) (.typeAssertion s d a m) :)
 refine bZ.e (bE a) λd=>?_;simp;cases d with
 |interface g=>
  cases x<;>first|exact bZ.j|exact b _ _ _|skip
  rename_i c v;refine bZ.e (gB c) λi=>?_;simp;split;exact f (.iface c v);exact b _ _ _
 |_=>
  cases x<;>first|exact bZ.j|exact b _ _ _|skip
  rename_i c v;simp only[pV];split;exact f v;exact b _ _ _
def Gm(p:MapEntry->Bool)(b:∀e,p (ew U e)=p e)(a:Array MapEntry):(a.map (ew U)).filter p=(a.filter p).map (ew U):=by
 apply wN;simp only[Array.toList_filter,Array.toList_map,List.filter_map];congr 2
 funext e;exact b e
def aaj(i:Bg)(s:Bool)(t:Bi):bZ P U (pV U) (Instr.next i s t) (Instr.next (pV U i) s t):=by
 unfold Instr.next;cases i<;>first|exact bZ.j|skip
 rename_i a;cases a with
 |none=>exact bZ.j
 |some a=>
  obtain⟨r,k,C⟩:=a;cases k with
  |succ n=>exact bZ.j
  |zero=>
   refine bZ.Z rfl (λo q=>?_) (λ_ _ _ _=>by cases s<;>trivial);cases o<;>first|(cases s<;>exactλ_ _ _ _ _ _=>aE)|skip
   rename_i v w;cases s with
   |false=>exactλ_ _ _ _ _ _=>aE
   |true=>
    dsimp only[ei];split;exact bZ.e (bZ.ac q rfl rfl) λ_=>bZ.h rfl;exact bZ.h rfl
   .rename_i m d seen last;cases s with
    |true=>cases m<;>exactλ_ _ _ _ _ _=>aE
    |false=>
     cases m with
     |none=>exact bZ.h rfl
     |some m=>
      refine bZ.Z rfl (λo y=>?_) (λ_ _ _ _=>aE);cases o<;>first|exactλ_ _ _ _ _ _=>aE|skip
      rename_i f l;dsimp only[ei];have z:(f.map (ew U)).isEmpty=f.isEmpty:=by unfold Array.isEmpty;rw[eR]
      have A:(f.map (ew U)).all (·.born>=last)=f.all (·.born>=last):=by
       rw[Array.all_map];rfl
      rw[z,A];split;exact bZ.O;have u:∀p:MapEntry->Bool,(∀e,p (ew U e)=p e)->((f.map (ew U)).filter λe=>!seen.contains e.born).filter p=(((f.filter λe=>!seen.contains e.born).filter p).map (ew U)):=λp B=>by
       rw[(Gm (U:=U) (λe=>!seen.contains e.born) (λ_=>rfl) f),Gm p B]
      have hc:∀b new:Array MapEntry,((if (b.map (ew U)).isEmpty then #[none] else #[])++(b.map (ew U)++new.map (ew U)).map some:Array (Option MapEntry))=((if b.isEmpty then #[none] else #[])++(b++new).map some).map (Option.map (ew U)):=λb new=>by
       have:(b.map (ew U)).isEmpty=b.isEmpty:=by unfold Array.isEmpty;rw[eR]
       rw[this];cases b.isEmpty<;>simp[FV]
      rw[u (λx=>decide (x.born<d)) (λ_=>rfl),u (λx=>decide (x.born>=d)) (λ_=>rfl)];generalize ((f.filter λe=>!seen.contains e.born).filter λx=>decide (x.born<d))=b;generalize ((f.filter λe=>!seen.contains e.born).filter λx=>decide (x.born>=d))=new;rw[hc,eR];generalize ((if b.isEmpty then #[none] else #[])++(b++new).map some:Array (Option MapEntry))=g;refine bZ.e bZ.V λn=>?_;simp;cases g[n]? with
      |none=>exact bZ.j
      |some c=>cases c with
       |none=>exact bZ.h rfl
       |some e=>exact bZ.e (bZ.ac q rfl rfl) λ_=>bZ.h rfl
def Wi(b:Bg):bZ P U (pV U) (Instr.entry b) (Instr.entry (pV U b)):=by
 unfold Instr.entry;cases b<;>first|exact bZ.j|skip
 rename_i a;cases a with
 |none=>exact bZ.j
 |some a=>
  obtain⟨r,c,l⟩:=a;cases c with
  |succ n=>exact bZ.j
  |zero=>
   refine bZ.Z rfl (λo k=>?_) (λ_ _ _ _=>aE);cases o<;>first|exactλ_ _ _ _ _ _=>aE|skip
   rename_i m d seen last;cases m with
   |none=>exactλ_ _ _ _ _ _=>aE
   |some m=>
    dsimp only[ei,Option.map];cases seen.back? with
    |none=>exact bZ.j
    |some f=>
     refine bZ.Z rfl (λo k=>?_) (λ_ _ _ _=>aE);cases o<;>first|exactλ_ _ _ _ _ _=>aE|skip
     rename_i g i;dsimp only[ei];split;exact bZ.O;have:(g.map (ew U)).find? (·.born==f)=(g.find? (·.born==f)).map (ew U):=by
      rw[Array.find?_map];rfl
     rw[this];cases g.find? (·.born==f) with
     |none=>exact bZ.H
     |some e=>exact bZ.h rfl
include C in
def MK(a:BinOp)(k:IntKind)(x:Int)(b:IntKind)(y:Int):bZ P U (pV U) (Op.shift a k x b y) (Op.shift a k x b y):=by
 unfold Op.shift;split;exact cr C _;cases a<;>first|exact bZ.j|exact bZ.h rfl
def zW(a:BinOp)(k:IntKind)(x y:Int):bZ P U (pV U) (Op.intArith a k x y) (Op.intArith a k x y):=by
 cases a<;>first|exact bZ.j|exact bZ.h rfl
include C in
def RZ(a:BinOp)(k:IntKind)(x y:Int):bZ P U (pV U) (Op.intDiv a k x y) (Op.intDiv a k x y):=by
 unfold Op.intDiv;split;exact cr C _;cases a<;>first|exact bZ.j|exact bZ.h rfl
def CR(a:BinOp)(k:IntKind)(x y:Int):bZ P U (pV U) (Op.intBits a k x y) (Op.intBits a k x y):=by
 cases a<;>first|exact bZ.j|exact bZ.h rfl
def RY(a:BinOp)(x y:Int):bZ P U (pV U) (Op.intCmp a x y) (Op.intCmp a x y):=by
 cases a<;>first|exact bZ.j|exact bZ.h rfl
def eX(a:BinOp)(x y:Bh):bZ P U (pV U) (Op.stringOp a x y) (Op.stringOp a x y):=by
 unfold Op.stringOp;cases a<;>first|exact bZ.j|exact bZ.h rfl|skip
 dsimp only;split;exact bZ.H;exact bZ.h rfl
def Xb(b:UnOp)(x:Bg):bZ P U (pV U) (Op.unary b x) (Op.unary b (pV U x)):=by
 unfold Op.unary;cases b<;>cases x<;>first|exact bZ.j|exact bZ.h rfl|exact zW _ _ _ _|exact CR _ _ _ _|(rename_i a;cases a<;>first|exact bZ.j|exact bZ.H)
inductive ChL {α:Type} (p:α->Prop):Sem α->Prop
 |pure (a:α):p a->ChL p (.pure a)
 |choose (q:Question) (k:Nat->Sem α):(∀n,ChL p (k n))->ChL p (.choose q k)
 |stuck (m:String):ChL p (.halt (.stuck m))
 |unsup (u:Unsupported):ChL p (.halt (.unsupported u))
def ChL.e{q:β->Prop}(h:ChL p s)(k:∀a,p a->ChL q (f a)):ChL q (s >>= f):=by
 show ChL q (s.bind f);induction h with
 |pure a b=>exact k a b
 |choose d g _ c=>exact ChL.choose _ _ λn=>c n
 |stuck m=>exact ChL.stuck m
 |unsup u=>exact ChL.unsup u
def ChL.h(h:ChL p s)(b:∀a,p a->pa a=a):bZ P U pa s s:=by
 induction h with
 |pure a c=>exact bZ.h (b a c)
 |choose q k _ d=>exact bZ.e (s:=Go.choose q) (s':=Go.choose q) bZ.V λn=>d n
 |stuck m=>exact bZ.a5
 |unsup u=>exact bZ.a7
def Ec(v:Value):Prop:=(∃k b,v=.float k b)\/(∃k a b,v=.complex k a b)\/(∃b,v=.bool b)\/∃k n,v=.int k n
def Ec.e{v:Bg}(h:Ec v):pV U v=v:=by
 rcases h with⟨_,_,rfl⟩|⟨_,_,_,rfl⟩|⟨_,rfl⟩|⟨_,_,rfl⟩<;>rfl
def vJ(a:BinOp)(k:FloatKind)(x y:Nat):ChL Ec (Op.floatArith a k x y):=by
 unfold Op.floatArith;have h:∀r:Option Nat,ChL Ec (match r with|some r=>pure (.float k r)|none=>(do pure (.float k (<-choose (.nanBits k x y)))):Sem Bg):=λr=>by
  cases r with
  |none=>exact ChL.choose _ _ λn=>ChL.pure _ (.inl ⟨_,_,rfl⟩)
  |some r=>exact ChL.pure _ (.inl ⟨_,_,rfl⟩)
 cases a<;>first|exact ChL.stuck _|exact h _
def zP(a:BinOp)(k:FloatKind)(x y:Nat):ChL Ec (Op.floatCmp a k x y):=by
 cases a<;>first|exact ChL.stuck _|exact ChL.pure _ (.inr (.inr (.inl ⟨_,rfl⟩)))
def nP(k:FloatKind)(b:Nat)(d:FloatKind):ChL Ec (Conv.floatToFloat k b d):=by
 unfold Conv.floatToFloat;split;exact ChL.pure _ (.inl ⟨_,_,rfl⟩);split;exact ChL.choose _ _ λn=>ChL.pure _ (.inl ⟨_,_,rfl⟩);exact ChL.pure _ (.inl ⟨_,_,rfl⟩);dsimp only;split;exact ChL.choose _ _ λn=>ChL.pure _ (.inl ⟨_,_,rfl⟩);exact ChL.pure _ (.inl ⟨_,_,rfl⟩)
def Eu(k:FloatKind)(b:Nat)(d:IntKind):ChL Ec (Conv.floatToInt k b d):=by
 unfold Conv.floatToInt;have h:ChL Ec (do pure (.int d (d.wrap (<-choose (.floatToInt k b d)))):Sem Bg):=ChL.choose _ _ λn=>ChL.pure _ (.inr (.inr (.inr ⟨_,_,rfl⟩)));split;split;exact ChL.pure _ (.inr (.inr (.inr ⟨_,_,rfl⟩)));exact h;exact h
def VU{α:Type}(_:α):Prop:=True
def eI(a:BinOp)(k:FloatKind)(x y:Nat):ChL VU (Op.Complex.arith a k x y):=by
 unfold Op.Complex.arith;refine ChL.e (vJ _ _ _ _) λv _=>?_;cases v<;>first|exact ChL.stuck _|exact ChL.pure _ aE
def zG(a:BinOp)(k:FloatKind)(x y:Nat):ChL VU (Op.Complex.cmp a k x y):=by
 unfold Op.Complex.cmp;refine ChL.e (zP _ _ _ _) λv _=>?_;cases v<;>first|exact ChL.stuck _|exact ChL.pure _ aE
def mW(k:FloatKind)(x:Nat)(d:FloatKind):ChL VU (Op.Complex.conv k x d):=by
 unfold Op.Complex.conv;split;exact ChL.pure _ aE;refine ChL.e (nP _ _ _) λv _=>?_;cases v<;>first|exact ChL.stuck _|exact ChL.pure _ aE
def Oy(a b c d:Nat):ChL VU (Op.Complex.product a b c d):=by
 unfold Op.Complex.product Op.Complex.sub Op.Complex.mul Op.Complex.add;exact ChL.e (eI _ _ _ _) λ_ _=>ChL.e (eI _ _ _ _) λ_ _=>ChL.e (eI _ _ _ _) λ_ _=>ChL.e (eI _ _ _ _) λ_ _=>ChL.e (eI _ _ _ _) λ_ _=>ChL.e (eI _ _ _ _) λ_ _=>ChL.pure _ aE
def Gi(s a b c d:Nat):ChL VU (Op.Complex.corrected s a b c d):=by
 unfold Op.Complex.corrected Op.Complex.sub Op.Complex.mul Op.Complex.add;exact ChL.e (eI _ _ _ _) λ_ _=>ChL.e (eI _ _ _ _) λ_ _=>ChL.e (eI _ _ _ _) λ_ _=>ChL.e (eI _ _ _ _) λ_ _=>ChL.e (eI _ _ _ _) λ_ _=>ChL.e (eI _ _ _ _) λ_ _=>ChL.e (eI _ _ _ _) λ_ _=>ChL.e (eI _ _ _ _) λ_ _=>ChL.pure _ aE
def JS(a b c d:Nat):ChL VU (Op.Complex.quotient a b c d):=by
 unfold Op.Complex.quotient Op.Complex.sub Op.Complex.mul Op.Complex.add Op.Complex.quo;refine ChL.e (zG _ _ _ _) λt _=>?_;dsimp only;split;all_goals
  refine ChL.e (eI _ _ _ _) λ_ _=>ChL.e (eI _ _ _ _) λ_ _=>ChL.e (eI _ _ _ _) λ_ _=>ChL.e (eI _ _ _ _) λ_ _=>ChL.e (eI _ _ _ _) λ_ _=>ChL.e (eI _ _ _ _) λ_ _=>ChL.e (eI _ _ _ _) λ_ _=>ChL.e (eI _ _ _ _) λ_ _=>ChL.e (eI _ _ _ _) λ_ _=>?_;refine ChL.e (p:=VU) (ChL.pure _ aE) λf _=>ChL.e (zG _ _ _ _) λ_ _=>ChL.e (zG _ _ _ _) λ_ _=>?_;repeat' split
  all_goals first|exact ChL.pure _ aE|exact Gi _ _ _ _ _|exact ChL.e (eI _ _ _ _) λ_ _=>ChL.e (eI _ _ _ _) λ_ _=>ChL.pure _ aE
def Gh(f:BinOp)(k:FloatKind)(a b c d:Nat):ChL Ec (Op.complexOp f k a b c d):=by
 unfold Op.complexOp;cases f<;>first|exact ChL.stuck _|skip
 exact ChL.e (eI _ _ _ _) λ_ _=>ChL.e (eI _ _ _ _) λ_ _=>ChL.pure _ (.inr (.inl ⟨_,_,_,rfl⟩));exact ChL.e (eI _ _ _ _) λ_ _=>ChL.e (eI _ _ _ _) λ_ _=>ChL.pure _ (.inr (.inl ⟨_,_,_,rfl⟩));refine ChL.e (mW _ _ _) λ_ _=>ChL.e (mW _ _ _) λ_ _=>ChL.e (mW _ _ _) λ_ _=>ChL.e (mW _ _ _) λ_ _=>?_;exact ChL.e (p:=VU) (Oy _ _ _ _) λg _=>ChL.e (mW _ _ _) λ_ _=>ChL.e (mW _ _ _) λ_ _=>ChL.pure _ (.inr (.inl ⟨_,_,_,rfl⟩));refine ChL.e (mW _ _ _) λ_ _=>ChL.e (mW _ _ _) λ_ _=>ChL.e (mW _ _ _) λ_ _=>ChL.e (mW _ _ _) λ_ _=>?_;exact ChL.e (p:=VU) (JS _ _ _ _) λg _=>ChL.e (mW _ _ _) λ_ _=>ChL.e (mW _ _ _) λ_ _=>ChL.pure _ (.inr (.inl ⟨_,_,_,rfl⟩));exact ChL.e (zG _ _ _ _) λ_ _=>ChL.e (zG _ _ _ _) λ_ _=>ChL.pure _ (.inr (.inr (.inl ⟨_,rfl⟩)));exact ChL.e (zG _ _ _ _) λ_ _=>ChL.e (zG _ _ _ _) λ_ _=>ChL.pure _ (.inr (.inr (.inl ⟨_,rfl⟩)))
include C in
def yd(a b:Addr):bZ P U id (Op.twoPlaces a b) (Op.twoPlaces (br U a) (br U b)):=by
 unfold Op.twoPlaces;apply bZ.I;have g:((br U a).block != (br U b).block)=(a.block != b.block):=by
  have:=Ei (U:=U) a b;simp only[bne,this]
 rw[g];by_cases c:(a.block != b.block||decide (a.block>=P.globals.size))=true;rw[az c];exact bZ.O;rw[ax c];by_cases d:(a.block != b.block||decide ((br U a).block>=P.globals.size))=true;rw[az d];simp only[mw,fv,not_or]at c d;have f:U.wk=true:=by
  cases f:U.wk with
  |true=>rfl
  |false=>exact absurd (C.h f _ (Js c.2)) (Nat.not_lt.2 (d.resolve_left c.1))
 exact bZ.a8 f λw i=>aE;rw[ax d];exact bZ.e (nO a) λx=>bZ.e (nO b) λy=>bZ.h rfl
include C in
def NN(k:IntKind)(a b:Addr):bZ P U (pV U) (Op.addrSub k a b) (Op.addrSub k (br U a) (br U b)):=by
 unfold Op.addrSub;exact bZ.e (yd C a b) λr=>bZ.h rfl
include C in
def NM(c:BinOp)(a b:Addr):bZ P U (pV U) (Op.addrCmp c a b) (Op.addrCmp c (br U a) (br U b)):=by
 unfold Op.addrCmp;refine bZ.e (yd C a b) λr=>?_;cases c<;>first|exact bZ.H|exact bZ.h rfl
def Cv(k:IntKind)(a:Addr)(n:Int):bZ P U (pV U) (Op.addrMod k a n) (Op.addrMod k (br U a) n):=by
 unfold Op.addrMod;refine bZ.af rfl (λc s=>?_) λc w f g d j l _=>aE;cases s with
 |none=>exact bZ.H
 |some s=>
  refine bZ.e (gB s.1) λi=>?_;simp;split;exact bZ.O;exact bZ.e (nO a) λb=>bZ.h rfl
theorem kL(ts:Array TypeId)(t:TypeId)(x y:Value):bZ P U (pV U) (Builtin.unsafeAdd_ ts t #[x,y]) (Builtin.unsafeAdd_ ts t #[pV U x,pV U y]):=by
 cases x<;>first|exactλ_ _ _ _ _ _=>aE|skip
 rename_i p
 show bZ P U (pV U) (asInt y >>= λn=>_) (asInt (pV U y) >>= λn=>_)
 refine bZ.e (sV y) λn=>?_
 simp
 split
 .cases p with
  |none=>exact bZ.H
  |some a=>
   refine bZ.e (vZ a.block) λv=>?_
   cases v with
   |none=>exact bZ.h rfl
   |some v=>exact bZ.O
 .split
  .exact bZ.O
  .cases p with
   |none=>exact bZ.H
   |some a=>
    refine bZ.af rfl (λhx s=>?_) λhx w w' es es' hr he _=>aE
    cases s with
    |none=>exact bZ.H
    |some s=>
     refine bZ.I ?_
     show bZ P U (pV U) (match cellAtBytes P P.depth s.1 (s.2/P.cellsOf s.1) a.off n with|some off=>pure (.pointer (some {a with off}))|none=>unsupported _) (match cellAtBytes P P.depth s.1 (s.2/P.cellsOf s.1) a.off n with|some off=>pure (.pointer (some {br U a with off}))|none=>unsupported _)
     cases cellAtBytes P P.depth s.1 (s.2/P.cellsOf s.1) a.off n with
     |none=>exact bZ.H
     |some off=>exact bZ.h rfl
def Jz(a:Addr)(l:Bool):bZ P U (pV U) (asNumber a l) (asNumber (br U a) l):=by
 unfold asNumber;exact bZ.e (bZ.ab rfl) λr=>bZ.h rfl
def oY(t:Bi)(x y:Bg):bZ P U (pV U) (movedNumber t x y) (movedNumber t (pV U x) (pV U y)):=by
 unfold movedNumber;refine bZ.e (bE t) λd=>?_;by_cases h:d=.unsafePointer;subst h;exact bZ.O;have hd:(match d with|.unsafePointer=>true|_=>false)=false:=by cases d<;>first|rfl|exact absurd rfl h
 simp;cases x with
 |pointer p=>cases p with
  |none=>exact kL #[] t (.pointer none) y
  |some n=>
   refine bZ.e (gm n) λal=>?_;refine bZ.e (kL #[] t (.pointer (some al.1)) y) λv=>?_;cases v with
   |pointer q=>cases q with
    |none=>exact bZ.h rfl
    |some q=>exact Jz q _
   |_=>exact bZ.h rfl
 |_=>exact kL #[] t _ y
def Ab(t:Bi)(x y:Bg):bZ P U (pV U) (movedPointer t x y) (movedPointer t (pV U x) (pV U y)):=by
 unfold movedPointer;cases x with
 |pointer p=>cases p with
  |none=>exact kL #[] t (.pointer none) y
  |some a=>
   refine bZ.e (Ai a.block) λv=>?_;cases v with
   |none=>exact kL #[] t (.pointer (some a)) y
   |some v=>exact bZ.O
 |_=>exact kL #[] t _ y
def bZ.av{s0:Sem α}(e:s=s0)(h:∀w a,ry (s0.runT P w a)):bZ P U pa s s':=e▸bZ.aU h
def bZ.a3{s0 a:Sem α}(e:s=s0)(b:s'=a)(h:bZ P U pa s0 a):bZ P U pa s s':=e▸b▸h
include C in
def V5(m:BinOp)(t:Bi)(x y:Bg):bZ P U (pV U) (binOp m t x y) (binOp m t (pV U x) (pV U y)):=by
 have f:bZ P U (pV U) (do pure (.bool ((<-Op.equal t x y))):Sem Bg) (do pure (.bool ((<-Op.equal t (pV U x) (pV U y)))):Sem Bg):=bZ.e (Eo C t x y) λb=>bZ.h rfl;have g:bZ P U (pV U) (do pure (.bool (!(<-Op.equal t x y))):Sem Bg) (do pure (.bool (!(<-Op.equal t (pV U x) (pV U y)))):Sem Bg):=bZ.e (Eo C t x y) λb=>bZ.h rfl;cases m<;>(cases x with
  |int k a=>cases y with
   |int l b=>first
    |exact MK C .shl k a l b
    |exact MK C .shr k a l b
    |(
      by_cases i:k≠l;exact bZ.av (az i) λ_ _=>aE;refine bZ.a3 (ax i) (ax i) ?_;first|exact zW _ k a b|exact RZ C _ k a b|exact CR _ k a b|exact RY _ a b)
   |pointer p=>first|exact f|exact g|exact oY t (.pointer p) (.int k a)|(cases p<;>first|exact bZ.H|exact bZ.e (gm _) λu=>Cv _ _ _)
   |_=>first|exact bZ.j|exact f|exact g
  |pointer p=>cases y with
   |int k b=>first|exact f|exact g|exact oY t (.pointer p) (.int k (-b))|exact bZ.e (bE t) λd=>(by cases d<;>first|exact Ab t (.pointer p) (.int k b)|exact oY t (.pointer p) (.int k b))|(cases p<;>first|exact bZ.H|exact bZ.e (gm _) λu=>Cv _ _ _)
   |pointer q=>first|exact f|exact g|(cases p<;>cases q<;>first|exact bZ.H|exact bZ.e (gm _) λu=>bZ.e (gm _) λv=>NM C _ _ _|exact bZ.e (gm _) λu=>bZ.e (gm _) λv=>NN C _ _ _)
   |_=>first|exact f|exact g|(cases p<;>exact bZ.H)
  |float k a=>cases y with
   |float l b=>
    by_cases i:k≠l;exact bZ.av (az i) λ_ _=>aE;refine bZ.a3 (ax i) (ax i) ?_;first|exact(vJ _ k a b).h λ_ h=>h.e|exact(zP _ k a b).h λ_ h=>h.e
   |pointer p=>first|exact f|exact g|(cases p<;>exact bZ.H)
   |_=>first|exact bZ.j|exact f|exact g
  |complex k a b=>cases y with
   |complex l c d=>
    by_cases i:k≠l;exact bZ.av (az i) λ_ _=>aE;refine bZ.a3 (ax i) (ax i) ?_;exact(Gh _ k a b c d).h λ_ h=>h.e
   |pointer p=>first|exact f|exact g|(cases p<;>exact bZ.H)
   |_=>first|exact bZ.j|exact f|exact g
  |string a=>cases y with
   |string b=>first|exact eX .add a b|exact eX .sub a b|exact eX .mul a b|exact eX .quo a b|exact eX .rem a b|exact eX .and a b|exact eX .or a b|exact eX .xor a b|exact eX .shl a b|exact eX .shr a b|exact eX .andNot a b|exact eX .eql a b|exact eX .neq a b|exact eX .lss a b|exact eX .leq a b|exact eX .gtr a b|exact eX .geq a b
   |pointer p=>first|exact f|exact g|(cases p<;>exact bZ.H)
   |_=>first|exact bZ.j|exact f|exact g
  |_=>cases y with
   |pointer p=>first|exact f|exact g|(cases p<;>exact bZ.H)
   |_=>first|exact bZ.j|exact f|exact g)
def xX:∀(n:Nat) (t:Bi) (x y:Bg),bZ P U id (Op.eqGuardIn n t x y) (Op.eqGuardIn n t (pV U x) (pV U y))
 |0,t,x,y=>bZ.H
 |n+1,t,x,y=>by
  have c:=xX n;unfold Op.eqGuardIn;refine bZ.e (bE t) λd=>?_;simp only[id];cases d with
  |interface i=>cases x<;>cases y<;>exact bZ.h rfl
  |struct g=>
   cases x<;>cases y<;>first|exact bZ.h rfl|skip
   rename_i xs a;simp only[pV];refine bZ.e (zR (pb:=id) (λf b=>?_) g _) λr=>?_;split;refine bZ.e (ly _ xs _) λu=>bZ.e (ly _ a _) λv=>bZ.e (c _ u v) λq=>?_;cases q<;>exact bZ.h rfl;exact bZ.h rfl;let ⟨r,_⟩:=r
   cases r<;>exact bZ.h rfl
  |array l e=>
   cases x<;>cases y<;>first|exact bZ.h rfl|skip
   rename_i xs a;simp only[pV];refine bZ.e (fL e) λm=>?_;refine bZ.e (zT (pb:=id) (λf b=>?_) _ _) λr=>?_;refine bZ.e (ly _ xs _) λu=>bZ.e (ly _ a _) λv=>bZ.e (c _ u v) λq=>?_;cases q<;>exact bZ.h rfl;let ⟨r,_⟩:=r
   cases r<;>exact bZ.h rfl
  |_=>cases x<;>cases y<;>exact bZ.h rfl
def Gy:Operand->Bool
 |.const _=>true
 |_=>false
def Jl(x:Operand):Operand:=if Gy x then .const .nilFunc else .tmp 0
def xY(c:BinOp)(t:Bi)(x y:Operand)(a b:Bg):eqGuard c t x y a b=eqGuard c t (Jl x) (Jl y) a b:=by
 cases x<;>cases y<;>rfl
def N2(c:BinOp)(t:Bi)(x y x' i:Operand)(l:Gy x'=Gy x)(m:Gy i=Gy y)(a b:Bg):bZ P U id (eqGuard c t x y a b) (eqGuard c t x' i (pV U a) (pV U b)):=by
 rw[xY c t x y,xY c t x' i];have n:Jl x'=Jl x:=by unfold Jl;rw[l]
 have o:Jl i=Jl y:=by unfold Jl;rw[m]
 rw[n,o];have j:Jl x=.const .nilFunc\/Jl x=.tmp 0:=by unfold Jl;split<;>simp
 have k:Jl y=.const .nilFunc\/Jl y=.tmp 0:=by unfold Jl;split<;>simp
 generalize Jl x=X at j;generalize Jl y=Y at k;have f:∀(u:Unsupported) (v:Bg),pV U v=v->bZ P U id (Op.eqGuardIn Op.maxDepth t a b >>= λq=>if q=true then unsupported u else pure ()) (Op.eqGuardIn Op.maxDepth t (pV U a) (pV U b) >>= λq=>if q=true then unsupported u else pure ()):=λu v _=>by
  refine bZ.e (xX _ t a b) λq=>?_;cases q;exact bZ.h rfl;exact bZ.H
 have g:∀c:BinOp,(c=.eql\/c=.neq)->bZ P U id (eqGuard c t X Y a b) (eqGuard c t X Y (pV U a) (pV U b)):=by
  rintro c d;cases a with
  |nilIface=>cases b with
   |nilIface=>
    rcases d with rfl|rfl<;>rcases j with rfl|rfl<;>rcases k with rfl|rfl
    all_goals first|exact bZ.h rfl|exact f _ .nilFunc rfl
   |_=>rcases d with rfl|rfl<;>exact bZ.h rfl
  |agg xs=>cases b with
   |agg p=>
    rcases d with rfl|rfl
    all_goals
     show bZ P U id (if (!P.eqGuardType P.depth t)=true then pure () else _) (if (!P.eqGuardType P.depth t)=true then pure () else _);split;exact bZ.h rfl;exact f _ .nilFunc rfl
   |_=>rcases d with rfl|rfl<;>exact bZ.h rfl
  |_=>rcases d with rfl|rfl<;>(cases b<;>exact bZ.h rfl)
 cases c<;>first|exact g _ (.inl rfl)|exact g _ (.inr rfl)|exact bZ.h rfl
def Gq{f f':Bg->β->Sem (ForInStep β)}(h:∀x b,bZ P U (MG id) (f x b) (f' (pV U x) b)):∀(l:List Bg) (b:β),bZ P U id (forIn l b f) (forIn (qj U l) b f')
 | [],b=>bZ.h rfl
 |x::l,b=>by
  rw[qj,mL,mL];refine bZ.e (h x b) λs=>?_;cases s with
  |done b=>exact bZ.h rfl
  |yield b=>exact Gq h l b
def yD(x:Bg):bZ P U (pV U) (Conv.bytesToString x) (Conv.bytesToString (pV U x)):=by
 unfold Conv.bytesToString;cases x<;>first|exact bZ.j|skip
 rename_i a n c;cases a with
 |none=>exact bZ.h rfl
 |some a=>
  refine bZ.e (rT a n) λd=>?_;rw[<-mP,<-mP,sq];refine bZ.e (pa:=id) (Gq (λv b=>?_) _ _) λr=>bZ.h rfl;cases v with
  |int k m=>cases k<;>first|exact bZ.j|exact bZ.h rfl
  |_=>exact bZ.j
theorem JJ(t:Bi)(c:Array Bg)(w:A1)(a:Array Event):(newRow t c).runT P w a=(.ok ⟨w.heap.size,0,none⟩ {w with heap:=w.heap.push (.cells c t)},a):=rfl
def yJ(e:Bi)(s:Bh):bZ P U (pV U) (Conv.stringToBytes e s) (Conv.stringToBytes e s):=by
 unfold Conv.stringToBytes;refine bZ.e bZ.V λg=>?_;simp;intro w p q k m r;have i:dI U (s.data.map (λb=>.int .u8 b.toNat)++Array.replicate (g-s.size) (.int .u8 0))=s.data.map (λb=>.int .u8 b.toNat)++Array.replicate (g-s.size) (.int .u8 0):=by
  rw[dR,oH,lZ,BN];rfl
 have j:=pL (P:=P) (U:=U) e (s.data.map (λb=>.int .u8 b.toNat)++Array.replicate (g-s.size) (.int .u8 0));rw[i]at j;refine zw.e (j w p q k m r) λa w1 u v n d _ l y=>?_;rw[JJ]at d;simp at d;obtain⟨⟨rfl,rfl⟩,rfl⟩:=d;have o:U.X w.heap.size=false:=by
  cases hx:U.X w.heap.size with
  |false=>rfl
  |true=>
   obtain⟨c,t,j,_⟩:=m.x _ hx;exact absurd (gT j) (um _)
 have z:bZ P U id (markStringish (aA w.heap.size 0)) (markStringish (br U (aA w.heap.size 0))):=by
  unfold markStringish;refine bZ.e (bZ.a2 o rfl) λA=>?_;cases A with
  |none=>exact bZ.h rfl
  |some x=>exact bZ.aq o rfl
 exact(bZ.e (pb:=pV U) (f:=λ_=>pure _) (f':=λ_=>pure _) z λ_=>bZ.h rfl) _ _ _ _ y.h l
def GL(a:Addr):bZ P U (br U) (Conv.seenAt a) (Conv.seenAt (br U a)):=by
 unfold Conv.seenAt;refine bZ.e (vZ a.block) λv=>?_;cases v with
 |none=>exact bZ.h rfl
 |some v=>
  let ⟨seen,u⟩:=v
  show bZ P U (br U) (if (a.off=0&&a.spot.isNone)=true then pure seen else _) (if (a.off=0&&a.spot.isNone)=true then pure (br U seen) else _);split;exact bZ.h rfl;show bZ P U (br U) (if (a.spot.isSome||seen.spot.isSome)=true then (unsupported _ >>= λ_=>_) else _) (if (a.spot.isSome||seen.spot.isSome)=true then (unsupported _ >>= λ_=>_) else _);split;exact bZ.O;apply bZ.I;have b:(br U a).off=a.off:=rfl;have d:(br U seen).off=seen.off:=rfl;have g:(br U seen).block=U.f seen.block:=rfl;simp only[b,d,g];cases byteOfCell P P.depth u a.off with
  |none=>exact bZ.H
  |some β=>
   refine bZ.af rfl (λi s=>?_) λi w k l j m o _=>aE;cases s with
   |none=>exact bZ.H
   |some s=>
    let ⟨e,n⟩:=s
    dsimp only;split;exact bZ.O;cases cellAtBytes P P.depth e (n/P.cellsOf e) seen.off β with
    |none=>exact bZ.H
    |some c=>exact bZ.h rfl
def rm(s d:Bi)(x:Bg)(h:(∃t,P.underlying s=some (.pointer t)/\P.underlying d=some .unsafePointer)\/∃t,P.underlying s=some .unsafePointer/\P.underlying d=some (.pointer t)):bZ P U (pV U) (Conv.unsafePointer s d x) (Conv.unsafePointer s d (pV U x)):=by
 unfold Conv.unsafePointer;rcases h with⟨t,f,g⟩|⟨t,f,g⟩
 .refine bZ.ah f (bZ.ah g ?_);cases x<;>first|exact bZ.j|skip
  rename_i p;cases p with
  |none=>exact bZ.h rfl
  |some a=>
   refine bZ.e (GL a) λu=>bZ.e (NT u.block) λn=>?_;simp only[id];refine bZ.e (fL t) λc=>?_;simp only[id];have A:(match n with|some cells=>decide ((br U u).off>=cells)&&(br U u).spot.isNone|none=>false)=(match n with|some cells=>decide (u.off>=cells)&&u.spot.isNone|none=>false):=rfl;cases n with
   |none=>

    split;exact bZ.e (bZ.ab rfl) λr=>bZ.h rfl;exact bZ.h rfl
   |some n=>
    show bZ P U (pV U) (if (decide (c=0)||(decide (u.off>=n)&&u.spot.isNone))=true then _ else _) (if (decide (c=0)||(decide (u.off>=n)&&u.spot.isNone))=true then _ else _);split;exact bZ.e (bZ.ab rfl) λr=>bZ.h rfl;exact bZ.h rfl
 .refine bZ.ah f (bZ.ah g ?_);cases x<;>first|exact bZ.j|skip
  rename_i p;cases p with
  |none=>exact bZ.h rfl
  |some a=>
   refine bZ.e (GL a) λu=>bZ.e (fL t) λc=>ub u t 1 (λi b=>?_) λi b w B m o q v y=>?_;simp;split;exact bZ.h rfl;refine bZ.e (bZ.a2 i rfl) λk=>?_;cases k with
   |none=>exact bZ.O
   |some k=>
    refine bZ.I (bZ.I ?_);split;exact bZ.O;exact bZ.e (bZ.ab rfl) λr=>bZ.h rfl
   simp;by_cases l:c=0;subst l;exact jc q v rfl;simp only[l,decide_false,BQ,eL,mj];apply zw.h;show ry ((match w.shape? u.block with|some (e,z)=>_|none=>(unsupported _ >>= λ_=>_):Sem Bg).runT P w m);rw[y];trivial
inductive OkConv (P:Program) (s d:TypeId):Prop
 |ints (k k':IntKind):P.underlying s=some (.int k')->P.underlying d=some (.int k)->OkConv P s d
 |bytes (e:TypeId):P.underlying s=some (.slice e)->P.underlying d=some .string->P.underlying e=some (.int .u8)->OkConv P s d
 |text (e:TypeId):P.underlying s=some .string->P.underlying d=some (.slice e)->P.underlying e=some (.int .u8)->OkConv P s d
 |ptr (t:TypeId):P.underlying s=some (.pointer t)->P.underlying d=some .unsafePointer->OkConv P s d
 |back (t:TypeId):P.underlying s=some .unsafePointer->P.underlying d=some (.pointer t)->OkConv P s d
def NU(s d:Bi)(x:Bg)(h:OkConv P s d):bZ P U (pV U) (convert s d x) (convert s d (pV U x)):=by
 unfold convert;cases h with
 |ints k j f g=>
  refine bZ.ah f (bZ.ah g ?_);cases x with
  |int k n=>exact bZ.h rfl
  |float k b=>exact(Eu _ _ _).h λ_ h=>h.e
  |pointer a=>cases a<;>exact bZ.H
  |slice a n c=>cases a<;>exact bZ.H
  |_=>exact bZ.H
 |bytes e f g i=>
  refine bZ.ah f (bZ.ah g ?_);cases x with
  |int k n=>exact bZ.h rfl
  |string s=>exact bZ.h rfl
  |_=>exact bZ.ah i (yD _)
 |text e f g i=>
  refine bZ.ah f (bZ.ah g ?_);cases x with
  |string s=>exact bZ.ah i (yJ e s)
  |pointer a=>cases a<;>exact bZ.H
  |slice a n c=>cases a<;>exact bZ.H
  |_=>exact bZ.H
 |ptr t f g=>
  refine bZ.ah f (bZ.ah g ?_);have:=rm (U:=U) s d x (.inl ⟨t,f,g⟩);cases x with
  |pointer a=>cases a<;>exact this
  |slice a n c=>cases a<;>exact this
  |_=>exact this
 |back t f g=>
  refine bZ.ah f (bZ.ah g ?_);have:=rm (U:=U) s d x (.inr ⟨t,f,g⟩);cases x with
  |pointer a=>cases a<;>exact this
  |slice a n c=>cases a<;>exact this
  |_=>exact this
def Au(U:Pm):Place->Place
 |.val v=>.val (pV U v)
 |.var a=>.var (br U a)
def cV(U:Pm):Next->Next
 |.value v=>.value (pV U v)
 |.enter f c=>.enter (pM U f) (dI U c)
 |.round l f e a b=>.round (U.f l) (pM U f) (dI U e) (pC U a) (pC U b)
 |.defer d=>.defer (lN U d)
 |.skip=>.skip
 |.recover=>.recover
 |_=>.sleep U.k
def zV(t:Bi)(x:Place):bZ P U (pV U) (x.get t) ((Au U x).get t):=by
 cases x with
 |val v=>exact bZ.h rfl
 |var a=>exact jU t a
include C in
def rR:∀(l:List FieldStep) (t:Bi) (x:Place),bZ P U (λy=>(y.1,Au U y.2)) (follow l t x) (follow l t (Au U x))
 | [],t,x=>bZ.h rfl
 |s::l,t,x=>by
  unfold follow;refine bZ.e (bE s.struct) λd=>?_;cases d<;>first|exact bZ.j|skip
  rename_i c;simp;cases c[s.index]? with
  |none=>exact bZ.j
  |some f=>
   dsimp only;split;refine bZ.e (zV t x) λv=>bZ.e (rM C v) λa=>bZ.e (qy a f) λb=>?_;exact rR l f.type (.var b)
   .cases x with
    |var a=>exact bZ.e (qy a f) λb=>rR l f.type (.var b)
    |val v=>
     cases v<;>first|exact bZ.j|skip
     rename_i g;exact bZ.e (ly f.type g f.offset) λv=>rR l f.type (.val v)
def bZ.a4{pb:β->β}{f':α->Sem β}:bZ P U pb ((runtimePanic .nilDeref:Sem α) >>= f) ((runtimePanic .nilDeref:Sem α) >>= f'):=
 λ_ b _ a c d _=>.inr ⟨b,a,rfl,d,ll.e c⟩
include C in
def Pc (b : TypeId) (p : Value) (m : String) : bZ P U (pV U) (Builtin.ssaWrapNilChk_ #[b] b #[p, strVal "", strVal m]) (Builtin.ssaWrapNilChk_ #[b] b #[pV U p, strVal "", strVal m]) := by
 cases p with
 |pointer a=>cases a with
  |some a=>exact bZ.h rfl
  |none=>
   refine bZ.e bZ.V λn=>?_;simp;split;exact bZ.a4
   .refine bZ.e (bE b) λd=>?_;cases d<;>first|exact bZ.j|skip
    rename_i t;refine bZ.e (gB t) λi=>?_;simp;split;split;split;exact cr C _;exact bZ.H;exact bZ.j;exact bZ.j
 |_=>exact bZ.j
include C in
def vS(b:Bi)(x:Place)(p:Bool)(w:Option String):bZ P U (pV U) (receiverAt b x p w) (receiverAt b (Au U x) p w):=by
 unfold receiverAt;refine bZ.e (bE b) fun d=>?_;simp;have c : bZ P U (pV U) (match p, x with | true, .var a => pure (.pointer (some a)) | true, .val _ => stuck "method row: a pointer method of a value without an address" | false, x => x.get b) (match p, Au U x with | true, .var a => pure (.pointer (some a)) | true, .val _ => stuck "method row: a pointer method of a value without an address" | false, x => x.get b) := by
  cases p with
  |true=>cases x<;>first|exact bZ.h rfl|exact bZ.j
  |false=>cases x<;>exact zV b _
 cases d with
 |pointer e=>cases p with
  |true=>cases x<;>exact zV b _
  |false=>
   cases x;all_goals
    refine bZ.e (zV b _) λptr=>?_;cases w with
    |none=>exact bZ.e (pa:=pV U) (bZ.h rfl) λptr=>bZ.e (rM C ptr) λa=>jU e a
    |some m=>exact bZ.e (Pc C b ptr m) λptr=>bZ.e (rM C ptr) λa=>jU e a
 |_=>cases p<;>cases x<;>first|exact bZ.h rfl|exact bZ.j|exact zV b (.val _)|exact zV b (.var _)
include C in
def BZ(t:Bi)(v:Bg)(a:Array FieldStep)(p:Bool):bZ P U (pV U) (receiverVia t v a p) (receiverVia t (pV U v) a p):=by
 unfold receiverVia;exact bZ.e (rR C a.toList t (.val v)) λy=>vS C y.1 y.2 p none
include C in
def GE:∀(n:Nat) (t:Bi) (v:Bg) (a:String),U.xT a=true->bZ P U (λy=>(pM U y.1,pV U y.2)) (method n t v a) (method n t (pV U v) a)
 |0,t,v,a,b=>bZ.H
 |n+1,t,v,a,b=>by
  unfold method typeInfo;show bZ P U _ ((do match P.info? t with | some i => pure i | none => stuck "no such type") >>= _) ((do match P.info? t with | some i => pure i | none => stuck "no such type") >>= _);cases hi:P.info? t with
  |none=>exactλ_ _ _ _ _ _=>aE
  |some i=>
   show bZ P U _ (match i.methods.find? (·.name==a) with|some m=>_|_=>_) (match i.methods.find? (·.name==a) with|some m=>_|_=>_);cases hm:i.methods.find? (·.name==a) with
   |none=>exact bZ.j
   |some m=>
    refine bZ.e (rR C m.path.toList t (.val v)) λy=>?_;cases hf:m.func with
    |none=>
     refine bZ.e (zV y.1 y.2) λu=>?_;cases u<;>first|exact bZ.j|exact cr C _|skip
     exact GE n _ _ a b
    |some f=>
     refine bZ.e (vS C y.1 y.2 _ _) λu=>bZ.h ?_;have c:m.name=a:=by
      have:=Array.find?_some hm;simpa using this
     have:=C.j t i m f.1 f.2 hi (Rf hm) hf (by rw[c];exact b);simp only[pM,this,dC]
end Go.Eqv
