/- Parts of the proof. -/
import Derived.Test.YtbebfliimjjohabGreatDoorRows
import GoSem.PinnedTables
import Derived.PartsItems
import Derived.HeadItems
import Derived.ProofKit
import Derived.OpenShut
import Derived.WalkLawsBesides
import Derived.Stop.Asserts
import Derived.LaidLaws
import Derived.LaidHandle
import Derived.Deep.RegionHeld3
import Derived.Maps.RangeWalk
import Derived.StillTailTactics
import Derived.BigQuiet
import Derived.Test.YtbebfliimjjohabGreatDoorMAl1
set_option maxRecDepth 100000
set_option maxHeartbeats 8000000
set_option linter.all false
open Go.Proofs.Tryz
namespace Go.Proofs.YtbebfliimjjohabGreatDoor
open Go.RowKit Go.Extern.Stop Go.Stop Go.Extern Go.Maps Go
namespace Bare
variable{w:Ba}
def iZ(w:World):Prop:=w.cell? ⟨0,0,none⟩=some (.iface 252 (.agg #[.pointer (some ⟨9,47,none⟩)]))
def Q3(t:Addr)(w:Ba):(ReflectliteValue.unpack (.iface 120 (.pointer (some t)))).run prog w
  = .ok (.agg #[.pointer (some ⟨9,120,none⟩),.pointer (some ⟨w.heap.size,0,none⟩),.int .u64 150]) (w.alloc (.cells #[.pointer (some t)] 120)):=bt
def aaK(a : Addr)(w : World) : (ReflectliteValue.methodAny (ReflectliteValue.valueError "reflectlite.Value.Type" 0) (fun t _ _ _ => ReflectliteType.toType t) #[.agg #[.pointer (some ⟨9, 120, none⟩), .pointer (some a), .int .u64 150]]).run prog w
  = .ok (.iface 252 (.agg #[.pointer (some ⟨9,120,none⟩)])) w:=bt
def IY(h : Value)(w : World) : (Go.method 504 252 (.agg #[h]) "Kind").run prog w = .ok (317, h) w := bt
def aaI(w:Ba):((ReflectliteType.abiMethod λt=>(λa:Nat=>Value.int IntKind.u8 (a:Int)) <$> Rtype.kind t) #[.pointer (some ⟨9,120,none⟩)]).run prog w=.ok (.int .u8 22) w:=bt
def aaH(w:Ba):((ReflectliteType.abiMethod λt=>(λa:Nat=>Value.int IntKind.u8 (a:Int)) <$> Rtype.kind t) #[.pointer (some ⟨9,59,none⟩)]).run prog w=.ok (.int .u8 2) w:=bt
def Q1(a:Addr)(w:Ba):(ReflectliteValue.parts (.agg #[.pointer (some ⟨9,120,none⟩),.pointer (some a),.int .u64 150])).run prog w=.ok (some (120,a,150)) w:=bt
def YN(a p:Addr)(W:Ba)(b:W.cell? a=some (.pointer (some p))):
  (ReflectliteValue.method (ReflectliteValue.valueError "reflectlite.Value.IsNil" 0) ReflectliteValue.isNil #[.agg #[.pointer (some ⟨9, 120, none⟩), .pointer (some a), .int .u64 150]]).run prog W = .ok (.bool false) W := by
 apply (cr (λs=>Sem.run prog s W) (show ReflectliteValue.method _ _ _=(ReflectliteValue.parts (.agg #[.pointer (some (aA 9 120)),.pointer (some a),.int .u64 150]) >>= _) from rfl)).trans;simp only[rL,Q1,Result.andThen];simp[ReflectliteValue.isNil,loadVar,isAgg,underlying,underlying120,b,Result.andThen]
def IX(h : Value)(w : World) : (Go.method 504 252 (.agg #[h]) "Elem").run prog w = .ok (330, .agg #[h]) w := bt
def wm(h : Value)(w : World) : (Go.method 504 252 (.agg #[h]) "Implements").run prog w = .ok (331, .agg #[h]) w := bt
def tN(h : Value)(w : World) : (Go.method 504 252 (.agg #[h]) "AssignableTo").run prog w = .ok (328, .agg #[h]) w := bt
def aaF(w:Ba):(ReflectliteType.method ReflectliteType.elem #[.agg #[.pointer (some ⟨9,120,none⟩)]]).run prog w=.ok (.iface 252 (.agg #[.pointer (some ⟨9,59,none⟩)])) w:=bt
def FE(w : World) : (ReflectliteType.relation "Implements" ReflectliteType.implements_ #[.agg #[.pointer (some ⟨9, 59, none⟩)], .iface 252 (.agg #[.pointer (some ⟨9, 47, none⟩)])]).run prog w = .ok (.bool true) w := bt
def Vz(v:Dv)(w:Ba):(ReflectliteType.typeOf #[.iface 59 v]).run prog w=.ok (.iface 252 (.agg #[.pointer (some ⟨9,59,none⟩)])) w:=bt
def FC(w : World) : (ReflectliteType.relation "AssignableTo" ReflectliteType.assignableTo #[.agg #[.pointer (some ⟨9, 59, none⟩)], .iface 252 (.agg #[.pointer (some ⟨9, 59, none⟩)])]).run prog w = .ok (.bool true) w := bt
def Q2(n:Int)(w:Ba):(ReflectliteValue.unpack (.iface 59 (.int .i64 n))).run prog w
  = .ok (.agg #[.pointer (some ⟨9,59,none⟩),.pointer (some ⟨w.heap.size,0,none⟩),.int .u64 130]) (w.alloc (.cells #[.int .i64 n] 59)):=bt
def Vx(w:Ba):(Rtype.elem? 120).run prog w=.ok (some 59) w:=bt
def mkE(p:Addr)(w:Ba):(ReflectliteValue.mk 59 p ReflectliteValue.flagAddr).run prog w=.ok (.agg #[.pointer (some ⟨9,59,none⟩),.pointer (some p),.int .u64 386]) w:=bt
def aaG(a p:Addr)(W:Ba)(b:W.cell? a=some (.pointer (some p))):
  (ReflectliteValue.method (ReflectliteValue.valueError "reflectlite.Value.Elem" 0) ReflectliteValue.elem #[.agg #[.pointer (some ⟨9, 120, none⟩), .pointer (some a), .int .u64 150]]).run prog W
   = .ok (.agg #[.pointer (some ⟨9,59,none⟩),.pointer (some p),.int .u64 386]) W:=by
 apply (cr (λs=>Sem.run prog s W) (show ReflectliteValue.method _ _ _=(ReflectliteValue.parts (.agg #[.pointer (some (aA 9 120)),.pointer (some a),.int .u64 150]) >>= _) from rfl)).trans;simp only[rL,Q1,Result.andThen];simp[ReflectliteValue.elem,loadVar,isAgg,underlying,underlying120,b,Result.andThen,Vx,mkE]
def Vy(a:Addr)(w:Ba):(ReflectliteValue.parts (.agg #[.pointer (some ⟨9,59,none⟩),.pointer (some a),.int .u64 386])).run prog w=.ok (some (59,a,386)) w:=bt
def YO(a:Addr)(w:Ba):(ReflectliteValue.parts (.agg #[.pointer (some ⟨9,59,none⟩),.pointer (some a),.int .u64 130])).run prog w=.ok (some (59,a,130)) w:=bt
def Vw(w:Ba):(Rtype.directlyAssignable 59 59).run prog w=.ok true w:=bt
def ace(a b:Addr)(n:Int)(old:Dv)(W:Ba)(c:W.cell? b=some (.int .i64 n))(d:W.cell? a=some old)(e:W.frozen? a=false):
  (ReflectliteValue.set #[.agg #[.pointer (some ⟨9,59,none⟩),.pointer (some a),.int .u64 386],.agg #[.pointer (some ⟨9,59,none⟩),.pointer (some b),.int .u64 130]]).run prog W
   = .ok (.tuple #[]) (W.setCell a (.int .i64 n)):=by
 apply (cr (λs=>Sem.run prog s W) (show ReflectliteValue.set _=(ReflectliteValue.parts (.agg #[.pointer (some (aA 9 59)),.pointer (some a),.int .u64 386]) >>= λ_=>ReflectliteValue.parts (.agg #[.pointer (some (aA 9 59)),.pointer (some b),.int .u64 130]) >>= _) from rfl)).trans;simp only[rL,Vy,YO,Result.andThen];simp[ReflectliteValue.flagAddr,loadVar,isAgg,underlying,underlying59,c,Result.andThen,Vw,storeVar,Value.cells,storeCells,Addr.add];rw[run_store prog W a _ _ (by rfl)];simp[d,e]
def YM(n:Int){t:Addr}(old:Dv)(f:w.cell? ⟨0,0,none⟩=some (.iface 252 (.agg #[.pointer (some ⟨9,47,none⟩)])))(a:w.cell? t=some old)(d:w.frozen? t=false):
  Calls prog 55 #[.iface 59 (.int .i64 n),.iface 120 (.pointer (some t))] w λg w'=>g=.returned (.bool true)/\w'=((((w.alloc (.cells #[.pointer (some t)] 120)).alloc (.cells #[.pointer (some ⟨9,120,none⟩),.pointer (some ⟨w.heap.size,0,none⟩),.int .u64 150] 187)).alloc (.cells #[.pointer (some ⟨9,120,none⟩),.pointer (some ⟨w.heap.size,0,none⟩),.int .u64 150] 187)).alloc (.cells #[.int .i64 n] 59)).setCell t (.int .i64 n):=by
 have z:=@dO prog 118 _ (fun b=>ReflectliteValue.unpack (b.getD 0 (.tuple #[]))) func118 bt bt bt bt;have A := @dO prog 119 _ (ReflectliteValue.methodAny (ReflectliteValue.valueError "reflectlite.Value.Type" 0) (fun t _ _ _ => ReflectliteType.toType t)) func119 bt bt bt bt;have B := @dO prog 120 _ (ReflectliteValue.method (ReflectliteValue.valueError "reflectlite.Value.IsNil" 0) ReflectliteValue.isNil) func120 bt bt bt bt;have i:=@dO prog 317 _ (ReflectliteType.abiMethod fun t=>do pure (.int .u8 (← Rtype.kind t))) func317 bt bt bt bt;have j:=@dO prog 330 _ (ReflectliteType.method ReflectliteType.elem) func330 bt bt bt bt;have k := @dO prog 331 _ (ReflectliteType.relation "Implements" ReflectliteType.implements_) func331 bt bt bt bt;have l:=@dO prog 169 _ ReflectliteType.typeOf func169 bt bt bt bt;have m := @dO prog 328 _ (ReflectliteType.relation "AssignableTo" ReflectliteType.assignableTo) func328 bt bt bt bt;have o := @dO prog 170 _ (ReflectliteValue.method (ReflectliteValue.valueError "reflectlite.Value.Elem" 0) ReflectliteValue.elem) func170 bt bt bt bt;have p:=@dO prog 171 _ ReflectliteValue.set func171 bt bt bt bt;have C:=Vz;have D:=tN;have q:=FC;have r:=Q2;have E:=Q3;have F:=aaK;have G:=IY;have H:=IX;have I:=wm;have s:=aaI;have u:=aaH;have v:=aaF;have x:=FE;have J:=YN (aA w.heap.size 0) t ((w.alloc (.cells #[.pointer (some t)] 120)).alloc (.cells #[.pointer (some (aA 9 120)),.pointer (some (aA w.heap.size 0)),.int .u64 150] 187)) aY;have e:0<w.heap.size:=by
  rcases bX 0 w.heap.size with h|h
  exact h;simp[World.cell?,cY h]at f
 have y:((w.alloc (.cells #[.pointer (some t)] 120)).alloc (.cells #[.pointer (some (aA 9 120)),.pointer (some (FI w 0)),.int .u64 150] 187)).cell? (aA 0 0)=some (.iface 252 (.agg #[.pointer (some (aA 9 47))])):=by
  rw[aC _ _ (aA 0 0) (by first|(simp;done)|(simp;omega)),aC _ _ (aA 0 0) e];exact f
 have c:t.block<w.heap.size:=by
  rcases bX t.block w.heap.size with h|h
  exact h;simp[World.cell?,cY h]at a
 have el:=aaG (FI w 0) t (((w.alloc (.cells #[.pointer (some t)] 120)).alloc (.cells #[.pointer (some (aA 9 120)),.pointer (some (FI w 0)),.int .u64 150] 187)).alloc (.cells #[.pointer (some (aA 9 120)),.pointer (some (FI w 0)),.int .u64 150] 187)) (by rw[aC _ _ (FI w 0) fS];simp);have K:=ace t (aA (w.heap.size+1+1+1) 0) n old ((((w.alloc (.cells #[.pointer (some t)] 120)).alloc (.cells #[.pointer (some (aA 9 120)),.pointer (some (FI w 0)),.int .u64 150] 187)).alloc (.cells #[.pointer (some (aA 9 120)),.pointer (some (FI w 0)),.int .u64 150] 187)).alloc (.cells #[iI n] 59))
  (by rw[World.cell?_alloc_at _ _ _ _ aY];rfl)
  (by rw[aC _ _ t fS,aC _ _ t fS,aC _ _ t fS,aC _ _ t c];exact a)
  (by rw[cX _ _ t fS,cX _ _ t fS,cX _ _ t fS,cX _ _ t (vI c)];exact d)
 go_in;go_wp2;refine wp_loop_rounds 1 ?_;rw[rounds_succ];go_wp2;go_ret;exact⟨rfl,rfl⟩
def zN(n:Int)(a:iZ w):Calls prog 21 #[.iface 59 (iI n)] w λe w'=>e=.returned (iI n)/\FF w w':=by
 unfold iZ at a;have b:0<w.heap.size:=by
  rcases bX 0 w.heap.size with h|h
  exact h;simp[World.cell?,cY h]at a
 have c:(w.alloc (.cells #[.int .i64 0] 59)).cell? ⟨0,0,none⟩=some (.iface 252 (.agg #[.pointer (some ⟨9,47,none⟩)])):=by
  rw[aC _ _ ⟨0,0,none⟩ b];exact a
 go_in;go_wp2_with (go_at_call 55;refine(YM n (iI 0) c aY aY).mono ?_;rintro e w'⟨rfl,rfl⟩)
 go_ret;refine⟨rfl,?_⟩;exact(((((au _ _).alloc (aj _) _).alloc (by first|(simp;done)|(simp;omega)) _).alloc (by first|(simp;done)|(simp;omega)) _).alloc (by first|(simp;done)|(simp;omega)) _).alloc (by first|(simp;done)|(simp;omega)) _
def iZ.e{B:Nat}{w':Ba}(h:iZ w)(a:Below B w w')(b:0<B):iZ w':=(a.cell (p:=(aA 0 0)) b).trans h
def iZ.h(h:iZ w):0<w.heap.size:=by
 unfold iZ at h;rcases bX 0 w.heap.size with a|a
 exact a;simp[World.cell?,cY a]at h
end Bare
namespace Num
variable{n l:Int}
def lY(n l h:Int):Bool:=decide (l<=n/\n<=h)
def fu{h:Int}(a:l<=n)(b:n<=h):lY n l h=true:=by simp[lY,a,b]
def j4{h:Int}(a:n<l):lY n l h=false:=by simp[lY];omega
def j3{h:Int}(a:h<n):lY n l h=false:=by simp[lY];omega
def eo{h:Int}(a:lY n l h=true):l<=n/\n<=h:=by simpa[lY] using a
def Pv:Nat->Nat->List Int
 |0,n=>[(n:Int)]
 |f+1,n=>if n<128 then [(n:Int)] else ((n%128+128:Nat):Int)::Pv f (n/128)
def nb(n:Nat):List Int:=Pv n n
def RJ:∀(f g n:Nat),n<=f->n<=g->Pv f n=Pv g n:=by
 intro f;induction f with
 |zero=>
  intro g n a _;cases g with
  |zero=>rfl
  |succ g=>rw[Pv,Pv,aH ak]
 |succ f b=>
  intro g n a c;cases g with
  |zero=>rw[Pv,Pv,aH ak]
  |succ g=>
   rw[Pv,Pv];by_cases h:n<128;rw[aH h,aH h];rw[ay h,ay h,b g (n/128) ak ak]
def sR{n:Nat}(h:n<128):nb n=[(n:Int)]:=by
 unfold nb;cases n with
 |zero=>rfl
 |succ k=>rw[Pv,aH h]
def Ci{n:Nat}(h:¬n<128):nb n=((n%128+128:Nat):Int)::nb (n/128):=by
 unfold nb;cases n with
 |zero=>exact absurd ak h
 |succ k=>
  rw[Pv,ay h];rw[RJ k ((k+1)/128) ((k+1)/128) ak ak]
def rZ(f:Nat):∀n:Nat,n<128^(f+1)->(nb n).length<=f+1:=by
 induction f with
 |zero=>intro n h;rw[sR (dD h)];simp
 |succ f b=>
  intro n h;by_cases a:n<128;rw[sR a];simp;rw[Ci a,bJ];have:=b (n/128) (by rw[Zx ak];rw[Nat.pow_succ]at h;exact h);omega
def Y6(n:Nat):0<(nb n).length:=by
 by_cases h:n<128;rw[sR h];simp;rw[Ci h];simp
def VX(f:Nat):∀n:Nat,n<128^(f+1)->∀x∈nb n,0<=x/\x<256:=by
 induction f with
 |zero=>
      intro n h x a;have c:n<128:=dD h;rw[sR c]at a;simp at a;omega
 |succ f d=>
  intro n h x a;by_cases b:n<128;rw[sR b]at a;simp at a;omega;rw[Ci b,bG]at a;rcases a with rfl|a
  omega;exact d (n/128) (by rw[Zx ak];rw[Nat.pow_succ]at h;exact h) x a
def fO(d:ByteArray):List Int:=d.data.toList.map λb=>((b.toNat:Nat):Int)
def dB(d:DS):(fO d).length=d.size:=by unfold fO;rw[bz];rfl
def wy{d:DS}:∀x∈fO d,0<=x/\x<256:=by
 intro x a;simp only[fO,ed]at a;obtain⟨b,_,rfl⟩:=a;have:=b.toNat_lt;omega
structure M where
 k:Int
 c:Int
 n:Int
 e:Int
 s:Int
 o:Int
 v:Int
 l:Bool
 d:ByteArray
def M.j(m:M):List Int:=[m.k,m.c,m.n,m.e,m.s,m.o,m.v]
def jK(n:Int):Bool:=lY n 0 1099511627776
def iH(m:M):Bool:=lY m.k 1 9&&decide (m.d.size<=20)&&m.j.all jK
def iJ(a:List Int):List Int:=a.flatMap λn=>nb n.toNat
def lZ(l:Bool):Int:=if l then 1 else 0
def M.h(m:M):List Int:=iJ m.j++[lZ m.l,(m.d.size:Int)]++fO m.d
def NB(a:List Int)(n:Int):iJ (a++[n])=iJ a++nb n.toNat:=by simp[iJ]
def RK(h:jK n=true):(nb n.toNat).length<=6/\∀x∈nb n.toNat,0<=x/\x<256:=by
 have:=eo h;have a:n.toNat<128^(5+1):=by
                     have:(128:Nat)^(5+1)=4398046511104:=cn;omega
 exact⟨rZ 5 _ a,VX 5 _ a⟩
def mY:∀a:List Int,a.all jK=true->(iJ a).length<=6*a.length/\∀x∈iJ a,0<=x/\x<256
 | [],_=>by simp[iJ]
 |n::a,h=>by
  simp only[Uc,aR]at h;have c:=RK h.1;have d:=mY a h.2;have e:iJ (n::a)=nb n.toNat++iJ a:=by simp[iJ]
  rw[e];refine⟨by simp only[aL,bJ];omega,λx b=>?_⟩;rcases cI.1 b with b|b
  exact c.2 x b;exact d.2 x b
end Num
namespace Lease
variable{x c:Int}
def VJ:laidOutB prog=true:=bt
def aaQ:(match prog.underlying 335 with|some (.array _ _)|some (.struct _)=>true|_=>false)=true:=bt
def ack:(335:DU)<prog.types.size:=gT bt
def aaP:prog.keyTypeAt 3 335=true:=bt
def aci:WideMaps.KeyLaw prog 335:=deep_law_laid VJ (m:=3) ak ack aaP aaQ
def wu:Keyed prog 335:=Keyed.of_law aci
def lX:Keyed prog 3:=int_keyed underlying3
def Rm{w:Ba}:(zeroValue 3).run prog w=.ok (.int .i64 0) w:=bt
def fN(x:Int):Prop:=-9223372036854775808<=x/\x<=9223372036854775807
def fN.e(h:fN x):(Lit.int .i64 x).wf=true:=by
 let ⟨a,b⟩:=h
 simp only[Lit.wf,IntKind.min,IntKind.max,IntKind.signed,IntKind.bits,aR,f9,dG];exact⟨dD a,fS⟩
def fN.h(h:(Lit.int .i64 x).wf=true):fN x:=by
 simp only[Lit.wf,IntKind.min,IntKind.max,IntKind.signed,IntKind.bits,aR,f9,dG]at h;let ⟨a,b⟩:=h
 simp at a b;exact⟨ak,ak⟩
def kk(c o:Int):Lit:=.string (keyBytes [.int .i64 c,.int .i64 o])
def aaO:prog.types.size=404:=bt
def Rg:prog.cellsOf 335=2:=bt
def YT:prog.cellsOf 3=1:=bt
def acm:prog.keyType 335=true:=bt
def Xx{d:Nat}(h:fN x):prog.keyLits (d+1) 3 [.int .i64 x]=some [.int .i64 x]:=by
 unfold Program.keyLits;simp[underlying3,h.e]
def Nn{o:Int}(hc:fN c)(a:fN o):keyOf prog 335 (.agg #[.int .i64 c,.int .i64 o])=some (kk c o):=by
 have b:prog.keyLits (prog.types.size+1) 335 (Value.agg #[.int .i64 c,.int .i64 o]).cells.toList=some [.int .i64 c,.int .i64 o]:=by
  rw[aaO];unfold Program.keyLits;simp[underlying335,Value.cells,Rg,YT,Xx hc,Xx a]
 have d:(Value.agg #[.int .i64 c,.int .i64 o]).formed prog 335=true:=by simp[Value.formed,underlying335,Rg]
 unfold keyOf;rw[underlying335];simp only[acm,d,Bool.and_self,dG,b,lN];rfl
def xR(hc:fN c):keyOf prog 3 (.int .i64 c)=some (.int .i64 c):=keyOf_int_mk underlying3 hc.e
abbrev j1:=DataW Unit
abbrev Cd (x:Int):j1:=.lit (.int .i64 x)
def fY(D:j1)(c:Int):Nat->j1
 |0=>D
 |n+1=>(fY D c n).del (kk c n)
def ic(v:Int->Int)(c x:Int):Int->Int:=λy=>if y=c then x else v y
def ek{v:Int->Int}:ic v c x c=x:=by simp[ic]
def dH{v:Int->Int}{y:Int}(h:y≠c):ic v c x y=v y:=by simp[ic,h]
end Lease
namespace Gen
variable{a:Act}{listed:Array Bool}{ops:Array Oper}{Q:Exit->Act->Ba->Prop}{i k fuel:Nat}{op:Op}{oi o:Oper}{gd:Option (Nat×Bool)}{d:Option Tmp}{P:Ft}{md:Region.Mode}{ps:String}{ty:DU}{w:Ba}{S:Ba->Prop}
def Open(listed:Array Bool):Prop:=∃k,listed.getD k true=false
def anyM(P:Program)(md:Region.Mode)(ops:Array Oper)(Q:Exit->Act->World->Prop)(S:World->Prop):Nat->Array Bool->Act->World->Prop
 |0,listed,a,w=>Region.ready md ops listed=[]/\Q .normal a w
 |fuel+1,listed,a,w=>
  (Region.ready md ops listed=[]->Q .normal a w) /\
  ∀i∈Region.ready md ops listed,wpOp P ops Q i (λb w'=>(Open (listed.setIfInBounds i true)->S w')/\anyM P md ops Q S fuel (listed.setIfInBounds i true) b w') a w
def Rf:∀(fuel:Nat) (listed:Array Bool) (a:Act) (w:Ba),anyM P md ops Q S fuel listed a w->wpAny P md ops Q fuel listed a w
 |0,_,_,_,h=>h
 |fuel+1,_,_,_,h=>⟨h.1,λi b=>wpOp_mono (λc w' d=>Rf fuel _ c w' d.2) (h.2 i b)⟩
def I9{ok:Oper}{v:Dv}(F:ops[i]?=some oi)(B:ops[k]?=some ok)(G:∃e∈ok.after,Region.binds md e=true/\e.on=i)(q:∀(j:Nat) (o:Oper) cs b,ops[j]?=some o->o.op≠.select cs b)(O:∀c a w,Q (.panic c) (a.put oi.dst v) w->Q (.panic c) a w):
  ∀(fuel:Nat) (listed:Array Bool) (a:Act) (w:Ba),
   (∀j t,ops[j]?=some t->j≠i->listed.getD j true=false->(∀e∈t.after,Region.binds md e=true->e.on≠i)->oi.apart ops t=true) ->
   i∈Region.ready md ops listed->listed.getD k true=false->i≠k->YieldsIf P ops S oi v a->S w ->
   anyM P md ops Q S fuel (listed.setIfInBounds i true) (a.put oi.dst v) w->anyM P md ops Q S (fuel+1) listed a w:=by
 intro fuel;induction fuel with
 |zero=>
  intro listed a w _ u _ _ C y H;refine⟨λh=>(by rw[h]at u;cases u),λj D=>?_⟩;by_cases d:j=i;subst d;exact C.wpOp F y ⟨λ_=>y,H⟩;have:=ready_mono D d;rw[H.1]at this;cases this
 |succ fuel R=>
  intro listed a w f u g z C y H;refine⟨λh=>(by rw[h]at u;cases u),λj D=>?_⟩;by_cases d:j=i;subst d;exact C.wpOp F y ⟨λ_=>y,H⟩;have x:=H.2 j (ready_mono D d);obtain⟨r,t,n,A⟩:=mem_ready.1 D;have s:∀e∈t.after,Region.binds md e=true->e.on≠i:=λe I J K=>by
   have x:=A e I J;have h0:=(mem_ready.1 u).1;rw[K]at x;rcases bX i listed.size with L|L
   simp[L]at h0 x;rw[h0]at x;cases x;simp[cY L]at x
  have l:j≠k:=λe=>by
   subst e;obtain⟨e,I,J,T⟩:=G;rw[n]at B;obtain rfl:=bb B;exact s e I J T
  have m:Open ((listed.setIfInBounds i true).setIfInBounds j true):=⟨k,by rw[Py true l,Py true z];exact g⟩;have p:∀k ok,ops[k]?=some ok->k≠i->(listed.setIfInBounds j true).getD k true=false ->
    (∀e∈ok.after,Region.binds md e=true->e.on≠i)->oi.apart ops ok=true:=λk ok B M g N=>by
   refine f k ok B M ?_ N;by_cases l:j=k;subst l;exact r;rw[Py true l]at g;exact g
  refine wpOp_mono (λU w' E=>⟨λ_=>E.2.1 m,R (listed.setIfInBounds j true) U w' p (ready_mono u (eX d)) (by rw[Py true l];exact g) z E.1 (E.2.1 m) ?_⟩) (wpOp_putIf n (f j t n d r s) (λcs b=>q i oi cs b F) (λcs b=>q j t cs b n) O C x);rw[TW _ _ d];exact E.2.2
def waits(md:Region.Mode)(ops:Array Oper)(k i:Nat):Bool:=((ops[k]?).map λo=>o.after.any λe=>Region.binds md e&&e.on==i).getD false
def Ja(h:waits md ops k i=true):∃ok,ops[k]?=some ok/\∃e∈ok.after,Region.binds md e=true/\e.on=i:=by
 unfold waits at h;cases hk:ops[k]? with
 |none=>simp[hk]at h
 |some o=>
  simp[hk]at h;let ⟨x,a,b,c⟩:=h
  exact⟨o,rfl,_,Array.getElem_mem a,b,c⟩
def take{af:Array Edge}{v:Dv}(g:ops[i]?=some oi)(j:oi=⟨d,op,ty,ps,af,gd⟩)(l:waits md ops k i=true)(b:listed.getD k true=false)(e:(i==k)=false)(hs:Region.noSelect ops=true)(m:Region.free md ops listed i=true)(n:(Region.ready md ops listed).contains i=true)(o:∀c a w,Q (.panic c) (a.put d v) w->Q (.panic c) a w)(p:YieldsIf P ops S ⟨d,op,ty,ps,af,gd⟩ v a)(q:S w)(h:anyM P md ops Q S fuel (listed.setIfInBounds i true) (a.put d v) w):anyM P md ops Q S (fuel+1) listed a w:=by
 subst j;obtain⟨ok,f,r⟩:=Ja l;exact I9 g f r (Region.noSelect_spec hs) o fuel listed a w (Region.free_spec g m) (dD n) b (dD e) p q h
def one{af:Array Edge}(c:Region.ready md ops listed=[i])(g:ops[i]?=some o)(b:o=⟨d,op,ty,ps,af,none⟩)(h:∀K:Act->Ba->Prop,Shut (∀a w,S w->(S w->anyM P md ops Q S fuel (listed.setIfInBounds i true) a w)->K a w)->Oper.wp P ⟨d,op,ty,ps,af,none⟩ a w K Q):anyM P md ops Q S (fuel+1) listed a w:=by
 subst b;refine⟨λh0=>(by rw[c]at h0;cases h0),λj e=>?_⟩;rw[c]at e;obtain rfl:=bA.1 e;unfold wpOp;simp only[g,Region.wanted,dG];exact .inl (h _ (λa w f k=>⟨λ_=>f,k f⟩))
def last{af:Array Edge}(g:Region.ready md ops listed=[i])(p:ops[i]?=some o)(e:o=⟨d,op,ty,ps,af,none⟩)(q:(listed.setIfInBounds i true).toList.all id=true)(l:Region.ready md ops (listed.setIfInBounds i true)=[])(h:∀K:Act->Ba->Prop,Shut (∀a w,Q .normal a w->K a w)->Oper.wp P ⟨d,op,ty,ps,af,none⟩ a w K Q):anyM P md ops Q S (fuel+1) listed a w:=by
 subst e;refine⟨λh0=>(by rw[g]at h0;cases h0),λj m=>?_⟩;rw[g]at m;obtain rfl:=bA.1 m;unfold wpOp;simp only[p,Region.wanted,dG];refine .inl (h _ (λa w n=>⟨λ⟨k,c⟩=>?_,?_⟩));exfalso;rw[bD]at c;cases hx:(listed.setIfInBounds j true)[k]? with
 |none=>simp[hx]at c
 |some b=>
  rw[hx]at c;have:=cM.1 q b (by rw[<-gz]at hx;exact fg hx);simp at c this;rw[c]at this;cases this
 cases fuel with
 |zero=>exact⟨l,n⟩
 |succ f=>exact⟨λ_=>n,by rw[l];simp⟩
def tk(i k:Nat){af:Array Edge}{v:Dv}(g:S w)(h:anyM P md ops Q S fuel (listed.setIfInBounds i true) (a.put d v) w)(j:ops[i]?=some oi:=by rfl)(l:oi=⟨d,op,ty,ps,af,gd⟩:=by rfl)(m:YieldsIf P ops S ⟨d,op,ty,ps,af,gd⟩ v a:=by refine Or.inl ⟨by rfl,?_⟩;intro w' b;(try obtain⟨_,_,_,_,_,_,_,_,_⟩:=b);(repeat obtain⟨_,b⟩:=b);(try dsimp only at *);go_simp;try with_reducible rfl)(n:waits md ops k i=true:=by kernel_rfl)(e:listed.getD k true=false:=by kernel_rfl)(f:(i==k)=false:=by kernel_rfl)(hs:Region.noSelect ops=true:=by kernel_rfl)(o:Region.free md ops listed i=true:=by kernel_rfl)(p:(Region.ready md ops listed).contains i=true:=by kernel_rfl)(q:∀c a w,Q (.panic c) (a.put d v) w->Q (.panic c) a w:=by exactλ_ _ _ h=>h):anyM P md ops Q S (fuel+1) listed a w:=
 take j l n e f hs o p q m g h
def tq(i:Nat){af:Array Edge}{v:Dv}(f:S w)(h:anyM P md ops Q S fuel (listed.setIfInBounds i true) (a.put d v) w)(g:(Region.ready md ops listed).contains i=true:=by decide +kernel)(e:(List.range ops.size).any (λk=>waits md ops k i&&!listed.getD k true&&!(i==k))=true:=by decide +kernel)(hs:Region.noSelect ops=true:=by kernel_rfl)(j:Region.free md ops listed i=true:=by decide +kernel)(l:ops[i]?=some oi:=by rfl)(m:oi=⟨d,op,ty,ps,af,gd⟩:=by rfl)(n:YieldsIf P ops S ⟨d,op,ty,ps,af,gd⟩ v a:=by refine Or.inl ⟨by rfl,?_⟩;intro w' b;(try obtain⟨_,_,_,_,_,_,_,_,_⟩:=b);(repeat obtain⟨_,b⟩:=b);(try dsimp only at *);go_simp;try with_reducible rfl)(o:∀c a w,Q (.panic c) (a.put d v) w->Q (.panic c) a w:=by exactλ_ _ _ h=>h):anyM P md ops Q S (fuel+1) listed a w:=by
 obtain⟨k,_,e⟩:=nI.1 e;simp only[aR,Et]at e;exact take l m e.1.1 e.1.2 e.2 hs j g o n f h
def tz{A B:Prop}(k:B)(h:B->A:=by
  intro k;repeat first|refine Gen.tq 0 qH ?_|refine Gen.tq 1 qH ?_|refine Gen.tq 2 qH ?_|refine Gen.tq 3 qH ?_|refine Gen.tq 4 qH ?_|refine Gen.tq 5 qH ?_|refine Gen.tq 6 qH ?_|refine Gen.tq 7 qH ?_|refine Gen.tq 8 qH ?_|refine Gen.tq 9 qH ?_|refine Gen.tq 10 qH ?_|refine Gen.tq 11 qH ?_|refine Gen.tq 12 qH ?_|refine Gen.tq 13 qH ?_|refine Gen.tq 14 qH ?_|refine Gen.tq 15 qH ?_|refine Gen.tq 16 qH ?_|refine Gen.tq 17 qH ?_
  exact k):A:=h k
def on(i:Nat){af:Array Edge}(h:∀K:Act->Ba->Prop,Shut (∀a w,S w->(S w->anyM P md ops Q S fuel (listed.setIfInBounds i true) a w)->K a w)->Oper.wp P ⟨d,op,ty,ps,af,none⟩ a w K Q)(c:Region.ready md ops listed=[i]:=by kernel_rfl)(e:ops[i]?=some o:=by rfl)(b:o=⟨d,op,ty,ps,af,none⟩:=by rfl):anyM P md ops Q S (fuel+1) listed a w:=one c e b h
def la(i:Nat){af:Array Edge}(h:∀K:Act->Ba->Prop,Shut (∀a w,Q .normal a w->K a w)->Oper.wp P ⟨d,op,ty,ps,af,none⟩ a w K Q)(c:Region.ready md ops listed=[i]:=by kernel_rfl)(e:ops[i]?=some o:=by rfl)(b:o=⟨d,op,ty,ps,af,none⟩:=by rfl)(f:(listed.setIfInBounds i true).toList.all id=true:=by kernel_rfl)(g:Region.ready md ops (listed.setIfInBounds i true)=[]:=by kernel_rfl):anyM P md ops Q S (fuel+1) listed a w:=last c e b f g h
def start{id:Nat}(b:P.follows .mixedOrders=true)(c:S w.drew)(h:S w.drew->anyM P .any ops Q S ops.size (Array.replicate ops.size false) a w.drew):(Code.region id ops true).wp P Q a w:=
 wp_region_any b (Rf _ _ _ _ (h c))
end Gen
open Num (lY)
namespace Lease
variable{u x o now:Int}{s:Int->Int}{l:List Int}{kl:Lit}{c i n t m B:Nat}{P:Ft}{k:DU}{key:Dv}{a b w w':Ba}{D:j1}
structure Ob(bs:List Nat)(w w':World):Prop where
 s:w'.os=w.os
 p:w'.tape=w.tape
 o:w'.output=w.output
 i:w.heap.size<=w'.heap.size
 b:∀k,k<w.heap.size->k∉bs->w'.heap[k]?=w.heap[k]?
def Ob.V(bs:List Nat)(w:Ba):Ob bs w w:=⟨rfl,rfl,rfl,aj _,λ_ _ _=>rfl⟩
def Ob.j{bs:List Nat}{c:Ba}(h:Ob bs a b)(k:Ob bs b c):Ob bs a c:=
 ⟨k.s.trans h.s,k.p.trans h.p,k.o.trans h.o,aO h.i k.i,λi d e=>by rw[k.b i (aN d h.i) e,h.b i d e]⟩
def Ob.Z{bs cs:List Nat}(h:Ob bs a b)(hs:∀k∈bs,k∈cs):Ob cs a b:=⟨h.s,h.p,h.o,h.i,λk c hc=>h.b k c λd=>hc (hs k d)⟩
def Ob.O{bs:List Nat}(h:FF a b):Ob bs a b:=⟨h.os,h.tape,h.output,h.size,λk c _=>h.block k c⟩
def Ob.H{bs:List Nat}{q:Nat}(h:Ob bs a b)(c:q∈bs){u:Dv}:Ob bs a (b.setCell ⟨q,i,none⟩ u):=
 h.j ⟨rfl,rfl,rfl,aY,λk _ d=>aQ b (aA q i) u k (λe=>d (e▸c))⟩
def Ob.I{bs:List Nat}(h:Ob bs a b):Ob bs a b.drew:=⟨h.s,h.p,h.o,h.i,h.b⟩
def Ob.h{bs:List Nat}(h:Ob bs a b)(o:Obj):Ob bs a (b.alloc o):=h.j (Ob.O ((au _ _).alloc (aj _) o))
def Ob.ab{bs:List Nat}{q:Nat}{c:Ba}(h:Ob bs a b)(d:b.mapTurned c q)(f:q∈bs):Ob bs a c:=by
 have g:=d.grown;exact h.j ⟨g.os,g.tape,g.output,g.size,λk i l=>g.block k i (λe=>l (by injection e with e;rw[e];exact f))⟩
def bQ{H:Type}{R:Dv->Option (DataW H×List MemPlace)}{b:Nat}{D:DataW H}(h:w.ownsMap P k R b n D)(c:w'.heap[b]?=w.heap[b]?):w'.ownsMap P k R b n D:=by
 let ⟨d,a,e,r⟩:=h
 exact⟨d,a,c.trans e,r⟩
def dW{H:Type}{R:Dv->Option (DataW H×List MemPlace)}{b:Nat}{D:DataW H}{u:Dv}(h:w.ownsMap P k R b n D)(hc:w.cell? ⟨t,i,none⟩=some u):t≠b:=by
 rintro rfl;let ⟨d,a,c,r⟩:=h
 simp[World.cell?,c]at hc
structure cy(w:World)(t m:Nat)(D:j1)(v s:Int->Int)(n:Nat):Prop where
 j:w.cell? ⟨t,0,none⟩=some (.map (some m))
 p:∀i:Nat,i<4->w.cell? ⟨t,1+i,none⟩=some (.int .i64 (v i))
 u:∀i:Nat,i<4->w.cell? ⟨t,5+i,none⟩=some (.int .i64 (s i))
 h:∀i,w.frozen? ⟨t,i,none⟩=false
 b:w.ownsMap prog 335 (plainElem prog 3) m n D
 o:∀i:Int,fN (v i)/\fN (s i)
 x:∃cs f,w.heap[t]?=some (.cells cs 301 f)
def zU{u:Nat}{v:Dv}{t:DU}(h:∃cs f,w.heap[u]?=some (.cells cs t f)):∃cs f,(w.setCell ⟨u,i,none⟩ v).heap[u]?=some (.cells cs t f):=by
 let ⟨cs,f,h⟩:=h
 refine⟨cs.setIfInBounds i v,f,?_⟩;simp[World.setCell,bL,h]
def cy.ne{v:Int->Int}(h:cy w t m D v s n):t≠m:=dW h.b h.j
def cy.Z{v:Int->Int}(h:cy w t m D v s n):t<w.heap.size/\m<w.heap.size:=⟨cz _ _ h.j,h.b.lt⟩
def cy.e{v:Int->Int}(h:cy w t m D v s n)(c:w'.heap[t]?=w.heap[t]?)(f:w'.heap[m]?=w.heap[m]?):cy w' t m D v s n:=
 ⟨(aa (a:=(aA t 0)) c).trans h.j,λi d=>(aa (a:=(aA t (1+i))) c).trans (h.p i d),λi d=>(aa (a:=(aA t (5+i))) c).trans (h.u i d),
  λi=>(aG (a:=(aA t i)) c).trans (h.h i),bQ h.b f,h.o,c▸h.x⟩
def cy.H{v:Int->Int}(h:cy w t m D v s n)(a:FF w w'):cy w' t m D v s n:=
 h.e (a.block t h.Z.1) (a.block m h.Z.2)
def cy.V{c:Nat}{d:j1}{v:Int->Int}(h:cy w t m D v s n)(f:w.mapTurned w' m)(g:w'.ownsMap prog 335 (plainElem prog 3) m c d):cy w' t m d v s c:=by
 have e:= f.grown.block t h.Z.1 (λe=>h.ne (by injection e));exact⟨(aa (a:=(aA t 0)) e).trans h.j,λi b=>(aa (a:=(aA t (1+i))) e).trans (h.p i b),λi b=>(aa (a:=(aA t (5+i))) e).trans (h.u i b),
  λi=>(aG (a:=(aA t i)) e).trans (h.h i),g,h.o,e▸h.x⟩
def fN.j{v:Int->Int}{c:Int}(h:∀i,fN (v i))(a:fN x):∀i,fN (ic v c x i):=λi=>by
 unfold Lease.ic;split;exact a;exact h i
def cy.O{v:Int->Int}(h:cy w t m D v s n)(hc:c<4)(d:fN x):cy (w.setCell ⟨t,1+c,none⟩ (.int .i64 x)) t m D (ic v c x) s n:=by
 refine⟨?_,λi a=>?_,λi a=>?_,λi=>?_,h.b.setCell (λe=>h.ne e.symm) _,λi=>⟨fN.j (λi=>(h.o i).1) d i,(h.o i).2⟩,zU h.x⟩;rw[am _ _ _ _ aY];exact h.j;by_cases e:i=c;subst e;rw[az _ _ _ (h.p i hc),ek];rw[am _ _ _ _ (by intro e;injection e with _ e;omega),dH ak];exact h.p i a;rw[am _ _ _ _ (by intro e;injection e with _ e;omega)];exact h.u i a;rw[aT];exact h.h i
def cy.ab{v:Int->Int}(h:cy w t m D v s n)(hc:c<4)(d:fN x):cy (w.setCell ⟨t,5+c,none⟩ (.int .i64 x)) t m D v (ic s c x) n:=by
 refine⟨?_,λi a=>?_,λi a=>?_,λi=>?_,h.b.setCell (λe=>h.ne e.symm) _,λi=>⟨(h.o i).1,fN.j (λi=>(h.o i).2) d i⟩,zU h.x⟩;rw[am _ _ _ _ aY];exact h.j;rw[am _ _ _ _ (by intro e;injection e with _ e;omega)];exact h.p i a;by_cases e:i=c;subst e;rw[az _ _ _ (h.u i hc),ek];rw[am _ _ _ _ (by intro e;injection e with _ e;omega),dH ak];exact h.u i a;rw[aT];exact h.h i
def pz(n:Int):Bool:=lY n 0 3
def eI(n:Int):Bool:=lY n 0 7
def DR(n:Int):Bool:=lY n 0 1099511627776
def Nl{n:Int}(h:pz n=true):0<=n/\n<=3:=Num.eo h
def Np{n:Int}(h:eI n=true):0<=n/\n<=7:=Num.eo h
def Nr{n:Int}(h:DR n=true):0<=n/\n<=1099511627776:=Num.eo h
def ju{n:Int}:Calls prog 255 #[.int .i64 n] w λe w'=>e=.returned (.bool (pz n))/\w'=w:=by
 unfold pz;by_cases h0:0<=n
 .by_cases a:n<4
  .rw[Num.fu h0 ak];go_in;go_wp2;go_ret;exact⟨rfl,rfl⟩
  .rw[Num.j3 ak];have b:= aK a;go_in;go_wp2;go_ret;exact⟨rfl,rfl⟩
 .rw[Num.j4 ak];have b:= aK h0;go_in;go_wp2;go_ret;exact⟨rfl,rfl⟩
def DQ{n:Int}:Calls prog 256 #[.int .i64 n] w λe w'=>e=.returned (.bool (eI n))/\w'=w:=by
 unfold eI;by_cases h0:0<=n
 .by_cases a:n<8
  .rw[Num.fu h0 ak];go_in;go_wp2;go_ret;exact⟨rfl,rfl⟩
  .rw[Num.j3 ak];have b:= aK a;go_in;go_wp2;go_ret;exact⟨rfl,rfl⟩
 .rw[Num.j4 ak];have b:= aK h0;go_in;go_wp2;go_ret;exact⟨rfl,rfl⟩
def yd{n:Int}:Calls prog 257 #[.int .i64 n] w λe w'=>e=.returned (.bool (DR n))/\w'=w:=by
 unfold DR;by_cases h0:0<=n
 .by_cases a:n<=1099511627776
  .rw[Num.fu h0 a];go_in;go_wp2;go_ret;exact⟨rfl,rfl⟩
  .rw[Num.j3 ak];have b:= aK a;go_in;go_wp2;go_ret;exact⟨rfl,rfl⟩
 .rw[Num.j4 ak];have b:= aK h0;go_in;go_wp2;go_ret;exact⟨rfl,rfl⟩
abbrev tp (t:Nat):Value:=.pointer (some ⟨t,0,none⟩)
def kF{t:DU}{b:Nat}(h:w.ownsMap prog k (plainElem prog 3) b n D)(K:Keyed prog k)(f:prog.underlying t=some (.map k 3))(g:keyOf prog k key=some kl)(i:D.atKey kl (Cd 0)=Cd x):
  (Instr.lookup t (.map (some b)) key false).run prog w=.ok (iI x) w/\(Instr.lookup t (.map (some b)) key true).run prog w=.ok (.tuple #[iI x,.bool (Maps.has D kl)]) w/\fN x:=by
 let ⟨y,c,d,j⟩:=h.lookup_int K f underlying3 (Rm) g
 rw[i]at d;obtain rfl:x=y:=by simpa[Cd] using d
 let ⟨v,ps,e,l⟩:=h.look_ok K f (Rm) (plainElem_int (H:=Unit) underlying3 (a:=0) cn) g
 obtain⟨z,rfl,m,_⟩:=plainElem_int_inv underlying3 l;obtain rfl:z=x:=by simpa[Cd] using ((cr Prod.fst m).symm.trans i)
 exact⟨c,e,fN.h j⟩
def lC{t:DU}{b:Nat}(h:w.ownsMap prog k (plainElem prog 3) b n D)(K:Keyed prog k)(c:prog.underlying t=some (.map k 3))(d:keyOf prog k key=some kl):∃x,D.atKey kl (Cd 0)=Cd x:=by
 obtain⟨y,_,a,_⟩:=h.lookup_int K c underlying3 (Rm) d;exact⟨y,a⟩
def mx(a b:Int):Int:=if a<b then b else a
def mW{a b:Int}(h:fN a)(k:fN b):fN (mx a b):=by
 unfold mx;split<;>assumption
def K4(h:DR u=true):fN u:=by have:=Nr h;exact⟨ak,ak⟩
def K3(h:pz u=true):fN u:=by have:=Nl h;exact⟨ak,ak⟩
def VL(h:eI u=true):fN u:=by have:=Np h;exact⟨ak,ak⟩
def cy.I{v:Int->Int}(h:cy w t m D v s n):cy w.drew t m D v s n:=⟨h.j,h.p,h.u,h.h,h.b,h.o,h.x⟩
def YY{v:Int->Int}(h:cy w t m D v s n)(hc:c<4)(a:DR u=true):
  Calls prog 228 #[tp t,iI c,iI u] w λe w'=>e=.returned .nilIface/\cy w' t m D (ic v c (mx (v c) u)) s n/\Ob [t] w w':=by
 have b:pz c=true:=Num.fu ak ak;have j:=h.p c hc;have k:=h.h (1+c);have d:(0:Int)<=c:=ak;have f:(c:Int)<4:=ak;go_in;go_wp2_with (first|(go_at_call 255;refine(ju).mono ?_;rintro x w'⟨rfl,rfl⟩)|(go_at_call 257;refine(yd).mono ?_;rintro x w'⟨rfl,rfl⟩))
 go_still_tail 13,bt;generalize i:(if v (c:Int)<u then u else v (c:Int))=g;obtain rfl:mx (v c) u=g:=i;go_wp2;go_ret;exact⟨rfl,h.I.O hc (mW ((h.o _).1) (K4 a)),(Ob.V _ _).I.H aY⟩
def YX{v:Int->Int}(h:cy w t m D v s n)(hc:c<4):
  Calls prog 254 #[tp t,iI c] w λe w'=>e=.returned (.tuple #[iI (s c),.nilIface])/\w'=w:=by
 have a:pz c=true:=Num.fu ak ak;have f:=h.u c hc;have b:(0:Int)<=c:=ak;have d:(c:Int)<4:=ak

 go_in;go_wp2_with (first|(go_at_call 255;refine(ju).mono ?_;rintro x w'⟨rfl,rfl⟩))
 go_ret2;exact⟨rfl,rfl⟩
def Rk(now:Int){v:Int->Int}(h:cy w t m D v s n)(hc:c<4):
  Calls prog 233 #[tp t,iI c,iI now] w λe w'=>e=.returned (.bool (decide (now<v c)))/\w'=w:=by
 have a:pz c=true:=Num.fu ak ak;have f:=h.p c hc;have b:(0:Int)<=c:=ak;have d:(c:Int)<4:=ak;go_in;go_wp2_with (first|(go_at_call 255;refine(ju).mono ?_;rintro x w'⟨rfl,rfl⟩))
 go_ret;exact⟨rfl,rfl⟩
def YW{c:Int}{v:Int->Int}(h:cy w t m D v s n)(q:n<9223372036854775807)(hc:pz c=true)(r:eI o=true)(y:DR u=true)(z:D.atKey (kk c o) (Cd 0)=Cd x):
  Calls prog 224 #[tp t,iI c,iI o,iI u] w λe w'=>e=.returned .nilIface/\cy w' t m (D.put (kk c o) (Cd (mx x u))) v s (n+1)/\Ob [m] w w':=by
 have A:=h.Z.1;have J:=h.j;have d:=K3 hc;have f:=VL r;go_in;go_wp2_with (first|(go_at_call 255;refine(ju).mono ?_;rintro x w'⟨rfl,rfl⟩)|(go_at_call 256;refine(DQ).mono ?_;rintro x w'⟨rfl,rfl⟩)|(go_at_call 257;refine(yd).mono ?_;rintro x w'⟨rfl,rfl⟩))
 have k:=h.H ((au _ _).alloc (aj _) (Obj.cells #[Value.int IntKind.i64 c,Value.int IntKind.i64 o] 335));have B:=((Ob.V [m] w').h (Obj.cells #[Value.int IntKind.i64 c,Value.int IntKind.i64 o] 335));have C:(w'.alloc (Obj.cells #[Value.int IntKind.i64 c,Value.int IntKind.i64 o] 335)).cell? ⟨w'.heap.size,0,none⟩=some (.int .i64 c):=by rw[bN _ _ _ _ _ _ (bo w' _)];rfl
 have E:(w'.alloc (Obj.cells #[Value.int IntKind.i64 c,Value.int IntKind.i64 o] 335)).cell? ⟨w'.heap.size,1,none⟩=some (.int .i64 o):=by rw[bN _ _ _ _ _ _ (bo w' _)];rfl
 generalize (w'.alloc _)=w2 at *;have F:=k.j;obtain⟨p,_,l⟩:=kF (t:=298) k.I.b wu underlying298 (Nn d f) z;go_still_tail 13,bt;generalize G:(if x<u then u else x)=g;obtain rfl:mx x u=g:=G;refine wpList_mapUpdate_in _ rfl _ _ _ 298 rfl 335 3 wu underlying298 (plainElem prog 3) m n D rfl k.I.b q _ _ _ rfl rfl (Nn d f) _ _ (plainElem_int underlying3 (mW l (K4 y)).e) ?_;intro w1 i a;go_wp2;go_ret;exact⟨rfl,(k.I.V a i),(B.I.ab a aY)⟩
def FK:(prog.info? 3).map (λi=>(i.zero,i.size,i.bytes))=some (some (.int .i64 0),1,8):=bt
def de(w:World)(B:Nat)(v:Value)(l:List Int):Prop:=w.ownsRow B 3 1 v l.length (l.map (Value.int .i64))
def de.h{v:Dv}(h:de w B v l){o:Obj}:(w.alloc o).ownsRow B 3 1 v l.length (l.map (Value.int .i64)):=qF h o
def de.j:de w B (.slice none 0 0) []:=i6 _ _ _ _
def Nq{s:Nat}{e:DU}{v:Dv}{c:List Dv}(h:w.ownsRow B e s v n c)(f:FF w w'):w'.ownsRow B e s v n c:=by
 refine⟨h.1,?_⟩;rcases h.2 with h|⟨g,a,b,i,j,d,k⟩
 exact .inl h;exact .inr ⟨g,a,b,i,j,(f.block g (ar.1 d).1).trans d,k⟩
def de.H{v:Dv}(h:de w B v l)(a:FF w w'):de w' B v l:=Nq h a
def zT(w:Ba){x:Dv}{t:DU}:∀j u,[x][j]?=some u->(w.alloc (.cells #[x] t)).cell? ((⟨w.heap.size,0,none⟩:Addr).add j)=some u:=by
 intro j u a;match j,a with
 |0,a=>simp at a;subst a;simp[Addr.add]
 |n+1,a=>simp at a
def Ce{k:IntKind}{n:Int}:∀u∈[Value.int k n],u.oneCell'=true:=by intro u a;simp at a;subst a;rfl
def de.I{wr w1:Ba}{v b:Dv}{news:List Int}{o:Obj}(h:de wr B v l)(c:Below B w wr)(d:B<=wr.heap.size)(e:m=news.length)(a:w1.ownsRow B 3 1 b (l.length+m) (l.map (Value.int .i64)++news.map (Value.int .i64)))(f:(wr.alloc o).grownBy w1 v.ownBlock):de w1 B b (l++news)/\Below B w w1:=by
 refine⟨?_,?_⟩;unfold de;rw[aL,dE,<-e];exact a;exact(c.alloc d o).grown f fS (λk g=>((h.h (o:=o)).lt k g).1)
def VI(D:j1)(o now:Int)(c:Nat):Bool:=match D.atKey (kk c o) (Cd 0) with
 |.lit (.int .i64 x)=>Maps.has D (kk c o)&&decide (now<x)
 |_=>false
def YV(a:D.atKey (kk c o) (Cd 0)=Cd x):VI D o now c=(Maps.has D (kk c o)&&decide (now<x)):=by simp[VI,a]
def jm(D:j1)(o now:Int)(k:Nat):List Int:=((List.range k).filter (VI D o now)).map (λc:Nat=>(c:Int))
def VH{k:Nat}(h:VI D o now k=true):jm D o now (k+1)=jm D o now k++[(k:Int)]:=by simp[jm,wP,h]
def Ri{k:Nat}(h:VI D o now k=false):jm D o now (k+1)=jm D o now k:=by simp[jm,wP,h]
def DP(D:j1)(o now:Int)(k:Nat):(jm D o now k).length<=k:=by
 have:=List.length_filter_le (VI D o now) (List.range k);simpa[jm] using this
def Rj{v:Int->Int}(o now:Int)(h:cy w t m D v s n)(ho:fN o):
  Calls prog 232 #[tp t,.int .i64 o,.int .i64 now] w λe w'=>∃v',e=.returned v'/\de w' w.heap.size v' (jm D o now 4)/\FF w w':=by
 let ⟨i0,hi,hz0,hz1,hz2⟩:=dg FK
 go_in;go_wp2;go_loopw [7,11] (λv i wr=>∃k:Nat,k<=4/\i=iI k/\de wr w.heap.size v (jm D o now k)/\FF w wr) (λ_ i _=>4-(intOf i).toNat)
 case atStart=>exact⟨0,ak,rfl,de.j,au _ _⟩
 case round=>
  obtain⟨k,hk,rfl,hwn,hbl⟩:=hrel;have hr:=h.H hbl;by_cases hk4:k<4
  .have hBr:= hbl.size;have hki:fN (k:Int):=⟨ak,ak⟩;have hl:=DP D o now k;let ⟨zs,hzs⟩:∃zs,jm D o now k=zs:=⟨_,rfl⟩
   rw[hzs]at hwn hl;have HZ :Hid _:= hzs;have hzl:zs.length<=4:=ak;have hv:=hr.j;let ⟨x,hx⟩:=lC (t:=298) hr.b wu underlying298 (Nn hki ho)
   let ⟨_,hrun,hxw⟩:=kF (t:=298) hr.b wu underlying298 (Nn hki ho) hx
   have hq:=YV (now:=now) hx;let ⟨hb,ehb⟩:∃hb,Maps.has D (kk k o)=hb:=⟨_,rfl⟩
   rw[ehb]at hrun hq;have hk4':(k:Int)<4:=ak;cases hb with
   |false=>
    have HQ :Hid _:= (Ri (hq.trans (Bool.false_and _))).trans HZ.out;go_wp2;go_roundw
    case rel=>exact⟨k+1,ak,by go_num,HQ.out▸hwn,hbl⟩
    case measure=>simp[intOf];omega
   |true=>
    by_cases hlt:now<x
    .have HQ :Hid _:= (VH (hq.trans (by simp[hlt]))).trans (by rw[HZ.out]);go_wp2_with (at_builtin;refine eO _ rfl _ _ 26 rfl w.heap.size 3 i0 (iI 0) 1 8 underlying26 hi hz0 hz1 hz2 rfl cn _ _ _ rfl (hwn.h) (FI wr 0) 1 1 [iI (k:Int)] rfl rfl (zT _) (Ce) ?c3 ?c4 ?c5 ?_)
     case c3=>unfold maxLen;omega
     case c4=>omega
     case c5=>simp;omega
     intro v' w1 hown' hgrow _;have R:=hwn.I (news:=[(k:Int)]) hbl hBr rfl hown' hgrow;rw[<-HQ.out]at R;go_wp2;go_roundw
     case rel=>exact⟨k+1,ak,by go_num,R.1,R.2⟩
     case measure=>simp[intOf];omega
    .have HQ :Hid _:= (Ri (hq.trans (by simp[hlt]))).trans HZ.out;have hlt':= aK hlt;go_wp2;go_roundw
     case rel=>exact⟨k+1,ak,by go_num,HQ.out▸hwn,hbl⟩
     case measure=>simp[intOf];omega
  .obtain rfl:k=4:=ak;go_wp2;go_ret;exact⟨_,rfl,hwn,hbl⟩
def Ob.e{bs:List Nat}(h:Ob bs a b){k:Nat}:Ob bs a (b.drewN k):=⟨h.s,h.p,h.o,h.i,h.b⟩
def de.e{v:Dv}(h:de w B v l):∃ao c,v=.slice ao l.length c/\(0<l.length->∃g,ao=some ⟨g,0,none⟩/\∀i (b:i<l.length),w.cell? ⟨g,i,none⟩=some (.int .i64 l[i])):=by
 rcases h.2 with⟨rfl,h0⟩|⟨g,a,d,rfl,_⟩
 exact⟨none,0,by rw[h0],λh=>ak⟩;refine⟨_,a,rfl,λ_=>⟨g,rfl,λi b=>?_⟩⟩;rw[bC h _ ak];simp[b]
end Lease
namespace Cache
variable{o:Int}
structure E where
 o:Int
 d:ByteArray
 v:Int
 u:Int
def sP:E:=⟨0,⟨#[]⟩,0,0⟩
instance:Inhabited E:=⟨sP⟩
variable{L:List E}
structure It where
 e:E
 s:Int
def Rb:It:=⟨sP,4611686018427387904⟩
instance:Inhabited It:=⟨Rb⟩
def I5(o:Int)(x:E):Bool:=decide (x.o≠o)
def FH{x:E}(h:I5 o x=true):x.o≠o:=by simpa[I5] using h
def qE(o:Int)(L:List E):List E:=L.filter (I5 o)
def I0(h:∀x∈L,x.o≠o):qE o L=L:=ia.2 λx a=>by simp[I5,h x a]
def YP{k:Nat}(f:L.Pairwise λa b=>a.o≠b.o)(i:k<L.length)(c:L[k].o=o):qE o L=L.eraseIdx k:=by
 rw[Hr];have e:L=L.take k++L[k]::L.drop (k+1):=by rw[XQ,jR]
 rw[e]at f;obtain⟨j,g,h⟩:=km.1 f;unfold qE;conv=>lhs;rw[e]
 rw[List.filter_append,uo (by simp[I5,c])];congr 1;exact ia.2 λx d=>by have:=h x d _ dj;rw[c]at this;simp[I5,this]
 exact ia.2 λx d=>by have:=((lR.1 g).1) x d;rw[c]at this;simp[I5];exactλe=>this e.symm
def uR(o:Int)(L:List E)(i:Int):Prop:=(i = -1/\∀x∈L,x.o≠o)\/∃k,∃h:k<L.length,i=(k:Int)/\L[k].o=o
end Cache
end Go.Proofs.YtbebfliimjjohabGreatDoor
