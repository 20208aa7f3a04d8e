/- Parts of the proof. -/
import Derived.Test.YtbebfliimjjohabGreatDoorRows
import GoSem.PinnedTables
import Derived.PartsItems
import Derived.HeadItems
import Derived.ProofKit
import Derived.OpenShut
import Derived.WalkLawsBesides
import Derived.Stop.Asserts
import Derived.LaidLaws
import Derived.LaidHandle
import Derived.Deep.RegionHeld3
import Derived.Maps.RangeWalk
import Derived.StillTailTactics
import Derived.BigQuiet
import Derived.Test.YtbebfliimjjohabGreatDoorMAl1
set_option maxRecDepth 100000
set_option maxHeartbeats 8000000
set_option linter.all false
open Go.Proofs.Tryz
namespace Go.Proofs.YtbebfliimjjohabGreatDoor
open Go.RowKit Go.Extern.Stop Go.Stop Go.Extern Go.Maps Go
namespace Bare
variable{w:A1}
def jC(w:World):Prop:=w.cell? ⟨0,0,none⟩=some (.iface 252 (.agg #[.pointer (some ⟨9,47,none⟩)]))
def Tc(t:Addr)(w:A1):(ReflectliteValue.unpack (.iface 120 (.pointer (some t)))).run prog w
  = .ok (.agg #[.pointer (some ⟨9,120,none⟩),.pointer (some ⟨w.heap.size,0,none⟩),.int .u64 150]) (w.alloc (.cells #[.pointer (some t)] 120)):=by kernel_rfl
def acD(a : Addr)(w : World) : (ReflectliteValue.methodAny (ReflectliteValue.valueError "reflectlite.Value.Type" 0) (fun t _ _ _ => ReflectliteType.toType t) #[.agg #[.pointer (some ⟨9, 120, none⟩), .pointer (some a), .int .u64 150]]).run prog w
  = .ok (.iface 252 (.agg #[.pointer (some ⟨9,120,none⟩)])) w:=by kernel_rfl
def Kh(h : Value)(w : World) : (Go.method 504 252 (.agg #[h]) "Kind").run prog w = .ok (317, h) w := by kernel_rfl
def acB(w:A1):((ReflectliteType.abiMethod λt=>(λa:Nat=>Value.int IntKind.u8 (a:Int)) <$> Rtype.kind t) #[.pointer (some ⟨9,120,none⟩)]).run prog w=.ok (.int .u8 22) w:=by kernel_rfl
def acA(w:A1):((ReflectliteType.abiMethod λt=>(λa:Nat=>Value.int IntKind.u8 (a:Int)) <$> Rtype.kind t) #[.pointer (some ⟨9,59,none⟩)]).run prog w=.ok (.int .u8 2) w:=by kernel_rfl
def S9(a:Addr)(w:A1):(ReflectliteValue.parts (.agg #[.pointer (some ⟨9,120,none⟩),.pointer (some a),.int .u64 150])).run prog w=.ok (some (120,a,150)) w:=by kernel_rfl
def aaG(a p:Addr)(W:A1)(b:W.cell? a=some (.pointer (some p))):
  (ReflectliteValue.method (ReflectliteValue.valueError "reflectlite.Value.IsNil" 0) ReflectliteValue.isNil #[.agg #[.pointer (some ⟨9, 120, none⟩), .pointer (some a), .int .u64 150]]).run prog W = .ok (.bool false) W := by
 apply (bY (λs=>Sem.run prog s W) (show ReflectliteValue.method _ _ _=(ReflectliteValue.parts (.agg #[.pointer (some (aA 9 120)),.pointer (some a),.int .u64 150]) >>= _) from rfl)).trans;simp only[sT,S9,Result.andThen];simp[ReflectliteValue.isNil,loadVar,isAgg,underlying,underlying120,b,Result.andThen]
def Kg(h : Value)(w : World) : (Go.method 504 252 (.agg #[h]) "Elem").run prog w = .ok (330, .agg #[h]) w := by kernel_rfl
def xo(h : Value)(w : World) : (Go.method 504 252 (.agg #[h]) "Implements").run prog w = .ok (331, .agg #[h]) w := by kernel_rfl
def uE(h : Value)(w : World) : (Go.method 504 252 (.agg #[h]) "AssignableTo").run prog w = .ok (328, .agg #[h]) w := by kernel_rfl
def acy(w:A1):(ReflectliteType.method ReflectliteType.elem #[.agg #[.pointer (some ⟨9,120,none⟩)]]).run prog w=.ok (.iface 252 (.agg #[.pointer (some ⟨9,59,none⟩)])) w:=by kernel_rfl
def G6(w : World) : (ReflectliteType.relation "Implements" ReflectliteType.implements_ #[.agg #[.pointer (some ⟨9, 59, none⟩)], .iface 252 (.agg #[.pointer (some ⟨9, 47, none⟩)])]).run prog w = .ok (.bool true) w := by kernel_rfl
def Xm(v:Bg)(w:A1):(ReflectliteType.typeOf #[.iface 59 v]).run prog w=.ok (.iface 252 (.agg #[.pointer (some ⟨9,59,none⟩)])) w:=by kernel_rfl
def G0(w : World) : (ReflectliteType.relation "AssignableTo" ReflectliteType.assignableTo #[.agg #[.pointer (some ⟨9, 59, none⟩)], .iface 252 (.agg #[.pointer (some ⟨9, 59, none⟩)])]).run prog w = .ok (.bool true) w := by kernel_rfl
def Ta(n:Int)(w:A1):(ReflectliteValue.unpack (.iface 59 (.int .i64 n))).run prog w
  = .ok (.agg #[.pointer (some ⟨9,59,none⟩),.pointer (some ⟨w.heap.size,0,none⟩),.int .u64 130]) (w.alloc (.cells #[.int .i64 n] 59)):=by kernel_rfl
def Xk(w:A1):(Rtype.elem? 120).run prog w=.ok (some 59) w:=by kernel_rfl
def mkE(p:Addr)(w:A1):(ReflectliteValue.mk 59 p ReflectliteValue.flagAddr).run prog w=.ok (.agg #[.pointer (some ⟨9,59,none⟩),.pointer (some p),.int .u64 386]) w:=by kernel_rfl
def acz(a p:Addr)(W:A1)(b:W.cell? a=some (.pointer (some p))):
  (ReflectliteValue.method (ReflectliteValue.valueError "reflectlite.Value.Elem" 0) ReflectliteValue.elem #[.agg #[.pointer (some ⟨9, 120, none⟩), .pointer (some a), .int .u64 150]]).run prog W
   = .ok (.agg #[.pointer (some ⟨9,59,none⟩),.pointer (some p),.int .u64 386]) W:=by
 apply (bY (λs=>Sem.run prog s W) (show ReflectliteValue.method _ _ _=(ReflectliteValue.parts (.agg #[.pointer (some (aA 9 120)),.pointer (some a),.int .u64 150]) >>= _) from rfl)).trans;simp only[sT,S9,Result.andThen];simp[ReflectliteValue.elem,loadVar,isAgg,underlying,underlying120,b,Result.andThen,Xk,mkE]
def Xl(a:Addr)(w:A1):(ReflectliteValue.parts (.agg #[.pointer (some ⟨9,59,none⟩),.pointer (some a),.int .u64 386])).run prog w=.ok (some (59,a,386)) w:=by kernel_rfl
def aaH(a:Addr)(w:A1):(ReflectliteValue.parts (.agg #[.pointer (some ⟨9,59,none⟩),.pointer (some a),.int .u64 130])).run prog w=.ok (some (59,a,130)) w:=by kernel_rfl
def Xj(w:A1):(Rtype.directlyAssignable 59 59).run prog w=.ok true w:=by kernel_rfl
def aek(a b:Addr)(n:Int)(old:Bg)(W:A1)(c:W.cell? b=some (.int .i64 n))(d:W.cell? a=some old)(e:W.frozen? a=false):
  (ReflectliteValue.set #[.agg #[.pointer (some ⟨9,59,none⟩),.pointer (some a),.int .u64 386],.agg #[.pointer (some ⟨9,59,none⟩),.pointer (some b),.int .u64 130]]).run prog W
   = .ok (.tuple #[]) (W.setCell a (.int .i64 n)):=by
 apply (bY (λs=>Sem.run prog s W) (show ReflectliteValue.set _=(ReflectliteValue.parts (.agg #[.pointer (some (aA 9 59)),.pointer (some a),.int .u64 386]) >>= λ_=>ReflectliteValue.parts (.agg #[.pointer (some (aA 9 59)),.pointer (some b),.int .u64 130]) >>= _) from rfl)).trans;simp only[sT,Xl,aaH,Result.andThen];simp[ReflectliteValue.flagAddr,loadVar,isAgg,underlying,underlying59,c,Result.andThen,Xj,storeVar,Value.cells,storeCells,Addr.add];rw[run_store prog W a _ _ (by rfl)];simp[d,e]
def aaF(n:Int){t:Addr}(old:Bg)(f:w.cell? ⟨0,0,none⟩=some (.iface 252 (.agg #[.pointer (some ⟨9,47,none⟩)])))(a:w.cell? t=some old)(d:w.frozen? t=false):
  Calls prog 55 #[.iface 59 (.int .i64 n),.iface 120 (.pointer (some t))] w λg w'=>g=.returned (.bool true)/\w'=((((w.alloc (.cells #[.pointer (some t)] 120)).alloc (.cells #[.pointer (some ⟨9,120,none⟩),.pointer (some ⟨w.heap.size,0,none⟩),.int .u64 150] 187)).alloc (.cells #[.pointer (some ⟨9,120,none⟩),.pointer (some ⟨w.heap.size,0,none⟩),.int .u64 150] 187)).alloc (.cells #[.int .i64 n] 59)).setCell t (.int .i64 n):=by
 have z:=@ed prog 118 _ (fun b=>ReflectliteValue.unpack (b.getD 0 (.tuple #[]))) func118 (by kernel_rfl) (by kernel_rfl) (by kernel_rfl) (by kernel_rfl);have A := @ed prog 119 _ (ReflectliteValue.methodAny (ReflectliteValue.valueError "reflectlite.Value.Type" 0) (fun t _ _ _ => ReflectliteType.toType t)) func119 (by kernel_rfl) (by kernel_rfl) (by kernel_rfl) (by kernel_rfl);have B := @ed prog 120 _ (ReflectliteValue.method (ReflectliteValue.valueError "reflectlite.Value.IsNil" 0) ReflectliteValue.isNil) func120 (by kernel_rfl) (by kernel_rfl) (by kernel_rfl) (by kernel_rfl);have i:=@ed prog 317 _ (ReflectliteType.abiMethod fun t=>do pure (.int .u8 (← Rtype.kind t))) func317 (by kernel_rfl) (by kernel_rfl) (by kernel_rfl) (by kernel_rfl);have j:=@ed prog 330 _ (ReflectliteType.method ReflectliteType.elem) func330 (by kernel_rfl) (by kernel_rfl) (by kernel_rfl) (by kernel_rfl);have k := @ed prog 331 _ (ReflectliteType.relation "Implements" ReflectliteType.implements_) func331 (by kernel_rfl) (by kernel_rfl) (by kernel_rfl) (by kernel_rfl);have l:=@ed prog 169 _ ReflectliteType.typeOf func169 (by kernel_rfl) (by kernel_rfl) (by kernel_rfl) (by kernel_rfl);have m := @ed prog 328 _ (ReflectliteType.relation "AssignableTo" ReflectliteType.assignableTo) func328 (by kernel_rfl) (by kernel_rfl) (by kernel_rfl) (by kernel_rfl);have o := @ed prog 170 _ (ReflectliteValue.method (ReflectliteValue.valueError "reflectlite.Value.Elem" 0) ReflectliteValue.elem) func170 (by kernel_rfl) (by kernel_rfl) (by kernel_rfl) (by kernel_rfl);have p:=@ed prog 171 _ ReflectliteValue.set func171 (by kernel_rfl) (by kernel_rfl) (by kernel_rfl) (by kernel_rfl);have C:=Xm;have D:=uE;have q:=G0;have r:=Ta;have E:=Tc;have F:=acD;have G:=Kh;have H:=Kg;have I:=xo;have s:=acB;have u:=acA;have v:=acy;have x:=G6;have J:=aaG (aA w.heap.size 0) t ((w.alloc (.cells #[.pointer (some t)] 120)).alloc (.cells #[.pointer (some (aA 9 120)),.pointer (some (aA w.heap.size 0)),.int .u64 150] 187)) (by simp);have e:0<w.heap.size:=by
  rcases cz 0 w.heap.size with h|h
  exact h;simp[World.cell?,dx h]at f
 have y:((w.alloc (.cells #[.pointer (some t)] 120)).alloc (.cells #[.pointer (some (aA 9 120)),.pointer (some (aA w.heap.size 0)),.int .u64 150] 187)).cell? (aA 0 0)=some (.iface 252 (.agg #[.pointer (some (aA 9 47))])):=by
  rw[aH _ _ (aA 0 0) (by first|(simp;done)|(simp;omega)),aH _ _ (aA 0 0) e];exact f
 have c:t.block<w.heap.size:=by
  rcases cz t.block w.heap.size with h|h
  exact h;simp[World.cell?,dx h]at a
 have el:=acz (aA w.heap.size 0) t (((w.alloc (.cells #[.pointer (some t)] 120)).alloc (.cells #[.pointer (some (aA 9 120)),.pointer (some (aA w.heap.size 0)),.int .u64 150] 187)).alloc (.cells #[.pointer (some (aA 9 120)),.pointer (some (aA w.heap.size 0)),.int .u64 150] 187)) (by rw[aH _ _ (aA w.heap.size 0) (by simp;omega)];simp);have K:=aek t (aA (w.heap.size+1+1+1) 0) n old ((((w.alloc (.cells #[.pointer (some t)] 120)).alloc (.cells #[.pointer (some (aA 9 120)),.pointer (some (aA w.heap.size 0)),.int .u64 150] 187)).alloc (.cells #[.pointer (some (aA 9 120)),.pointer (some (aA w.heap.size 0)),.int .u64 150] 187)).alloc (.cells #[iI n] 59))
  (by rw[World.cell?_alloc_at _ _ _ _ (by simp)];rfl)
  (by rw[aH _ _ t (by simp;omega),aH _ _ t (by simp;omega),aH _ _ t (by simp;omega),aH _ _ t c];exact a)
  (by rw[dq _ _ t (by simp;omega),dq _ _ t (by simp;omega),dq _ _ t (by simp;omega),dq _ _ t (ru c)];exact d)
 go_enter func55,ntmps55;go_wp2;refine wp_loop_rounds 1 ?_;rw[rounds_succ];go_wp2;go_ret;exact⟨rfl,rfl⟩
def uF(n:Int)(a:jC w):Calls prog 21 #[.iface 59 (iI n)] w λe w'=>e=.returned (iI n)/\Below w.heap.size w w':=by
 unfold jC at a;have b:0<w.heap.size:=by
  rcases cz 0 w.heap.size with h|h
  exact h;simp[World.cell?,dx h]at a
 have c:(w.alloc (.cells #[.int .i64 0] 59)).cell? ⟨0,0,none⟩=some (.iface 252 (.agg #[.pointer (some ⟨9,47,none⟩)])):=by
  rw[aH _ _ ⟨0,0,none⟩ b];exact a
 go_enter func21,ntmps21;go_wp2_with (go_at_call 55;refine(aaF n (iI 0) c (by simp) (by simp)).mono ?_;rintro e w'⟨rfl,rfl⟩)
 go_ret;refine⟨rfl,?_⟩;exact(((((au _ _).alloc (aa _) _).alloc (by first|(simp;done)|(simp;omega)) _).alloc (by first|(simp;done)|(simp;omega)) _).alloc (by first|(simp;done)|(simp;omega)) _).alloc (by first|(simp;done)|(simp;omega)) _
def jC.e{B:Nat}{w':A1}(h:jC w)(a:Below B w w')(b:0<B):jC w':=(a.cell (p:=(aA 0 0)) b).trans h
def jC.h(h:jC w):0<w.heap.size:=by
 unfold jC at h;rcases cz 0 w.heap.size with a|a
 exact a;simp[World.cell?,dx a]at h
end Bare
namespace Num
variable{n l:Int}
def m6(n l h:Int):Bool:=decide (l<=n/\n<=h)
def fX{h:Int}(a:l<=n)(b:n<=h):m6 n l h=true:=by simp[m6,a,b]
def kN{h:Int}(a:n<l):m6 n l h=false:=by simp[m6];omega
def kM{h:Int}(a:h<n):m6 n l h=false:=by simp[m6];omega
def eY{h:Int}(a:m6 n l h=true):l<=n/\n<=h:=by simpa[m6] using a
def Rg:Nat->Nat->List Int
 |0,n=>[(n:Int)]
 |f+1,n=>if n<128 then [(n:Int)] else ((n%128+128:Nat):Int)::Rg f (n/128)
def nb(n:Nat):List Int:=Rg n n
def TQ:∀(f g n:Nat),n<=f->n<=g->Rg f n=Rg g n:=by
 intro f;induction f with
 |zero=>
  intro g n a _;cases g with
  |zero=>rfl
  |succ g=>rw[Rg,Rg,az (by omega)]
 |succ f b=>
  intro g n a c;cases g with
  |zero=>rw[Rg,Rg,az (by omega)]
  |succ g=>
   rw[Rg,Rg];by_cases h:n<128;rw[az h,az h];rw[ax h,ax h,b g (n/128) (by omega) (by omega)]
def ug{n:Nat}(h:n<128):nb n=[(n:Int)]:=by
 unfold nb;cases n with
 |zero=>rfl
 |succ k=>rw[Rg,az h]
def Di{n:Nat}(h:¬n<128):nb n=((n%128+128:Nat):Int)::nb (n/128):=by
 unfold nb;cases n with
 |zero=>exact absurd (by omega) h
 |succ k=>
  rw[Rg,ax h];rw[TQ k ((k+1)/128) ((k+1)/128) (by omega) (by omega)]
def tA(f:Nat):∀n:Nat,n<128^(f+1)->(nb n).length<=f+1:=by
 induction f with
 |zero=>intro n h;rw[ug (by simpa using h)];simp
 |succ f b=>
  intro n h;by_cases a:n<128;rw[ug a];simp;rw[Di a,bT];have:=b (n/128) (by rw[Nat.div_lt_iff_lt_mul (by omega)];rw[Nat.pow_succ]at h;exact h);omega
def aa0(n:Nat):0<(nb n).length:=by
 by_cases h:n<128;rw[ug h];simp;rw[Di h];simp
def XL(f:Nat):∀n:Nat,n<128^(f+1)->∀x∈nb n,0<=x/\x<256:=by
 induction f with
 |zero=>
      intro n h x a;have c:n<128:=by simpa using h
      rw[ug c]at a;simp at a;omega
 |succ f d=>
  intro n h x a;by_cases b:n<128;rw[ug b]at a;simp at a;omega;rw[Di b,bN]at a;rcases a with rfl|a
  omega;exact d (n/128) (by rw[Nat.div_lt_iff_lt_mul (by omega)];rw[Nat.pow_succ]at h;exact h) x a
def gy(d:ByteArray):List Int:=d.data.toList.map λb=>((b.toNat:Nat):Int)
def dL(d:Bh):(gy d).length=d.size:=by unfold gy;rw[bH];rfl
def xx{d:Bh}:∀x∈gy d,0<=x/\x<256:=by
 intro x a;simp only[gy,dY]at a;obtain⟨b,_,rfl⟩:=a;have:=b.toNat_lt;omega
structure M where
 k:Int
 c:Int
 n:Int
 e:Int
 s:Int
 o:Int
 v:Int
 l:Bool
 d:ByteArray
def M.j(m:M):List Int:=[m.k,m.c,m.n,m.e,m.s,m.o,m.v]
def ko(n:Int):Bool:=m6 n 0 1099511627776
def iC(m:M):Bool:=m6 m.k 1 9&&decide (m.d.size<=20)&&m.j.all ko
def jk(a:List Int):List Int:=a.flatMap λn=>nb n.toNat
def m8(l:Bool):Int:=if l then 1 else 0
def M.h(m:M):List Int:=jk m.j++[m8 m.l,(m.d.size:Int)]++gy m.d
def PB(a:List Int)(n:Int):jk (a++[n])=jk a++nb n.toNat:=by simp[jk]
def TR(h:ko n=true):(nb n.toNat).length<=6/\∀x∈nb n.toNat,0<=x/\x<256:=by
 have:=eY h;have a:n.toNat<128^(5+1):=by
                     have:(128:Nat)^(5+1)=4398046511104:=by decide
                     omega
 exact⟨tA 5 _ a,XL 5 _ a⟩
def nZ:∀a:List Int,a.all ko=true->(jk a).length<=6*a.length/\∀x∈jk a,0<=x/\x<256
 | [],_=>by simp[jk]
 |n::a,h=>by
  simp only[Co,bh]at h;have c:=TR h.1;have d:=nZ a h.2;have e:jk (n::a)=nb n.toNat++jk a:=by simp[jk]
  rw[e];refine⟨by simp only[aM,bT];omega,λx b=>?_⟩;rcases bq.1 b with b|b
  exact c.2 x b;exact d.2 x b
end Num
namespace Lease
variable{x c:Int}
def Xu:laidOutB prog=true:=by kernel_rfl
def acJ:(match prog.underlying 335 with|some (.array _ _)|some (.struct _)=>true|_=>false)=true:=by kernel_rfl
def aeq:(335:Bi)<prog.types.size:=ek (by kernel_rfl)
def acI:prog.keyTypeAt 3 335=true:=by kernel_rfl
def aeo:WideMaps.KeyLaw prog 335:=deep_law_laid Xu (m:=3) (by omega) aeq acI acJ
def xr:Keyed prog 335:=Keyed.of_law aeo
def m5:Keyed prog 3:=int_keyed underlying3
def Tv{w:A1}:(zeroValue 3).run prog w=.ok (.int .i64 0) w:=by kernel_rfl
def gv(x:Int):Prop:=-9223372036854775808<=x/\x<=9223372036854775807
def gv.e(h:gv x):(Lit.int .i64 x).wf=true:=by
 let ⟨a,b⟩:=h
 simp only[Lit.wf,IntKind.min,IntKind.max,IntKind.signed,IntKind.bits,bh,fv,dC];exact⟨by simpa using a,by simp;omega⟩
def gv.h(h:(Lit.int .i64 x).wf=true):gv x:=by
 simp only[Lit.wf,IntKind.min,IntKind.max,IntKind.signed,IntKind.bits,bh,fv,dC]at h;let ⟨a,b⟩:=h
 simp at a b;exact⟨by omega,by omega⟩
def kk(c o:Int):Lit:=.string (keyBytes [.int .i64 c,.int .i64 o])
def acH:prog.types.size=404:=by kernel_rfl
def To:prog.cellsOf 335=2:=by kernel_rfl
def aaM:prog.cellsOf 3=1:=by kernel_rfl
def aes:prog.keyType 335=true:=by kernel_rfl
def Zf{d:Nat}(h:gv x):prog.keyLits (d+1) 3 [.int .i64 x]=some [.int .i64 x]:=by
 unfold Program.keyLits;simp[underlying3,h.e]
def Pr{o:Int}(hc:gv c)(a:gv o):keyOf prog 335 (.agg #[.int .i64 c,.int .i64 o])=some (kk c o):=by
 have b:prog.keyLits (prog.types.size+1) 335 (Value.agg #[.int .i64 c,.int .i64 o]).cells.toList=some [.int .i64 c,.int .i64 o]:=by
  rw[acH];unfold Program.keyLits;simp[underlying335,Value.cells,To,aaM,Zf hc,Zf a]
 have d:(Value.agg #[.int .i64 c,.int .i64 o]).formed prog 335=true:=by simp[Value.formed,underlying335,To]
 unfold keyOf;rw[underlying335];simp only[aes,d,Bool.and_self,dC,b,mM];rfl
def yL(hc:gv c):keyOf prog 3 (.int .i64 c)=some (.int .i64 c):=keyOf_int_mk underlying3 hc.e
abbrev ka:=DataW Unit
abbrev Dc (x:Int):ka:=.lit (.int .i64 x)
def fV(D:ka)(c:Int):Nat->ka
 |0=>D
 |n+1=>(fV D c n).del (kk c n)
def gV(v:Int->Int)(c x:Int):Int->Int:=λy=>if y=c then x else v y
def de{v:Int->Int}:gV v c x c=x:=by simp[gV]
def cP{v:Int->Int}{y:Int}(h:y≠c):gV v c x y=v y:=by simp[gV,h]
end Lease
namespace Gen
variable{a:Act}{listed:Array Bool}{ops:Array Oper}{Q:Exit->Act->A1->Prop}{i k fuel:Nat}{op:Op}{oi o:Oper}{gd:Option (Nat×Bool)}{d:Option Tmp}{P:Bo}{md:Region.Mode}{ps:String}{ty:Bi}{w:A1}{S:A1->Prop}
def Open(listed:Array Bool):Prop:=∃k,listed.getD k true=false
def anyM(P:Program)(md:Region.Mode)(ops:Array Oper)(Q:Exit->Act->World->Prop)(S:World->Prop):Nat->Array Bool->Act->World->Prop
 |0,listed,a,w=>Region.ready md ops listed=[]/\Q .normal a w
 |fuel+1,listed,a,w=>
  (Region.ready md ops listed=[]->Q .normal a w) /\
  ∀i∈Region.ready md ops listed,wpOp P ops Q i (λb w'=>(Open (listed.setIfInBounds i true)->S w')/\anyM P md ops Q S fuel (listed.setIfInBounds i true) b w') a w
def Tn:∀(fuel:Nat) (listed:Array Bool) (a:Act) (w:A1),anyM P md ops Q S fuel listed a w->wpAny P md ops Q fuel listed a w
 |0,_,_,_,h=>h
 |fuel+1,_,_,_,h=>⟨h.1,λi b=>wpOp_mono (λc w' d=>Tn fuel _ c w' d.2) (h.2 i b)⟩
def Kt{ok:Oper}{v:Bg}(F:ops[i]?=some oi)(B:ops[k]?=some ok)(G:∃e∈ok.after,Region.binds md e=true/\e.on=i)(q:∀(j:Nat) (o:Oper) cs b,ops[j]?=some o->o.op≠.select cs b)(O:∀c a w,Q (.panic c) (a.put oi.dst v) w->Q (.panic c) a w):
  ∀(fuel:Nat) (listed:Array Bool) (a:Act) (w:A1),
   (∀j t,ops[j]?=some t->j≠i->listed.getD j true=false->(∀e∈t.after,Region.binds md e=true->e.on≠i)->oi.apart ops t=true) ->
   i∈Region.ready md ops listed->listed.getD k true=false->i≠k->YieldsIf P ops S oi v a->S w ->
   anyM P md ops Q S fuel (listed.setIfInBounds i true) (a.put oi.dst v) w->anyM P md ops Q S (fuel+1) listed a w:=by
 intro fuel;induction fuel with
 |zero=>
  intro listed a w _ u _ _ C y H;refine⟨λh=>(by rw[h]at u;cases u),λj D=>?_⟩;by_cases d:j=i;subst d;exact C.wpOp F y ⟨λ_=>y,H⟩;have:=ready_mono D d;rw[H.1]at this;cases this
 |succ fuel R=>
  intro listed a w f u g z C y H;refine⟨λh=>(by rw[h]at u;cases u),λj D=>?_⟩;by_cases d:j=i;subst d;exact C.wpOp F y ⟨λ_=>y,H⟩;have x:=H.2 j (ready_mono D d);obtain⟨r,t,n,A⟩:=mem_ready.1 D;have s:∀e∈t.after,Region.binds md e=true->e.on≠i:=λe I J K=>by
   have x:=A e I J;have h0:=(mem_ready.1 u).1;rw[K]at x;rcases cz i listed.size with L|L
   simp[L]at h0 x;rw[h0]at x;cases x;simp[dx L]at x
  have l:j≠k:=λe=>by
   subst e;obtain⟨e,I,J,T⟩:=G;rw[n]at B;obtain rfl:=aZ B;exact s e I J T
  have m:Open ((listed.setIfInBounds i true).setIfInBounds j true):=⟨k,by rw[Ri true l,Ri true z];exact g⟩;have p:∀k ok,ops[k]?=some ok->k≠i->(listed.setIfInBounds j true).getD k true=false ->
    (∀e∈ok.after,Region.binds md e=true->e.on≠i)->oi.apart ops ok=true:=λk ok B M g N=>by
   refine f k ok B M ?_ N;by_cases l:j=k;subst l;exact r;rw[Ri true l]at g;exact g
  refine wpOp_mono (λU w' E=>⟨λ_=>E.2.1 m,R (listed.setIfInBounds j true) U w' p (ready_mono u (fE d)) (by rw[Ri true l];exact g) z E.1 (E.2.1 m) ?_⟩) (wpOp_putIf n (f j t n d r s) (λcs b=>q i oi cs b F) (λcs b=>q j t cs b n) O C x);rw[VI _ _ d];exact E.2.2
def waits(md:Region.Mode)(ops:Array Oper)(k i:Nat):Bool:=((ops[k]?).map λo=>o.after.any λe=>Region.binds md e&&e.on==i).getD false
def Ku(h:waits md ops k i=true):∃ok,ops[k]?=some ok/\∃e∈ok.after,Region.binds md e=true/\e.on=i:=by
 unfold waits at h;cases hk:ops[k]? with
 |none=>simp[hk]at h
 |some o=>
  simp[hk]at h;let ⟨x,a,b,c⟩:=h
  exact⟨o,rfl,_,Array.getElem_mem a,b,c⟩
def take{af:Array Edge}{v:Bg}(g:ops[i]?=some oi)(j:oi=⟨d,op,ty,ps,af,gd⟩)(l:waits md ops k i=true)(b:listed.getD k true=false)(e:(i==k)=false)(hs:Region.noSelect ops=true)(m:Region.free md ops listed i=true)(n:(Region.ready md ops listed).contains i=true)(o:∀c a w,Q (.panic c) (a.put d v) w->Q (.panic c) a w)(p:YieldsIf P ops S ⟨d,op,ty,ps,af,gd⟩ v a)(q:S w)(h:anyM P md ops Q S fuel (listed.setIfInBounds i true) (a.put d v) w):anyM P md ops Q S (fuel+1) listed a w:=by
 subst j;obtain⟨ok,f,r⟩:=Ku l;exact Kt g f r (Region.noSelect_spec hs) o fuel listed a w (Region.free_spec g m) (by simpa using n) b (by simpa using e) p q h
def one{af:Array Edge}(c:Region.ready md ops listed=[i])(g:ops[i]?=some o)(b:o=⟨d,op,ty,ps,af,none⟩)(h:∀K:Act->A1->Prop,Shut (∀a w,S w->(S w->anyM P md ops Q S fuel (listed.setIfInBounds i true) a w)->K a w)->Oper.wp P ⟨d,op,ty,ps,af,none⟩ a w K Q):anyM P md ops Q S (fuel+1) listed a w:=by
 subst b;refine⟨λh0=>(by rw[c]at h0;cases h0),λj e=>?_⟩;rw[c]at e;obtain rfl:=aL.1 e;unfold wpOp;simp only[g,Region.wanted,dC];exact .inl (h _ (λa w f k=>⟨λ_=>f,k f⟩))
def last{af:Array Edge}(g:Region.ready md ops listed=[i])(p:ops[i]?=some o)(e:o=⟨d,op,ty,ps,af,none⟩)(hd:(listed.setIfInBounds i true).toList.all id=true)(l:Region.ready md ops (listed.setIfInBounds i true)=[])(h:∀K:Act->A1->Prop,Shut (∀a w,Q .normal a w->K a w)->Oper.wp P ⟨d,op,ty,ps,af,none⟩ a w K Q):anyM P md ops Q S (fuel+1) listed a w:=by
 subst e;refine⟨λh0=>(by rw[g]at h0;cases h0),λj m=>?_⟩;rw[g]at m;obtain rfl:=aL.1 m;unfold wpOp;simp only[p,Region.wanted,dC];refine .inl (h _ (λa w n=>⟨λ⟨k,c⟩=>?_,?_⟩));exfalso;rw[bL]at c;cases hx:(listed.setIfInBounds j true)[k]? with
 |none=>simp[hx]at c
 |some b=>
  rw[hx]at c;have:=dh.1 hd b (by rw[<-fh]at hx;exact bC hx);simp at c this;rw[c]at this;cases this
 cases fuel with
 |zero=>exact⟨l,n⟩
 |succ f=>exact⟨λ_=>n,by rw[l];simp⟩
def tk(i k:Nat){af:Array Edge}{v:Bg}(g:S w)(h:anyM P md ops Q S fuel (listed.setIfInBounds i true) (a.put d v) w)(j:ops[i]?=some oi:=by rfl)(l:oi=⟨d,op,ty,ps,af,gd⟩:=by rfl)(m:YieldsIf P ops S ⟨d,op,ty,ps,af,gd⟩ v a:=by refine Or.inl ⟨by rfl,?_⟩;intro w' b;(try obtain⟨_,_,_,_,_,_,_,_,_⟩:=b);(repeat obtain⟨_,b⟩:=b);(try dsimp only at *);go_simp;try with_reducible rfl)(n:waits md ops k i=true:=by kernel_rfl)(e:listed.getD k true=false:=by kernel_rfl)(f:(i==k)=false:=by kernel_rfl)(hs:Region.noSelect ops=true:=by kernel_rfl)(o:Region.free md ops listed i=true:=by kernel_rfl)(p:(Region.ready md ops listed).contains i=true:=by kernel_rfl)(q:∀c a w,Q (.panic c) (a.put d v) w->Q (.panic c) a w:=by exactλ_ _ _ h=>h):anyM P md ops Q S (fuel+1) listed a w:=
 take j l n e f hs o p q m g h
def on(i:Nat){af:Array Edge}(h:∀K:Act->A1->Prop,Shut (∀a w,S w->(S w->anyM P md ops Q S fuel (listed.setIfInBounds i true) a w)->K a w)->Oper.wp P ⟨d,op,ty,ps,af,none⟩ a w K Q)(c:Region.ready md ops listed=[i]:=by kernel_rfl)(e:ops[i]?=some o:=by rfl)(b:o=⟨d,op,ty,ps,af,none⟩:=by rfl):anyM P md ops Q S (fuel+1) listed a w:=one c e b h
def la(i:Nat){af:Array Edge}(h:∀K:Act->A1->Prop,Shut (∀a w,Q .normal a w->K a w)->Oper.wp P ⟨d,op,ty,ps,af,none⟩ a w K Q)(c:Region.ready md ops listed=[i]:=by kernel_rfl)(e:ops[i]?=some o:=by rfl)(b:o=⟨d,op,ty,ps,af,none⟩:=by rfl)(hd:(listed.setIfInBounds i true).toList.all id=true:=by kernel_rfl)(f:Region.ready md ops (listed.setIfInBounds i true)=[]:=by kernel_rfl):anyM P md ops Q S (fuel+1) listed a w:=last c e b hd f h
def start{id:Nat}(b:P.follows .mixedOrders=true)(c:S w.drew)(h:S w.drew->anyM P .any ops Q S ops.size (Array.replicate ops.size false) a w.drew):(Code.region id ops true).wp P Q a w:=
 wp_region_any b (Tn _ _ _ _ (h c))
end Gen
open Num (m6)
namespace Lease
variable{u x o now:Int}{s:Int->Int}{l:List Int}{kl:Lit}{c i n t m B:Nat}{P:Bo}{k:Bi}{key:Bg}{a b w w':A1}{D:ka}
structure Ob(bs:List Nat)(w w':World):Prop where
 s:w'.os=w.os
 p:w'.tape=w.tape
 o:w'.output=w.output
 i:w.heap.size<=w'.heap.size
 b:∀k,k<w.heap.size->k∉bs->w'.heap[k]?=w.heap[k]?
def Ob.V(bs:List Nat)(w:A1):Ob bs w w:=⟨rfl,rfl,rfl,aa _,λ_ _ _=>rfl⟩
def Ob.j{bs:List Nat}{c:A1}(h:Ob bs a b)(k:Ob bs b c):Ob bs a c:=
 ⟨k.s.trans h.s,k.p.trans h.p,k.o.trans h.o,aP h.i k.i,λi d e=>by rw[k.b i (aO d h.i) e,h.b i d e]⟩
def Ob.Z{bs cs:List Nat}(h:Ob bs a b)(hs:∀k∈bs,k∈cs):Ob cs a b:=⟨h.s,h.p,h.o,h.i,λk c hc=>h.b k c λd=>hc (hs k d)⟩
def Ob.O{bs:List Nat}(h:Below a.heap.size a b):Ob bs a b:=⟨h.os,h.tape,h.output,h.size,λk c _=>h.block k c⟩
def Ob.H{bs:List Nat}{q:Nat}(h:Ob bs a b)(c:q∈bs){u:Bg}:Ob bs a (b.setCell ⟨q,i,none⟩ u):=
 h.j ⟨rfl,rfl,rfl,by simp,λk _ d=>aX b (aA q i) u k (λe=>d (by rw[e];exact c))⟩
def Ob.I{bs:List Nat}(h:Ob bs a b):Ob bs a b.drew:=⟨h.s,h.p,h.o,h.i,h.b⟩
def Ob.h{bs:List Nat}(h:Ob bs a b)(o:Obj):Ob bs a (b.alloc o):=h.j (Ob.O ((au _ _).alloc (aa _) o))
def Ob.ab{bs:List Nat}{q:Nat}{c:A1}(h:Ob bs a b)(d:b.mapTurned c q)(f:q∈bs):Ob bs a c:=by
 have g:=d.grown;exact h.j ⟨g.os,g.tape,g.output,g.size,λk i l=>g.block k i (λe=>l (by injection e with e;rw[e];exact f))⟩
def bX{H:Type}{R:Bg->Option (DataW H×List MemPlace)}{b:Nat}{D:DataW H}(h:w.ownsMap P k R b n D)(c:w'.heap[b]?=w.heap[b]?):w'.ownsMap P k R b n D:=by
 let ⟨d,a,e,r⟩:=h
 exact⟨d,a,c.trans e,r⟩
def eE{H:Type}{R:Bg->Option (DataW H×List MemPlace)}{b:Nat}{D:DataW H}{u:Bg}(h:w.ownsMap P k R b n D)(hc:w.cell? ⟨t,i,none⟩=some u):t≠b:=by
 rintro rfl;let ⟨d,a,c,r⟩:=h
 simp[World.cell?,c]at hc
structure cL(w:World)(t m:Nat)(D:ka)(v s:Int->Int)(n:Nat):Prop where
 j:w.cell? ⟨t,0,none⟩=some (.map (some m))
 p:∀i:Nat,i<4->w.cell? ⟨t,1+i,none⟩=some (.int .i64 (v i))
 u:∀i:Nat,i<4->w.cell? ⟨t,5+i,none⟩=some (.int .i64 (s i))
 h:∀i,w.frozen? ⟨t,i,none⟩=false
 b:w.ownsMap prog 335 (plainElem prog 3) m n D
 o:∀i:Int,gv (v i)/\gv (s i)
 x:∃cs f,w.heap[t]?=some (.cells cs 301 f)
def A4{u:Nat}{v:Bg}{t:Bi}(h:∃cs f,w.heap[u]?=some (.cells cs t f)):∃cs f,(w.setCell ⟨u,i,none⟩ v).heap[u]?=some (.cells cs t f):=by
 let ⟨cs,f,h⟩:=h
 refine⟨cs.setIfInBounds i v,f,?_⟩;simp[World.setCell,bU,h]
def cL.ne{v:Int->Int}(h:cL w t m D v s n):t≠m:=eE h.b h.j
def cL.Z{v:Int->Int}(h:cL w t m D v s n):t<w.heap.size/\m<w.heap.size:=⟨cS _ _ h.j,h.b.lt⟩
def cL.e{v:Int->Int}(h:cL w t m D v s n)(c:w'.heap[t]?=w.heap[t]?)(f:w'.heap[m]?=w.heap[m]?):cL w' t m D v s n:=
 ⟨(aj (a:=(aA t 0)) c).trans h.j,λi d=>(aj (a:=(aA t (1+i))) c).trans (h.p i d),λi d=>(aj (a:=(aA t (5+i))) c).trans (h.u i d),
  λi=>(aJ (a:=(aA t i)) c).trans (h.h i),bX h.b f,h.o,by rw[c];exact h.x⟩
def cL.H{v:Int->Int}(h:cL w t m D v s n)(a:Below w.heap.size w w'):cL w' t m D v s n:=
 h.e (a.block t h.Z.1) (a.block m h.Z.2)
def cL.V{c:Nat}{d:ka}{v:Int->Int}(h:cL w t m D v s n)(f:w.mapTurned w' m)(g:w'.ownsMap prog 335 (plainElem prog 3) m c d):cL w' t m d v s c:=by
 have e:= f.grown.block t h.Z.1 (λe=>h.ne (by injection e));exact⟨(aj (a:=(aA t 0)) e).trans h.j,λi b=>(aj (a:=(aA t (1+i))) e).trans (h.p i b),λi b=>(aj (a:=(aA t (5+i))) e).trans (h.u i b),
  λi=>(aJ (a:=(aA t i)) e).trans (h.h i),g,h.o,by rw[e];exact h.x⟩
def gv.j{v:Int->Int}{c:Int}(h:∀i,gv (v i))(a:gv x):∀i,gv (gV v c x i):=λi=>by
 unfold Lease.gV;split;exact a;exact h i
def cL.O{v:Int->Int}(h:cL w t m D v s n)(hc:c<4)(d:gv x):cL (w.setCell ⟨t,1+c,none⟩ (.int .i64 x)) t m D (gV v c x) s n:=by
 refine⟨?_,λi a=>?_,λi a=>?_,λi=>?_,h.b.setCell (λe=>h.ne e.symm) _,λi=>⟨gv.j (λi=>(h.o i).1) d i,(h.o i).2⟩,A4 h.x⟩;rw[ak _ _ _ _ (by simp)];exact h.j;by_cases e:i=c;subst e;rw[ay _ _ _ (h.p i hc),de];rw[ak _ _ _ _ (by intro e;injection e with _ e;omega),cP (by omega)];exact h.p i a;rw[ak _ _ _ _ (by intro e;injection e with _ e;omega)];exact h.u i a;rw[bb];exact h.h i
def cL.ab{v:Int->Int}(h:cL w t m D v s n)(hc:c<4)(d:gv x):cL (w.setCell ⟨t,5+c,none⟩ (.int .i64 x)) t m D v (gV s c x) n:=by
 refine⟨?_,λi a=>?_,λi a=>?_,λi=>?_,h.b.setCell (λe=>h.ne e.symm) _,λi=>⟨(h.o i).1,gv.j (λi=>(h.o i).2) d i⟩,A4 h.x⟩;rw[ak _ _ _ _ (by simp)];exact h.j;rw[ak _ _ _ _ (by intro e;injection e with _ e;omega)];exact h.p i a;by_cases e:i=c;subst e;rw[ay _ _ _ (h.u i hc),de];rw[ak _ _ _ _ (by intro e;injection e with _ e;omega),cP (by omega)];exact h.u i a;rw[bb];exact h.h i
def qK(n:Int):Bool:=m6 n 0 3
def fg(n:Int):Bool:=m6 n 0 7
def E3(n:Int):Bool:=m6 n 0 1099511627776
def Pp{n:Int}(h:qK n=true):0<=n/\n<=3:=Num.eY h
def Ps{n:Int}(h:fg n=true):0<=n/\n<=7:=Num.eY h
def Pu{n:Int}(h:E3 n=true):0<=n/\n<=1099511627776:=Num.eY h
def jX{n:Int}:Calls prog 255 #[.int .i64 n] w λe w'=>e=.returned (.bool (qK n))/\w'=w:=by
 unfold qK;by_cases h0:0<=n
 .by_cases a:n<4
  .rw[Num.fX h0 (by omega)];go_enter func255,ntmps255;go_wp2;go_ret;exact⟨rfl,rfl⟩
  .rw[Num.kM (by omega)];have b:= aK a;go_enter func255,ntmps255;go_wp2;go_ret;exact⟨rfl,rfl⟩
 .rw[Num.kN (by omega)];have b:= aK h0;go_enter func255,ntmps255;go_wp2;go_ret;exact⟨rfl,rfl⟩
def E0{n:Int}:Calls prog 256 #[.int .i64 n] w λe w'=>e=.returned (.bool (fg n))/\w'=w:=by
 unfold fg;by_cases h0:0<=n
 .by_cases a:n<8
  .rw[Num.fX h0 (by omega)];go_enter func256,ntmps256;go_wp2;go_ret;exact⟨rfl,rfl⟩
  .rw[Num.kM (by omega)];have b:= aK a;go_enter func256,ntmps256;go_wp2;go_ret;exact⟨rfl,rfl⟩
 .rw[Num.kN (by omega)];have b:= aK h0;go_enter func256,ntmps256;go_wp2;go_ret;exact⟨rfl,rfl⟩
def zd{n:Int}:Calls prog 257 #[.int .i64 n] w λe w'=>e=.returned (.bool (E3 n))/\w'=w:=by
 unfold E3;by_cases h0:0<=n
 .by_cases a:n<=1099511627776
  .rw[Num.fX h0 a];go_enter func257,ntmps257;go_wp2;go_ret;exact⟨rfl,rfl⟩
  .rw[Num.kM (by omega)];have b:= aK a;go_enter func257,ntmps257;go_wp2;go_ret;exact⟨rfl,rfl⟩
 .rw[Num.kN (by omega)];have b:= aK h0;go_enter func257,ntmps257;go_wp2;go_ret;exact⟨rfl,rfl⟩
abbrev tp (t:Nat):Value:=.pointer (some ⟨t,0,none⟩)
def lD{t:Bi}{b:Nat}(h:w.ownsMap prog k (plainElem prog 3) b n D)(K:Keyed prog k)(f:prog.underlying t=some (.map k 3))(g:keyOf prog k key=some kl)(i:D.atKey kl (Dc 0)=Dc x):
  (Instr.lookup t (.map (some b)) key false).run prog w=.ok (iI x) w/\(Instr.lookup t (.map (some b)) key true).run prog w=.ok (.tuple #[iI x,.bool (Maps.has D kl)]) w/\gv x:=by
 let ⟨y,c,d,j⟩:=h.lookup_int K f underlying3 (Tv) g
 rw[i]at d;obtain rfl:x=y:=by simpa[Dc] using d
 let ⟨v,ps,e,l⟩:=h.look_ok K f (Tv) (plainElem_int (H:=Unit) underlying3 (a:=0) (by decide)) g
 obtain⟨z,rfl,m,_⟩:=plainElem_int_inv underlying3 l;obtain rfl:z=x:=by simpa[Dc] using ((bY Prod.fst m).symm.trans i)
 exact⟨c,e,gv.h j⟩
def mf{t:Bi}{b:Nat}(h:w.ownsMap prog k (plainElem prog 3) b n D)(K:Keyed prog k)(c:prog.underlying t=some (.map k 3))(d:keyOf prog k key=some kl):∃x,D.atKey kl (Dc 0)=Dc x:=by
 obtain⟨y,_,a,_⟩:=h.lookup_int K c underlying3 (Tv) d;exact⟨y,a⟩
def mx(a b:Int):Int:=if a<b then b else a
def nY{a b:Int}(h:gv a)(k:gv b):gv (mx a b):=by
 unfold mx;split<;>assumption
def MT(h:E3 u=true):gv u:=by have:=Pu h;exact⟨by omega,by omega⟩
def MS(h:qK u=true):gv u:=by have:=Pp h;exact⟨by omega,by omega⟩
def Xw(h:fg u=true):gv u:=by have:=Ps h;exact⟨by omega,by omega⟩
def cL.I{v:Int->Int}(h:cL w t m D v s n):cL w.drew t m D v s n:=⟨h.j,h.p,h.u,h.h,h.b,h.o,h.x⟩
def aaR{v:Int->Int}(h:cL w t m D v s n)(hc:c<4)(a:E3 u=true):
  Calls prog 228 #[tp t,iI c,iI u] w λe w'=>e=.returned .nilIface/\cL w' t m D (gV v c (mx (v c) u)) s n/\Ob [t] w w':=by
 have b:qK c=true:=Num.fX (by omega) (by omega);have j:=h.p c hc;have k:=h.h (1+c);have d:(0:Int)<=c:=by omega
 have f:(c:Int)<4:=by omega
 go_enter func228,ntmps228;go_wp2_with (first|(go_at_call 255;refine(jX).mono ?_;rintro x w'⟨rfl,rfl⟩)|(go_at_call 257;refine(zd).mono ?_;rintro x w'⟨rfl,rfl⟩))
 go_still_tail 13,(by kernel_rfl);generalize i:(if v (c:Int)<u then u else v (c:Int))=g;obtain rfl:mx (v c) u=g:=i;go_wp2;go_ret;exact⟨rfl,h.I.O hc (nY ((h.o _).1) (MT a)),(Ob.V _ _).I.H (by simp)⟩
def aaQ{v:Int->Int}(h:cL w t m D v s n)(hc:c<4):
  Calls prog 254 #[tp t,iI c] w λe w'=>e=.returned (.tuple #[iI (s c),.nilIface])/\w'=w:=by
 have a:qK c=true:=Num.fX (by omega) (by omega);have f:=h.u c hc;have b:(0:Int)<=c:=by omega
 have d:(c:Int)<4:=by omega

 go_enter func254,ntmps254;go_wp2_with (first|(go_at_call 255;refine(jX).mono ?_;rintro x w'⟨rfl,rfl⟩))
 go_ret2;exact⟨rfl,rfl⟩
def Tt(now:Int){v:Int->Int}(h:cL w t m D v s n)(hc:c<4):
  Calls prog 233 #[tp t,iI c,iI now] w λe w'=>e=.returned (.bool (decide (now<v c)))/\w'=w:=by
 have a:qK c=true:=Num.fX (by omega) (by omega);have f:=h.p c hc;have b:(0:Int)<=c:=by omega
 have d:(c:Int)<4:=by omega
 go_enter func233,ntmps233;go_wp2_with (first|(go_at_call 255;refine(jX).mono ?_;rintro x w'⟨rfl,rfl⟩))
 go_ret;exact⟨rfl,rfl⟩
def aaP{c:Int}{v:Int->Int}(h:cL w t m D v s n)(q:n<9223372036854775807)(hc:qK c=true)(r:fg o=true)(y:E3 u=true)(z:D.atKey (kk c o) (Dc 0)=Dc x):
  Calls prog 224 #[tp t,iI c,iI o,iI u] w λe w'=>e=.returned .nilIface/\cL w' t m (D.put (kk c o) (Dc (mx x u))) v s (n+1)/\Ob [m] w w':=by
 have A:=h.Z.1;have J:=h.j;have d:=MS hc;have f:=Xw r;go_enter func224,ntmps224;go_wp2_with (first|(go_at_call 255;refine(jX).mono ?_;rintro x w'⟨rfl,rfl⟩)|(go_at_call 256;refine(E0).mono ?_;rintro x w'⟨rfl,rfl⟩)|(go_at_call 257;refine(zd).mono ?_;rintro x w'⟨rfl,rfl⟩))
 have k:=h.H ((au _ _).alloc (aa _) (Obj.cells #[Value.int IntKind.i64 c,Value.int IntKind.i64 o] 335));have B:=((Ob.V [m] w').h (Obj.cells #[Value.int IntKind.i64 c,Value.int IntKind.i64 o] 335));have C:(w'.alloc (Obj.cells #[Value.int IntKind.i64 c,Value.int IntKind.i64 o] 335)).cell? ⟨w'.heap.size,0,none⟩=some (.int .i64 c):=by rw[bS _ _ _ _ _ _ (bw w' _)];rfl
 have E:(w'.alloc (Obj.cells #[Value.int IntKind.i64 c,Value.int IntKind.i64 o] 335)).cell? ⟨w'.heap.size,1,none⟩=some (.int .i64 o):=by rw[bS _ _ _ _ _ _ (bw w' _)];rfl
 generalize (w'.alloc _)=w2 at *;have F:=k.j;obtain⟨p,_,l⟩:=lD (t:=298) k.I.b xr underlying298 (Pr d f) z;go_still_tail 13,(by kernel_rfl);generalize G:(if x<u then u else x)=g;obtain rfl:mx x u=g:=G;refine wpList_mapUpdate_in _ rfl _ _ _ 298 rfl 335 3 xr underlying298 (plainElem prog 3) m n D rfl k.I.b q _ _ _ rfl rfl (Pr d f) _ _ (plainElem_int underlying3 (nY l (MT y)).e) ?_;intro w1 i a;go_wp2;go_ret;exact⟨rfl,(k.I.V a i),(B.I.ab a (by simp))⟩
def Hd:(prog.info? 3).map (λi=>(i.zero,i.size,i.bytes))=some (some (.int .i64 0),1,8):=by kernel_rfl
def dA(w:World)(B:Nat)(v:Value)(l:List Int):Prop:=w.ownsRow B 3 1 v l.length (l.map (Value.int .i64))
def dA.h{v:Bg}(h:dA w B v l){o:Obj}:(w.alloc o).ownsRow B 3 1 v l.length (l.map (Value.int .i64)):=rH h o
def dA.j:dA w B (.slice none 0 0) []:=jE _ _ _ _
def Pt{s:Nat}{e:Bi}{v:Bg}{xs:List Bg}(h:w.ownsRow B e s v n xs)(d:Below w.heap.size w w'):w'.ownsRow B e s v n xs:=by
 refine⟨h.1,?_⟩;rcases h.2 with h|⟨g,a,b,f,i,c,j⟩
 exact .inl h;exact .inr ⟨g,a,b,f,i,(d.block g (am.1 c).1).trans c,j⟩
def dA.H{v:Bg}(h:dA w B v l)(a:Below w.heap.size w w'):dA w' B v l:=Pt h a
def A3(w:A1){x:Bg}{t:Bi}:∀j u,[x][j]?=some u->(w.alloc (.cells #[x] t)).cell? ((⟨w.heap.size,0,none⟩:Addr).add j)=some u:=by
 intro j u a;match j,a with
 |0,a=>simp at a;subst a;simp[Addr.add]
 |n+1,a=>simp at a
def Dd{k:IntKind}{n:Int}:∀u∈[Value.int k n],u.oneCell'=true:=by intro u a;simp at a;subst a;rfl
def dA.I{wr w1:A1}{v b:Bg}{news:List Int}{o:Obj}(h:dA wr B v l)(c:Below B w wr)(d:B<=wr.heap.size)(e:m=news.length)(a:w1.ownsRow B 3 1 b (l.length+m) (l.map (Value.int .i64)++news.map (Value.int .i64)))(f:(wr.alloc o).grownBy w1 v.ownBlock):dA w1 B b (l++news)/\Below B w w1:=by
 refine⟨?_,?_⟩;unfold dA;rw[aM,dQ,<-e];exact a;exact(c.alloc d o).grown f (by simp;omega) (λk g=>((h.h (o:=o)).lt k g).1)
def wP(D:ka)(o now:Int)(c:Nat):Bool:=match D.atKey (kk c o) (Dc 0) with
 |.lit (.int .i64 x)=>Maps.has D (kk c o)&&decide (now<x)
 |_=>false
def aaO(a:D.atKey (kk c o) (Dc 0)=Dc x):wP D o now c=(Maps.has D (kk c o)&&decide (now<x)):=by simp[wP,a]
def ji(D:ka)(o now:Int)(k:Nat):List Int:=((List.range k).filter (wP D o now)).map (λc:Nat=>(c:Int))
def Xt{k:Nat}(h:wP D o now k=true):ji D o now (k+1)=ji D o now k++[(k:Int)]:=by simp[ji,xQ,h]
def Tq{k:Nat}(h:wP D o now k=false):ji D o now (k+1)=ji D o now k:=by simp[ji,xQ,h]
def EZ(D:ka)(o now:Int)(k:Nat):(ji D o now k).length<=k:=by
 have:=List.length_filter_le (wP D o now) (List.range k);simpa[ji] using this
theorem Ts{t m n:Nat}{D:ka}{v s:Int->Int}(o now:Int){w:World}(h:cL w t m D v s n)(ho:gv o):
  Calls prog 232 #[tp t,.int .i64 o,.int .i64 now] w λe w'=>∃v',e=.returned v'/\dA w' w.heap.size v' (ji D o now 4)/\Below w.heap.size w w':=by
 let ⟨i0,hi,hz0,hz1,hz2⟩:=dw Hd
 go_enter func232,ntmps232
 go_wp2
 go_loopw [7,11] (λv i wr=>∃k:Nat,k<=4/\i=iI k/\dA wr w.heap.size v (ji D o now k)/\Below w.heap.size w wr) (λ_ i _=>4-(intOf i).toNat)
 case atStart=>exact⟨0,by omega,rfl,dA.j,au _ _⟩
 case round=>
  obtain⟨k,hk,rfl,hwn,hbl⟩:=hrel
  have hr:=h.H hbl
  by_cases hk4:k<4
  .have hBr:= hbl.size
   have hki:gv (k:Int):=⟨by omega,by omega⟩
   have hl:=EZ D o now k
   let ⟨zs,hzs⟩:∃zs,ji D o now k=zs:=⟨_,rfl⟩
   rw[hzs]at hwn hl
   have HZ :Hid _:= hzs
   have hzl:zs.length<=4:=by omega
   have hv:=hr.j
   let ⟨x,hx⟩:=mf (t:=298) hr.b xr underlying298 (Pr hki ho)
   let ⟨_,hrun,hxw⟩:=lD (t:=298) hr.b xr underlying298 (Pr hki ho) hx
   have hq:=aaO (now:=now) hx
   let ⟨hb,ehb⟩:∃hb,Maps.has D (kk k o)=hb:=⟨_,rfl⟩
   rw[ehb]at hrun hq
   have hk4':(k:Int)<4:=by omega
   cases hb with
   |false=>
    have HQ :Hid _:= (Tq (hq.trans (Bool.false_and _))).trans HZ.out
    go_wp2
    go_roundw
    case rel=>exact⟨k+1,by omega,by go_num,by rw[HQ.out];exact hwn,hbl⟩
    case measure=>simp[intOf];omega
   |true=>
    by_cases hlt:now<x
    .have HQ :Hid _:= (Xt (hq.trans (by simp[hlt]))).trans (by rw[HZ.out])
     go_wp2_with (at_builtin;refine fC _ rfl _ _ 26 rfl w.heap.size 3 i0 (iI 0) 1 8 underlying26 hi hz0 hz1 hz2 rfl (by decide) _ _ _ rfl (hwn.h) (aA wr.heap.size 0) 1 1 [iI (k:Int)] rfl rfl (A3 _) (Dd) ?c3 ?c4 ?c5 ?_)
     case c3=>unfold maxLen;omega
     case c4=>omega
     case c5=>simp;omega
     intro v' w1 hown' hgrow _
     have R:=hwn.I (news:=[(k:Int)]) hbl hBr rfl hown' hgrow
     rw[<-HQ.out]at R
     go_wp2
     go_roundw
     case rel=>exact⟨k+1,by omega,by go_num,R.1,R.2⟩
     case measure=>simp[intOf];omega
    .have HQ :Hid _:= (Tq (hq.trans (by simp[hlt]))).trans HZ.out
     have hlt':= aK hlt
     go_wp2
     go_roundw
     case rel=>exact⟨k+1,by omega,by go_num,by rw[HQ.out];exact hwn,hbl⟩
     case measure=>simp[intOf];omega
  .obtain rfl:k=4:=by omega
   go_wp2
   go_ret
   exact⟨_,rfl,hwn,hbl⟩
def Ob.e{bs:List Nat}(h:Ob bs a b){k:Nat}:Ob bs a (b.drewN k):=⟨h.s,h.p,h.o,h.i,h.b⟩
def dA.e{v:Bg}(h:dA w B v l):∃ao c,v=.slice ao l.length c/\(0<l.length->∃g,ao=some ⟨g,0,none⟩/\∀i (b:i<l.length),w.cell? ⟨g,i,none⟩=some (.int .i64 l[i])):=by
 rcases h.2 with⟨rfl,h0⟩|⟨g,a,d,rfl,_⟩
 exact⟨none,0,by rw[h0],λh=>by omega⟩;refine⟨_,a,rfl,λ_=>⟨g,rfl,λi b=>?_⟩⟩;rw[bJ h _ (by omega)];simp[b]
end Lease
end Go.Proofs.YtbebfliimjjohabGreatDoor
