/- Parts of the proof. -/
import Derived.Test.YtbebfliimjjohabGreatDoorRows
import GoSem.PinnedTables
import GoSem.Claim
import GoSem.ClaimJoined
import GoSem.ClaimMapViews
import Derived.JoinedTies
import Derived.KernelRfl
import Derived.PartsItems
import Derived.HeadItems
import GoSem.Claims
import Derived.WalkKit
import Derived.ProofKit
import Derived.OpenShut
import Derived.WalkLawsBesides
import Derived.LaidEql
import Derived.Stop.Asserts
import Derived.RowKitTokens
import Derived.LaidLaws
import Derived.LaidHandle
import Derived.Maps.OwnSet
import Derived.DeepKeys4
import Derived.Deep.RegionHeld3
import Derived.Outline
import Derived.BigRegion
import Derived.StillTailTactics
import Derived.BigQuiet
import Derived.Deep.QuietTactic
set_option maxRecDepth 100000
set_option maxHeartbeats 8000000
namespace Go.Proofs.YtbebfliimjjohabGreatDoor
section
namespace Bare
open Go.RowKit Go.Extern.Stop Go.Stop Go.Extern
def Laid(w:World):Prop:=w.cell? ⟨0,0,none⟩=some (.iface 252 (.agg #[.pointer (some ⟨9,47,none⟩)]))
theorem valueOfP(t:Addr)(w:World):(ReflectliteValue.unpack (.iface 120 (.pointer (some t)))).run Tryz.prog w
  = .ok (.agg #[.pointer (some ⟨9,120,none⟩),.pointer (some ⟨w.heap.size,0,none⟩),.int .u64 150]) (w.alloc (.cells #[.pointer (some t)] 120)):=by kernel_rfl
theorem typeP (a : Addr) (w : World) : (ReflectliteValue.methodAny (ReflectliteValue.valueError "reflectlite.Value.Type" 0) (fun t _ _ _ => ReflectliteType.toType t) #[.agg #[.pointer (some ⟨9, 120, none⟩), .pointer (some a), .int .u64 150]]).run Tryz.prog w
  = .ok (.iface 252 (.agg #[.pointer (some ⟨9,120,none⟩)])) w:=by kernel_rfl
theorem methodKind (h : Value) (w : World) : (Go.method 504 252 (.agg #[h]) "Kind").run Tryz.prog w = .ok (317, h) w := by kernel_rfl
theorem kindP(w:World):((ReflectliteType.abiMethod fun t=>(fun a:Nat=>Value.int IntKind.u8 (a:Int)) <$> Rtype.kind t) #[.pointer (some ⟨9,120,none⟩)]).run Tryz.prog w = .ok (.int .u8 22) w:=by kernel_rfl
theorem kindE(w:World):((ReflectliteType.abiMethod fun t=>(fun a:Nat=>Value.int IntKind.u8 (a:Int)) <$> Rtype.kind t) #[.pointer (some ⟨9,59,none⟩)]).run Tryz.prog w = .ok (.int .u8 2) w:=by kernel_rfl
theorem partsP(a:Addr)(w:World):(ReflectliteValue.parts (.agg #[.pointer (some ⟨9,120,none⟩),.pointer (some a),.int .u64 150])).run Tryz.prog w = .ok (some (120,a,150)) w:=by kernel_rfl
theorem isNilP(a p:Addr)(W:World)(ha:W.cell? a=some (.pointer (some p))) :
  (ReflectliteValue.method (ReflectliteValue.valueError "reflectlite.Value.IsNil" 0) ReflectliteValue.isNil #[.agg #[.pointer (some ⟨9, 120, none⟩), .pointer (some a), .int .u64 150]]).run Tryz.prog W = .ok (.bool false) W := by
 refine(congrArg (fun s=>Sem.run Tryz.prog s W) (show ReflectliteValue.method _ _ _=(ReflectliteValue.parts (.agg #[.pointer (some ⟨9,120,none⟩),.pointer (some a),.int .u64 150]) >>= _) from rfl)).trans ?_
 simp only[Sem.run_bind,partsP,Result.andThen]
 simp[ReflectliteValue.isNil,loadVar,isAgg,underlying,Tryz.underlying120,ha,Result.andThen]
theorem methodElem (h : Value) (w : World) : (Go.method 504 252 (.agg #[h]) "Elem").run Tryz.prog w = .ok (330, .agg #[h]) w := by kernel_rfl
theorem methodImplements (h : Value) (w : World) : (Go.method 504 252 (.agg #[h]) "Implements").run Tryz.prog w = .ok (331, .agg #[h]) w := by kernel_rfl
theorem methodAssignableTo (h : Value) (w : World) : (Go.method 504 252 (.agg #[h]) "AssignableTo").run Tryz.prog w = .ok (328, .agg #[h]) w := by kernel_rfl
theorem elemP(w:World):(ReflectliteType.method ReflectliteType.elem #[.agg #[.pointer (some ⟨9,120,none⟩)]]).run Tryz.prog w = .ok (.iface 252 (.agg #[.pointer (some ⟨9,59,none⟩)])) w:=by kernel_rfl
theorem implementsE (w : World) : (ReflectliteType.relation "Implements" ReflectliteType.implements_ #[.agg #[.pointer (some ⟨9, 59, none⟩)], .iface 252 (.agg #[.pointer (some ⟨9, 47, none⟩)])]).run Tryz.prog w = .ok (.bool true) w := by kernel_rfl
theorem typeOfE(v:Value)(w:World):(ReflectliteType.typeOf #[.iface 59 v]).run Tryz.prog w = .ok (.iface 252 (.agg #[.pointer (some ⟨9,59,none⟩)])) w:=by kernel_rfl
theorem assignableE (w : World) : (ReflectliteType.relation "AssignableTo" ReflectliteType.assignableTo #[.agg #[.pointer (some ⟨9, 59, none⟩)], .iface 252 (.agg #[.pointer (some ⟨9, 59, none⟩)])]).run Tryz.prog w = .ok (.bool true) w := by kernel_rfl
theorem valueOfE(n:Int)(w:World):(ReflectliteValue.unpack (.iface 59 (.int .i64 n))).run Tryz.prog w
  = .ok (.agg #[.pointer (some ⟨9,59,none⟩),.pointer (some ⟨w.heap.size,0,none⟩),.int .u64 130]) (w.alloc (.cells #[.int .i64 n] 59)):=by kernel_rfl
theorem elemOfP(w:World):(Rtype.elem? 120).run Tryz.prog w = .ok (some 59) w:=by kernel_rfl
theorem mkE(p:Addr)(w:World):(ReflectliteValue.mk 59 p ReflectliteValue.flagAddr).run Tryz.prog w = .ok (.agg #[.pointer (some ⟨9,59,none⟩),.pointer (some p),.int .u64 386]) w:=by kernel_rfl
theorem elemV(a p:Addr)(W:World)(ha:W.cell? a=some (.pointer (some p))) :
  (ReflectliteValue.method (ReflectliteValue.valueError "reflectlite.Value.Elem" 0) ReflectliteValue.elem #[.agg #[.pointer (some ⟨9, 120, none⟩), .pointer (some a), .int .u64 150]]).run Tryz.prog W
   = .ok (.agg #[.pointer (some ⟨9,59,none⟩),.pointer (some p),.int .u64 386]) W:=by
 refine(congrArg (fun s=>Sem.run Tryz.prog s W) (show ReflectliteValue.method _ _ _=(ReflectliteValue.parts (.agg #[.pointer (some ⟨9,120,none⟩),.pointer (some a),.int .u64 150]) >>= _) from rfl)).trans ?_
 simp only[Sem.run_bind,partsP,Result.andThen]
 simp[ReflectliteValue.elem,loadVar,isAgg,underlying,Tryz.underlying120,ha,Result.andThen,elemOfP,mkE]
theorem partsEa(a:Addr)(w:World):(ReflectliteValue.parts (.agg #[.pointer (some ⟨9,59,none⟩),.pointer (some a),.int .u64 386])).run Tryz.prog w = .ok (some (59,a,386)) w:=by kernel_rfl
theorem partsE(a:Addr)(w:World):(ReflectliteValue.parts (.agg #[.pointer (some ⟨9,59,none⟩),.pointer (some a),.int .u64 130])).run Tryz.prog w = .ok (some (59,a,130)) w:=by kernel_rfl
theorem directE(w:World):(Rtype.directlyAssignable 59 59).run Tryz.prog w = .ok true w:=by kernel_rfl
theorem setE(ta b:Addr)(n:Int)(old:Value)(W:World)(hb:W.cell? b=some (.int .i64 n))(ht:W.cell? ta=some old)(hf:W.frozen? ta=false) :
  (ReflectliteValue.set #[.agg #[.pointer (some ⟨9,59,none⟩),.pointer (some ta),.int .u64 386],.agg #[.pointer (some ⟨9,59,none⟩),.pointer (some b),.int .u64 130]]).run Tryz.prog W
   = .ok (.tuple #[]) (W.setCell ta (.int .i64 n)):=by
 refine(congrArg (fun s=>Sem.run Tryz.prog s W) (show ReflectliteValue.set _=(ReflectliteValue.parts (.agg #[.pointer (some ⟨9,59,none⟩),.pointer (some ta),.int .u64 386]) >>= fun _=>ReflectliteValue.parts (.agg #[.pointer (some ⟨9,59,none⟩),.pointer (some b),.int .u64 130]) >>= _) from rfl)).trans ?_
 simp only[Sem.run_bind,partsEa,partsE,Result.andThen]
 simp[ReflectliteValue.flagAddr,loadVar,isAgg,underlying,Tryz.underlying59,hb,Result.andThen,directE,storeVar,Value.cells,storeCells,Addr.add]
 rw[run_store Tryz.prog W ta _ _ (by rfl)]
 simp[ht,hf]
theorem as_hit(n:Int)(t:Addr)(old:Value)(w:World)(hg:w.cell? ⟨0,0,none⟩=some (.iface 252 (.agg #[.pointer (some ⟨9,47,none⟩)])))(ht0:w.cell? t=some old)(hf0:w.frozen? t=false) :
  Calls Tryz.prog 55 #[.iface 59 (.int .i64 n),.iface 120 (.pointer (some t))] w fun ev w'=>ev = .returned (.bool true)∧w'=((((w.alloc (.cells #[.pointer (some t)] 120)).alloc (.cells #[.pointer (some ⟨9,120,none⟩),.pointer (some ⟨w.heap.size,0,none⟩),.int .u64 150] 187)).alloc (.cells #[.pointer (some ⟨9,120,none⟩),.pointer (some ⟨w.heap.size,0,none⟩),.int .u64 150] 187)).alloc (.cells #[.int .i64 n] 59)).setCell t (.int .i64 n):=by
 have h6:=@run_callFunc_extern Tryz.prog 118 _ (fun args=>ReflectliteValue.unpack (args.getD 0 (.tuple #[]))) Tryz.func118 (by kernel_rfl) (by kernel_rfl) (by kernel_rfl) (by kernel_rfl)
 have h7 := @run_callFunc_extern Tryz.prog 119 _ (ReflectliteValue.methodAny (ReflectliteValue.valueError "reflectlite.Value.Type" 0) (fun t _ _ _ => ReflectliteType.toType t)) Tryz.func119 (by kernel_rfl) (by kernel_rfl) (by kernel_rfl) (by kernel_rfl)
 have h8 := @run_callFunc_extern Tryz.prog 120 _ (ReflectliteValue.method (ReflectliteValue.valueError "reflectlite.Value.IsNil" 0) ReflectliteValue.isNil) Tryz.func120 (by kernel_rfl) (by kernel_rfl) (by kernel_rfl) (by kernel_rfl)
 have h27:=@run_callFunc_extern Tryz.prog 317 _ (ReflectliteType.abiMethod fun t=>do pure (.int .u8 (← Rtype.kind t))) Tryz.func317 (by kernel_rfl) (by kernel_rfl) (by kernel_rfl) (by kernel_rfl)
 have h37:=@run_callFunc_extern Tryz.prog 330 _ (ReflectliteType.method ReflectliteType.elem) Tryz.func330 (by kernel_rfl) (by kernel_rfl) (by kernel_rfl) (by kernel_rfl)
 have h38 := @run_callFunc_extern Tryz.prog 331 _ (ReflectliteType.relation "Implements" ReflectliteType.implements_) Tryz.func331 (by kernel_rfl) (by kernel_rfl) (by kernel_rfl) (by kernel_rfl)
 have h10:=@run_callFunc_extern Tryz.prog 169 _ ReflectliteType.typeOf Tryz.func169 (by kernel_rfl) (by kernel_rfl) (by kernel_rfl) (by kernel_rfl)
 have h35 := @run_callFunc_extern Tryz.prog 328 _ (ReflectliteType.relation "AssignableTo" ReflectliteType.assignableTo) Tryz.func328 (by kernel_rfl) (by kernel_rfl) (by kernel_rfl) (by kernel_rfl)
 have h11 := @run_callFunc_extern Tryz.prog 170 _ (ReflectliteValue.method (ReflectliteValue.valueError "reflectlite.Value.Elem" 0) ReflectliteValue.elem) Tryz.func170 (by kernel_rfl) (by kernel_rfl) (by kernel_rfl) (by kernel_rfl)
 have h12:=@run_callFunc_extern Tryz.prog 171 _ ReflectliteValue.set Tryz.func171 (by kernel_rfl) (by kernel_rfl) (by kernel_rfl) (by kernel_rfl)
 have tO:=typeOfE
 have mA:=methodAssignableTo
 have a25:=assignableE
 have v25:=valueOfE
 have f6:=valueOfP
 have f7:=typeP
 have mK:=methodKind
 have mE:=methodElem
 have mI:=methodImplements
 have k27:=kindP
 have k25:=kindE
 have e27:=elemP
 have i25:=implementsE
 have n8:=isNilP ⟨w.heap.size,0,none⟩ t ((w.alloc (.cells #[.pointer (some t)] 120)).alloc (.cells #[.pointer (some ⟨9,120,none⟩),.pointer (some ⟨w.heap.size,0,none⟩),.int .u64 150] 187)) (by simp)
 have hlt:0<w.heap.size:=by
  rcases Nat.lt_or_ge 0 w.heap.size with h|h
  ·exact h
  ·simp[World.cell?,Array.getElem?_eq_none h] at hg
 have hg2:((w.alloc (.cells #[.pointer (some t)] 120)).alloc (.cells #[.pointer (some ⟨9,120,none⟩),.pointer (some ⟨w.heap.size,0,none⟩),.int .u64 150] 187)).cell? ⟨0,0,none⟩=some (.iface 252 (.agg #[.pointer (some ⟨9,47,none⟩)])):=by
  rw[World.cell?_alloc_lt _ _ ⟨0,0,none⟩ (by first|(simp;done)|(simp;omega)),World.cell?_alloc_lt _ _ ⟨0,0,none⟩ hlt];exact hg
 have htl:t.block<w.heap.size:=by
  rcases Nat.lt_or_ge t.block w.heap.size with h|h
  ·exact h
  ·simp[World.cell?,Array.getElem?_eq_none h] at ht0
 have el:=elemV ⟨w.heap.size,0,none⟩ t (((w.alloc (.cells #[.pointer (some t)] 120)).alloc (.cells #[.pointer (some ⟨9,120,none⟩),.pointer (some ⟨w.heap.size,0,none⟩),.int .u64 150] 187)).alloc (.cells #[.pointer (some ⟨9,120,none⟩),.pointer (some ⟨w.heap.size,0,none⟩),.int .u64 150] 187)) (by rw[World.cell?_alloc_lt _ _ ⟨w.heap.size,0,none⟩ (by simp;omega)];simp)
 have st:=setE t ⟨w.heap.size+1+1+1,0,none⟩ n old ((((w.alloc (.cells #[.pointer (some t)] 120)).alloc (.cells #[.pointer (some ⟨9,120,none⟩),.pointer (some ⟨w.heap.size,0,none⟩),.int .u64 150] 187)).alloc (.cells #[.pointer (some ⟨9,120,none⟩),.pointer (some ⟨w.heap.size,0,none⟩),.int .u64 150] 187)).alloc (.cells #[.int .i64 n] 59))
  (by rw[World.cell?_alloc_at _ _ _ _ (by simp)];rfl)
  (by rw[World.cell?_alloc_lt _ _ t (by simp;omega),World.cell?_alloc_lt _ _ t (by simp;omega),World.cell?_alloc_lt _ _ t (by simp;omega),World.cell?_alloc_lt _ _ t htl];exact ht0)
  (by rw[World.frozen?_alloc_old _ _ t (by simp;omega),World.frozen?_alloc_old _ _ t (by simp;omega),World.frozen?_alloc_old _ _ t (by simp;omega),World.frozen?_alloc_old _ _ t (Nat.ne_of_lt htl)];exact hf0)
 go_enter Tryz.func55,Tryz.ntmps55
 go_wp2
 refine wp_loop_rounds 1 ?_
 rw[rounds_succ]
 go_wp2
 go_ret
 exact⟨rfl,rfl⟩
theorem tell_errno(n:Int)(w:World)(hg:Laid w):Calls Tryz.prog 21 #[.iface 59 (.int .i64 n)] w fun e w'=>e = .returned (.int .i64 n)∧Below w.heap.size w w':=by
 unfold Laid at hg
 have hlt:0<w.heap.size:=by
  rcases Nat.lt_or_ge 0 w.heap.size with h|h
  ·exact h
  ·simp[World.cell?,Array.getElem?_eq_none h] at hg
 have hgA:(w.alloc (.cells #[.int .i64 0] 59)).cell? ⟨0,0,none⟩=some (.iface 252 (.agg #[.pointer (some ⟨9,47,none⟩)])):=by
  rw[World.cell?_alloc_lt _ _ ⟨0,0,none⟩ hlt];exact hg
 have htA:(w.alloc (.cells #[.int .i64 0] 59)).cell? ⟨w.heap.size,0,none⟩=some (.int .i64 0):=by simp
 have hfA:(w.alloc (.cells #[.int .i64 0] 59)).frozen? ⟨w.heap.size,0,none⟩=false:=by simp
 go_enter Tryz.func21,Tryz.ntmps21
 go_wp2_with (go_at_call 55;refine(as_hit n _ (.int .i64 0) _ hgA htA hfA).mono ?_;rintro e w' ⟨rfl,rfl⟩)
 go_ret
 refine⟨rfl,?_⟩
 exact(((((Below.refl _ _).alloc (Nat.le_refl _) _).alloc (by first|(simp;done)|(simp;omega)) _).alloc (by first|(simp;done)|(simp;omega)) _).alloc (by first|(simp;done)|(simp;omega)) _).alloc (by first|(simp;done)|(simp;omega)) _
theorem Laid.below{B:Nat}{w w':World}(h:Laid w)(hb:Below B w w')(hB:0<B):Laid w':=(hb.cell (p:=⟨0,0,none⟩) hB).trans h
theorem Laid.size{w:World}(h:Laid w):0<w.heap.size:=by
 unfold Laid at h
 rcases Nat.lt_or_ge 0 w.heap.size with h'|h'
 ·exact h'
 ·simp[World.cell?,Array.getElem?_eq_none h'] at h
end Bare
end
section
namespace Num
def inB(n l h:Int):Bool:=decide (l≤n∧n≤h)
theorem inB_true{n l h:Int}(h1:l≤n)(h2:n≤h):inB n l h=true:=by simp[inB,h1,h2]
theorem inB_below{n l h:Int}(h1:n<l):inB n l h=false:=by simp[inB];omega
theorem inB_above{n l h:Int}(h1:h<n):inB n l h=false:=by simp[inB];omega
theorem of_inB_true{n l h:Int}(h1:inB n l h=true):l≤n∧n≤h:=by simpa[inB] using h1
def nbF:Nat→Nat→List Int
 | 0,n=>[(n:Int)]
 | f+1,n=>if n<128 then [(n:Int)] else ((n % 128+128:Nat):Int) :: nbF f (n / 128)
def nb(n:Nat):List Int:=nbF n n
theorem nbF_same:∀ (f g n:Nat),n≤f→n≤g→nbF f n=nbF g n:=by
 intro f
 induction f with
 | zero=>
  intro g n hf _
  cases g with
  | zero=>rfl
  | succ g=>rw[nbF,nbF,if_pos (by omega)]
 | succ f ih=>
  intro g n hf hg
  cases g with
  | zero=>rw[nbF,nbF,if_pos (by omega)]
  | succ g=>
   rw[nbF,nbF]
   by_cases h:n<128
   ·rw[if_pos h,if_pos h]
   ·rw[if_neg h,if_neg h,ih g (n / 128) (by omega) (by omega)]
theorem nb_lt{n:Nat}(h:n<128):nb n = [(n:Int)]:=by
 unfold nb
 cases n with
 | zero=>rfl
 | succ k=>rw[nbF,if_pos h]
theorem nb_ge{n:Nat}(h:¬ n<128):nb n=((n % 128+128:Nat):Int) :: nb (n / 128):=by
 unfold nb
 cases n with
 | zero=>exact absurd (by omega) h
 | succ k=>
  rw[nbF,if_neg h]
  rw[nbF_same k ((k+1) / 128) ((k+1) / 128) (by omega) (by omega)]
theorem nb_length(f:Nat):∀ n:Nat,n<128 ^ (f+1)→(nb n).length≤f+1:=by
 induction f with
 | zero=>intro n h;rw[nb_lt (by simpa using h)];simp
 | succ f ih=>
  intro n h
  by_cases h1:n<128
  ·rw[nb_lt h1];simp
  ·rw[nb_ge h1,List.length_cons]
   have:=ih (n / 128) (by rw[Nat.div_lt_iff_lt_mul (by omega)];rw[Nat.pow_succ] at h;exact h)
   omega
theorem nb_pos(n:Nat):0<(nb n).length:=by
 by_cases h:n<128
 ·rw[nb_lt h];simp
 ·rw[nb_ge h];simp
theorem nb_byte(f:Nat):∀ n:Nat,n<128 ^ (f+1)→∀ x∈nb n,0≤x∧x<256:=by
 induction f with
 | zero=>
      intro n h x hx;have h':n<128:=by simpa using h
      rw[nb_lt h'] at hx;simp at hx;omega
 | succ f ih=>
  intro n h x hx
  by_cases h1:n<128
  ·rw[nb_lt h1] at hx;simp at hx;omega
  ·rw[nb_ge h1,List.mem_cons] at hx
   rcases hx with rfl|hx
   ·omega
   ·exact ih (n / 128) (by rw[Nat.div_lt_iff_lt_mul (by omega)];rw[Nat.pow_succ] at h;exact h) x hx
def ints(d:ByteArray):List Int:=d.data.toList.map fun b=>((b.toNat:Nat):Int)
theorem ints_length(d:ByteArray):(ints d).length=d.size:=by unfold ints;rw[List.length_map];rfl
theorem ints_byte(d:ByteArray):∀ x∈ints d,0≤x∧x<256:=by
 intro x hx
 simp only[ints,List.mem_map] at hx
 obtain⟨b,_,rfl⟩:=hx
 have:=b.toNat_lt
 omega
structure M where
 k:Int
 c:Int
 n:Int
 e:Int
 s:Int
 o:Int
 v:Int
 l:Bool
 d:ByteArray
def M.nums(m:M):List Int:=[m.k,m.c,m.n,m.e,m.s,m.o,m.v]
def numB(n:Int):Bool:=inB n 0 1099511627776
def okB(m:M):Bool:=inB m.k 1 9&&decide (m.d.size≤20)&&m.nums.all numB
def body(ns:List Int):List Int:=ns.flatMap fun n=>nb n.toNat
def leaseN(l:Bool):Int:=if l then 1 else 0
def M.bytes(m:M):List Int:=body m.nums++[leaseN m.l,(m.d.size:Int)]++ints m.d
theorem body_snoc(ns:List Int)(n:Int):body (ns++[n])=body ns++nb n.toNat:=by simp[body]
theorem nb_small{n:Int}(h:numB n=true):(nb n.toNat).length≤6∧∀ x∈nb n.toNat,0≤x∧x<256:=by
 have:=of_inB_true h
 have h2:n.toNat<128 ^ (5+1):=by
                     have:(128:Nat) ^ (5+1)=4398046511104:=by decide
                     omega
 exact⟨nb_length 5 _ h2,nb_byte 5 _ h2⟩
theorem body_small:∀ ns:List Int,ns.all numB=true→(body ns).length≤6*ns.length∧∀ x∈body ns,0≤x∧x<256
 | [],_=>by simp[body]
 | n :: ns,h=>by
  simp only[List.all_cons,Bool.and_eq_true] at h
  have h1:=nb_small h.1
  have h2:=body_small ns h.2
  have e:body (n :: ns)=nb n.toNat++body ns:=by simp[body]
  rw[e]
  refine⟨by simp only[List.length_append,List.length_cons];omega,fun x hx=>?_⟩
  rcases List.mem_append.1 hx with hx|hx
  ·exact h1.2 x hx
  ·exact h2.2 x hx
end Num
end
section
namespace Lease
open Go.Maps
theorem laidOut:laidOutB Tryz.prog=true:=by kernel_rfl
theorem wideP:(match Tryz.prog.underlying 335 with|some (.array _ _)|some (.struct _)=>true|_=>false)=true:=by kernel_rfl
theorem rowP:(335:TypeId)<Tryz.prog.types.size:=of_decide_eq_true (by kernel_rfl)
theorem typ3P:Tryz.prog.keyTypeAt 3 335=true:=by kernel_rfl
theorem lawP:WideMaps.KeyLaw Tryz.prog 335:=deep_law_laid laidOut (m:=3) (by omega) rowP typ3P wideP
theorem keyedP:Keyed Tryz.prog 335:=Keyed.of_law lawP
theorem keyedI:Keyed Tryz.prog 3:=int_keyed Tryz.underlying3
theorem zeroI(w:World):(zeroValue 3).run Tryz.prog w = .ok (.int .i64 0) w:=by kernel_rfl
def I64(x:Int):Prop:=-9223372036854775808≤x∧x≤9223372036854775807
theorem I64.wf{x:Int}(h:I64 x):(Lit.int .i64 x).wf=true:=by
 obtain⟨h1,h2⟩:=h
 simp only[Lit.wf,IntKind.min,IntKind.max,IntKind.signed,IntKind.bits,Bool.and_eq_true,decide_eq_true_eq,if_true]
 exact⟨by simpa using h1,by simp;omega⟩
theorem I64.of_wf{x:Int}(h:(Lit.int .i64 x).wf=true):I64 x:=by
 simp only[Lit.wf,IntKind.min,IntKind.max,IntKind.signed,IntKind.bits,Bool.and_eq_true,decide_eq_true_eq,if_true] at h
 obtain⟨h1,h2⟩:=h
 simp at h1 h2
 exact⟨by omega,by omega⟩
def kk(c o:Int):Lit:=.string (keyBytes [.int .i64 c,.int .i64 o])
theorem sizeT:Tryz.prog.types.size=404:=by kernel_rfl
theorem cellsP:Tryz.prog.cellsOf 335=2:=by kernel_rfl
theorem cellsI:Tryz.prog.cellsOf 3=1:=by kernel_rfl
theorem typP:Tryz.prog.keyType 335=true:=by kernel_rfl
theorem lits1(d:Nat){x:Int}(h:I64 x):Tryz.prog.keyLits (d+1) 3 [.int .i64 x]=some [.int .i64 x]:=by
 unfold Program.keyLits
 simp[Tryz.underlying3,h.wf]
theorem keyP{c o:Int}(hc:I64 c)(ho:I64 o):keyOf Tryz.prog 335 (.agg #[.int .i64 c,.int .i64 o])=some (kk c o):=by
 have hl:Tryz.prog.keyLits (Tryz.prog.types.size+1) 335 (Value.agg #[.int .i64 c,.int .i64 o]).cells.toList=some [.int .i64 c,.int .i64 o]:=by
  rw[sizeT]
  unfold Program.keyLits
  simp[Tryz.underlying335,Value.cells,cellsP,cellsI,lits1 _ hc,lits1 _ ho]
 have hf:(Value.agg #[.int .i64 c,.int .i64 o]).formed Tryz.prog 335=true:=by simp[Value.formed,Tryz.underlying335,cellsP]
 unfold keyOf
 rw[Tryz.underlying335]
 simp only[typP,hf,Bool.and_self,if_true,hl,Option.map_some]
 rfl
theorem keyI{c:Int}(hc:I64 c):keyOf Tryz.prog 3 (.int .i64 c)=some (.int .i64 c):=keyOf_int_mk Tryz.underlying3 hc.wf
abbrev Dat:=DataW Unit
abbrev num (x:Int):Dat:=.lit (.int .i64 x)
def dels(D:Dat)(c:Int):Nat→Dat
 | 0=>D
 | n+1=>(dels D c n).del (kk c n)
def upd(v:Int→Int)(c x:Int):Int→Int:=fun y=>if y=c then x else v y
theorem upd_same(v:Int→Int)(c x:Int):upd v c x c=x:=by simp[upd]
theorem upd_other{v:Int→Int}{c x y:Int}(h:y≠c):upd v c x y=v y:=by simp[upd,h]
end Lease
end
section
namespace Gen
open Go
section
variable {P:Program} {ops:Array Oper} {Q:Exit→Act→World→Prop} {md:Region.Mode} {S:World→Prop}
def Open(listed:Array Bool):Prop:=∃ k,listed.getD k true=false
def anyM(P:Program)(md:Region.Mode)(ops:Array Oper)(Q:Exit→Act→World→Prop)(S:World→Prop):Nat→Array Bool→Act→World→Prop
 | 0,listed,a,w=>Region.ready md ops listed = []∧Q .normal a w
 | fuel+1,listed,a,w=>
  (Region.ready md ops listed = []→Q .normal a w) ∧
  ∀ i∈Region.ready md ops listed,wpOp P ops Q i (fun a' w'=>(Open (listed.setIfInBounds i true)→S w')∧anyM P md ops Q S fuel (listed.setIfInBounds i true) a' w') a w
theorem any_of:∀ (fuel:Nat) (listed:Array Bool) (a:Act) (w:World),anyM P md ops Q S fuel listed a w→wpAny P md ops Q fuel listed a w
 | 0,_,_,_,h=>h
 | fuel+1,_,_,_,h=>⟨h.1,fun i hi=>wpOp_mono (fun a' w' h'=>any_of fuel _ a' w' h'.2) (h.2 i hi)⟩
theorem anyM_first{i k:Nat}{oi ok:Oper}{v:Value}(hi:ops[i]?=some oi)(hk:ops[k]?=some ok)(hkw:∃ e∈ok.after,Region.binds md e=true∧e.on=i)(hsel:∀ (j:Nat) (o:Oper) cs b,ops[j]?=some o→o.op≠.select cs b)
  (hQ:∀ c a w,Q (.panic c) (a.put oi.dst v) w→Q (.panic c) a w) :
  ∀ (fuel:Nat) (listed:Array Bool) (a:Act) (w:World),
   (∀ j oj,ops[j]?=some oj→j≠i→listed.getD j true=false→(∀ e∈oj.after,Region.binds md e=true→e.on≠i)→oi.apart ops oj=true) →
   i∈Region.ready md ops listed→listed.getD k true=false→i≠k→YieldsIf P ops S oi v a→S w →
   anyM P md ops Q S fuel (listed.setIfInBounds i true) (a.put oi.dst v) w→anyM P md ops Q S (fuel+1) listed a w:=by
 intro fuel
 induction fuel with
 | zero=>
  intro listed a w _ hr _ _ hy hS H
  refine⟨fun h=>(by rw[h] at hr;cases hr),fun j hj=>?_⟩
  by_cases hji:j=i
  ·subst hji;exact hy.wpOp hi hS ⟨fun _=>hS,H⟩
  ·have:=ready_mono hj hji
   rw[H.1] at this
   cases this
 | succ fuel ih=>
  intro listed a w hfree hr hun hik hy hS H
  refine⟨fun h=>(by rw[h] at hr;cases hr),fun j hj=>?_⟩
  by_cases hji:j=i
  ·subst hji;exact hy.wpOp hi hS ⟨fun _=>hS,H⟩
  ·have h1:=H.2 j (ready_mono hj hji)
   obtain⟨hjun,oj,hoj,hall⟩:=mem_ready.1 hj
   have hnot:∀ e∈oj.after,Region.binds md e=true→e.on≠i:=fun e he hb heq=>by
    have h1:=hall e he hb
    have h0:=(mem_ready.1 hr).1
    rw[heq] at h1
    rcases Nat.lt_or_ge i listed.size with h'|h'
    ·simp[h'] at h0 h1;rw[h0] at h1;cases h1
    ·simp[Array.getElem?_eq_none h'] at h1
   have hjk:j≠k:=fun e=>by
    subst e
    obtain⟨e,he,hb,ho⟩:=hkw
    rw[hoj] at hk
    obtain rfl:=Option.some.inj hk
    exact hnot e he hb ho
   have hopen:Open ((listed.setIfInBounds i true).setIfInBounds j true):=⟨k,by rw[getD_set_ne true hjk,getD_set_ne true hik];exact hun⟩
   have h2:=wpOp_putIf hoj (hfree j oj hoj hji hjun hnot) (fun cs b=>hsel i oi cs b hi) (fun cs b=>hsel j oj cs b hoj) hQ hy h1
   have hfree':∀ k ok,ops[k]?=some ok→k≠i→(listed.setIfInBounds j true).getD k true=false →
     (∀ e∈ok.after,Region.binds md e=true→e.on≠i)→oi.apart ops ok=true:=fun k ok hk hki hun hno=>by
    refine hfree k ok hk hki ?_ hno
    by_cases hjk:j=k
    ·subst hjk;exact hjun
    ·rw[getD_set_ne true hjk] at hun;exact hun
   refine wpOp_mono (fun a' w' h3=>⟨fun _=>h3.2.1 hopen,ih (listed.setIfInBounds j true) a' w' hfree' (ready_mono hr (Ne.symm hji)) (by rw[getD_set_ne true hjk];exact hun) hik h3.1 (h3.2.1 hopen) ?_⟩) h2
   rw[Array.setIfInBounds_comm _ _ hji]
   exact h3.2.2
def waits(md:Region.Mode)(ops:Array Oper)(k i:Nat):Bool:=((ops[k]?).map fun o=>o.after.any fun e=>Region.binds md e&&e.on == i).getD false
theorem waits_spec{k i:Nat}(h:waits md ops k i=true):∃ ok,ops[k]?=some ok∧∃ e∈ok.after,Region.binds md e=true∧e.on=i:=by
 unfold waits at h
 cases hk:ops[k]? with
 | none=>simp[hk] at h
 | some o=>
  simp[hk] at h
  obtain⟨x,hx,h1,h2⟩:=h
  exact⟨o,rfl,_,Array.getElem_mem hx,h1,h2⟩
theorem take{i k:Nat}{oi:Oper}{d:Option Tmp}{op:Op}{ty:TypeId}{ps:String}{af:Array Edge}{gd:Option (Nat×Bool)}{v:Value}{fuel:Nat}{listed:Array Bool}{a:Act}{w:World}(hi:ops[i]?=some oi)(he:oi=⟨d,op,ty,ps,af,gd⟩)
  (hk:waits md ops k i=true) (hun:listed.getD k true=false) (hik:(i == k)=false)
  (hs:Region.noSelect ops=true) (hf:Region.free md ops listed i=true) (hr:(Region.ready md ops listed).contains i=true)
  (hQ:∀ c a w,Q (.panic c) (a.put d v) w→Q (.panic c) a w) (hy:YieldsIf P ops S ⟨d,op,ty,ps,af,gd⟩ v a) (hS:S w)
  (h:anyM P md ops Q S fuel (listed.setIfInBounds i true) (a.put d v) w):anyM P md ops Q S (fuel+1) listed a w:=by
 subst he
 obtain⟨ok,hok,hw⟩:=waits_spec hk
 exact anyM_first hi hok hw (Region.noSelect_spec hs) hQ fuel listed a w (Region.free_spec hi hf) (by simpa using hr) hun (by simpa using hik) hy hS h
theorem tk(i k:Nat){oi:Oper}{d:Option Tmp}{op:Op}{ty:TypeId}{ps:String}{af:Array Edge}{gd:Option (Nat×Bool)}(v:Value){fuel:Nat}{listed:Array Bool}{a:Act}{w:World}(hi:ops[i]?=some oi)(he:oi=⟨d,op,ty,ps,af,gd⟩)
  (hy:YieldsIf P ops S ⟨d,op,ty,ps,af,gd⟩ v a) (hS:S w) (h:anyM P md ops Q S fuel (listed.setIfInBounds i true) (a.put d v) w)
  (hk:waits md ops k i=true:=by kernel_rfl) (hun:listed.getD k true=false:=by kernel_rfl) (hik:(i == k)=false:=by kernel_rfl)
  (hs:Region.noSelect ops=true:=by kernel_rfl) (hf:Region.free md ops listed i=true:=by kernel_rfl) (hr:(Region.ready md ops listed).contains i=true:=by kernel_rfl)
  (hQ:∀ c a w,Q (.panic c) (a.put d v) w→Q (.panic c) a w:=by exact fun _ _ _ h=>h):anyM P md ops Q S (fuel+1) listed a w:=
 take hi he hk hun hik hs hf hr hQ hy hS h

theorem one{i:Nat}{o:Oper}{d:Option Tmp}{op:Op}{ty:TypeId}{ps:String}{af:Array Edge}{fuel:Nat}{listed:Array Bool}{a:Act}{w:World}(hr:Region.ready md ops listed = [i])(ho:ops[i]?=some o)(hoe:o=⟨d,op,ty,ps,af,none⟩)
  (h:∀ K:Act→World→Prop,Shut (∀ a w,S w→(S w→anyM P md ops Q S fuel (listed.setIfInBounds i true) a w)→K a w)→Oper.wp P ⟨d,op,ty,ps,af,none⟩ a w K Q):anyM P md ops Q S (fuel+1) listed a w:=by
 subst hoe
 refine⟨fun h0=>(by rw[hr] at h0;cases h0),fun j hj=>?_⟩
 rw[hr] at hj
 obtain rfl:=List.mem_singleton.1 hj
 unfold wpOp
 simp only[ho,Region.wanted,if_true]
 exact .inl (h _ (fun a w hS hW=>⟨fun _=>hS,hW hS⟩))
theorem last{i:Nat}{o:Oper}{d:Option Tmp}{op:Op}{ty:TypeId}{ps:String}{af:Array Edge}{fuel:Nat}{listed:Array Bool}{a:Act}{w:World}(hr:Region.ready md ops listed = [i])(ho:ops[i]?=some o)(hoe:o=⟨d,op,ty,ps,af,none⟩)(hd:(listed.setIfInBounds i true).toList.all id=true)(he:Region.ready md ops (listed.setIfInBounds i true) = [])
  (h:∀ K:Act→World→Prop,Shut (∀ a w,Q .normal a w→K a w)→Oper.wp P ⟨d,op,ty,ps,af,none⟩ a w K Q):anyM P md ops Q S (fuel+1) listed a w:=by
 subst hoe
 refine⟨fun h0=>(by rw[hr] at h0;cases h0),fun j hj=>?_⟩
 rw[hr] at hj
 obtain rfl:=List.mem_singleton.1 hj
 unfold wpOp
 simp only[ho,Region.wanted,if_true]
 refine .inl (h _ (fun a w hQ=>⟨fun ⟨k,hk⟩=>?_,?_⟩))
 ·exfalso
  rw[Array.getD_eq_getD_getElem?] at hk
  cases hx:(listed.setIfInBounds j true)[k]? with
  | none=>simp[hx] at hk
  | some b=>
   rw[hx] at hk
   have:=List.all_eq_true.1 hd b (by rw[← Array.getElem?_toList] at hx;exact List.mem_of_getElem? hx)
   simp at hk this
   rw[hk] at this
   cases this
 ·cases fuel with
  | zero=>exact⟨he,hQ⟩
  | succ f=>exact⟨fun _=>hQ,by rw[he];simp⟩
theorem start{id:Nat}{a:Act}{w:World}(hm:P.follows .mixedOrders=true)(hS:S w.drew)
  (h:S w.drew→anyM P .any ops Q S ops.size (Array.replicate ops.size false) a w.drew):(Code.region id ops true).wp P Q a w:=
 wp_region_any hm (any_of _ _ _ _ (h hS))
end
end Gen
end
section
namespace Lease
open Go.RowKit Go.Maps
open Num (inB)
structure Ob(bs:List Nat)(w w':World):Prop where
 os:w'.os=w.os
 tape:w'.tape=w.tape
 output:w'.output=w.output
 size:w.heap.size≤w'.heap.size
 block:∀ k,k<w.heap.size→k∉bs→w'.heap[k]?=w.heap[k]?
theorem Ob.refl(bs:List Nat)(w:World):Ob bs w w:=⟨rfl,rfl,rfl,Nat.le_refl _,fun _ _ _=>rfl⟩
theorem Ob.trans{bs:List Nat}{a b c:World}(h:Ob bs a b)(k:Ob bs b c):Ob bs a c:=
 ⟨k.os.trans h.os,k.tape.trans h.tape,k.output.trans h.output,Nat.le_trans h.size k.size,fun i hi hq=>by rw[k.block i (Nat.lt_of_lt_of_le hi h.size) hq,h.block i hi hq]⟩
theorem Ob.mono{bs cs:List Nat}{a b:World}(h:Ob bs a b)(hs:∀ k∈bs,k∈cs):Ob cs a b:=⟨h.os,h.tape,h.output,h.size,fun k hk hc=>h.block k hk fun hb=>hc (hs k hb)⟩
theorem Ob.of_below{bs:List Nat}{a b:World}(h:Below a.heap.size a b):Ob bs a b:=⟨h.os,h.tape,h.output,h.size,fun k hk _=>h.block k hk⟩
theorem Ob.setCell{bs:List Nat}{q i:Nat}{a b:World}(h:Ob bs a b)(hq:q∈bs)(u:Value):Ob bs a (b.setCell ⟨q,i,none⟩ u):=
 h.trans ⟨rfl,rfl,rfl,by simp,fun k _ hk=>Below.heap_setCell b ⟨q,i,none⟩ u k (fun e=>hk (by rw[e];exact hq))⟩
theorem Ob.drew{bs:List Nat}{a b:World}(h:Ob bs a b):Ob bs a b.drew:=⟨h.os,h.tape,h.output,h.size,h.block⟩
theorem Ob.alloc{bs:List Nat}{a b:World}(h:Ob bs a b)(o:Obj):Ob bs a (b.alloc o):=h.trans (Ob.of_below ((Below.refl _ _).alloc (Nat.le_refl _) o))
theorem Ob.turned{bs:List Nat}{q:Nat}{a b c:World}(h:Ob bs a b)(ht:b.mapTurned c q)(hq:q∈bs):Ob bs a c:=by
 have g:=ht.grown
 exact h.trans ⟨g.os,g.tape,g.output,g.size,fun k hk hn=>g.block k hk (fun e=>hn (by injection e with e;rw[e];exact hq))⟩
theorem map_block{H:Type}{P:Program}{k:TypeId}{R:Value→Option (DataW H×List MemPlace)}{w w':World}{b n:Nat}{D:DataW H}(h:w.ownsMap P k R b n D)(hb:w'.heap[b]?=w.heap[b]?):w'.ownsMap P k R b n D:=by
 obtain⟨es,clock,h1,r⟩:=h
 exact⟨es,clock,hb.trans h1,r⟩
theorem map_ne{H:Type}{P:Program}{k:TypeId}{R:Value→Option (DataW H×List MemPlace)}{w:World}{b n t i:Nat}{D:DataW H}{u:Value}(h:w.ownsMap P k R b n D)(hc:w.cell? ⟨t,i,none⟩=some u):t≠b:=by
 rintro rfl
 obtain⟨es,clock,h1,r⟩:=h
 simp[World.cell?,h1] at hc
structure TabIs(w:World)(t m:Nat)(D:Dat)(v s:Int→Int)(n:Nat):Prop where
 obj:w.cell? ⟨t,0,none⟩=some (.map (some m))
 vol:∀ i:Nat,i<4→w.cell? ⟨t,1+i,none⟩=some (.int .i64 (v i))
 ses:∀ i:Nat,i<4→w.cell? ⟨t,5+i,none⟩=some (.int .i64 (s i))
 free:∀ i,w.frozen? ⟨t,i,none⟩=false
 own:w.ownsMap Tryz.prog 335 (plainElem Tryz.prog 3) m n D
 i64:∀ i:Int,I64 (v i)∧I64 (s i)
 typ:∃ cs f,w.heap[t]?=some (.cells cs 301 f)
theorem typ_stored{w:World}{u i:Nat}{v:Value}{t:TypeId}(h:∃ cs f,w.heap[u]?=some (.cells cs t f)):∃ cs f,(w.setCell ⟨u,i,none⟩ v).heap[u]?=some (.cells cs t f):=by
 obtain⟨cs,f,h⟩:=h
 refine⟨cs.setIfInBounds i v,f,?_⟩
 simp[World.setCell,Array.getElem?_modify,h]
theorem TabIs.ne{w:World}{t m n:Nat}{D:Dat}{v s:Int→Int}(h:TabIs w t m D v s n):t≠m:=map_ne h.own h.obj
theorem TabIs.lt{w:World}{t m n:Nat}{D:Dat}{v s:Int→Int}(h:TabIs w t m D v s n):t<w.heap.size∧m<w.heap.size:=⟨World.block_lt_of_cell? _ _ h.obj,h.own.lt⟩
theorem TabIs.blocks{w w':World}{t m n:Nat}{D:Dat}{v s:Int→Int}(h:TabIs w t m D v s n)(ht:w'.heap[t]?=w.heap[t]?)(hm:w'.heap[m]?=w.heap[m]?):TabIs w' t m D v s n:=
 ⟨(World.cell?_of_block (a:=⟨t,0,none⟩) ht).trans h.obj,fun i hi=>(World.cell?_of_block (a:=⟨t,1+i,none⟩) ht).trans (h.vol i hi),fun i hi=>(World.cell?_of_block (a:=⟨t,5+i,none⟩) ht).trans (h.ses i hi),
  fun i=>(World.frozen?_of_block (a:=⟨t,i,none⟩) ht).trans (h.free i),map_block h.own hm,h.i64,by rw[ht];exact h.typ⟩
theorem TabIs.below{w w':World}{t m n:Nat}{D:Dat}{v s:Int→Int}(h:TabIs w t m D v s n)(hb:Below w.heap.size w w'):TabIs w' t m D v s n:=
 h.blocks (hb.block t h.lt.1) (hb.block m h.lt.2)
theorem TabIs.turned{w w':World}{t m n n':Nat}{D D':Dat}{v s:Int→Int}(h:TabIs w t m D v s n)(hb:w.mapTurned w' m)(ho:w'.ownsMap Tryz.prog 335 (plainElem Tryz.prog 3) m n' D'):TabIs w' t m D' v s n':=by
 have e:w'.heap[t]?=w.heap[t]?:=hb.grown.block t h.lt.1 (fun e=>h.ne (by injection e))
 exact⟨(World.cell?_of_block (a:=⟨t,0,none⟩) e).trans h.obj,fun i hi=>(World.cell?_of_block (a:=⟨t,1+i,none⟩) e).trans (h.vol i hi),fun i hi=>(World.cell?_of_block (a:=⟨t,5+i,none⟩) e).trans (h.ses i hi),
  fun i=>(World.frozen?_of_block (a:=⟨t,i,none⟩) e).trans (h.free i),ho,h.i64,by rw[e];exact h.typ⟩
theorem I64.upd{v:Int→Int}{c x:Int}(h:∀ i,I64 (v i))(hx:I64 x):∀ i,I64 (upd v c x i):=fun i=>by
 unfold Lease.upd
 split
 ·exact hx
 ·exact h i
theorem TabIs.setVol{w:World}{t m n c:Nat}{D:Dat}{v s:Int→Int}(h:TabIs w t m D v s n)(hc:c<4){x:Int}(hx:I64 x):TabIs (w.setCell ⟨t,1+c,none⟩ (.int .i64 x)) t m D (upd v c x) s n:=by
 refine⟨?_,fun i hi=>?_,fun i hi=>?_,fun i=>?_,h.own.setCell (fun e=>h.ne e.symm) _,fun i=>⟨I64.upd (fun i=>(h.i64 i).1) hx i,(h.i64 i).2⟩,typ_stored h.typ⟩
 ·rw[World.cell?_setCell_other _ _ _ _ (by simp)];exact h.obj
 ·by_cases e:i=c
  ·subst e;rw[World.cell?_setCell_same _ _ _ (h.vol i hc),upd_same]
  ·rw[World.cell?_setCell_other _ _ _ _ (by intro e;injection e with _ e;omega),upd_other (by omega)];exact h.vol i hi
 ·rw[World.cell?_setCell_other _ _ _ _ (by intro e;injection e with _ e;omega)];exact h.ses i hi
 ·rw[World.frozen?_setCell];exact h.free i
theorem TabIs.setSes{w:World}{t m n c:Nat}{D:Dat}{v s:Int→Int}(h:TabIs w t m D v s n)(hc:c<4){x:Int}(hx:I64 x):TabIs (w.setCell ⟨t,5+c,none⟩ (.int .i64 x)) t m D v (upd s c x) n:=by
 refine⟨?_,fun i hi=>?_,fun i hi=>?_,fun i=>?_,h.own.setCell (fun e=>h.ne e.symm) _,fun i=>⟨(h.i64 i).1,I64.upd (fun i=>(h.i64 i).2) hx i⟩,typ_stored h.typ⟩
 ·rw[World.cell?_setCell_other _ _ _ _ (by simp)];exact h.obj
 ·rw[World.cell?_setCell_other _ _ _ _ (by intro e;injection e with _ e;omega)];exact h.vol i hi
 ·by_cases e:i=c
  ·subst e;rw[World.cell?_setCell_same _ _ _ (h.ses i hc),upd_same]
  ·rw[World.cell?_setCell_other _ _ _ _ (by intro e;injection e with _ e;omega),upd_other (by omega)];exact h.ses i hi
 ·rw[World.frozen?_setCell];exact h.free i
def cliB(n:Int):Bool:=inB n 0 3
def objB(n:Int):Bool:=inB n 0 7
def timB(n:Int):Bool:=inB n 0 1099511627776
theorem cliB_true{n:Int}(h:cliB n=true):0≤n∧n≤3:=Num.of_inB_true h
theorem objB_true{n:Int}(h:objB n=true):0≤n∧n≤7:=Num.of_inB_true h
theorem timB_true{n:Int}(h:timB n=true):0≤n∧n≤1099511627776:=Num.of_inB_true h
theorem cli_any(n:Int)(w:World):Calls Tryz.prog 255 #[.int .i64 n] w fun e w'=>e = .returned (.bool (cliB n))∧w'=w:=by
 unfold cliB
 by_cases h0:0≤n
 ·by_cases h1:n<4
  ·rw[Num.inB_true h0 (by omega)]
   go_enter Tryz.func255,Tryz.ntmps255
   go_wp2
   go_ret
   exact⟨rfl,rfl⟩
  ·rw[Num.inB_above (by omega)]
   have h2:decide (n<4)=false:=decide_eq_false h1
   go_enter Tryz.func255,Tryz.ntmps255
   go_wp2
   go_ret
   exact⟨rfl,rfl⟩
 ·rw[Num.inB_below (by omega)]
  have h2:decide (0≤n)=false:=decide_eq_false h0
  go_enter Tryz.func255,Tryz.ntmps255
  go_wp2
  go_ret
  exact⟨rfl,rfl⟩
theorem obj_any(n:Int)(w:World):Calls Tryz.prog 256 #[.int .i64 n] w fun e w'=>e = .returned (.bool (objB n))∧w'=w:=by
 unfold objB
 by_cases h0:0≤n
 ·by_cases h1:n<8
  ·rw[Num.inB_true h0 (by omega)]
   go_enter Tryz.func256,Tryz.ntmps256
   go_wp2
   go_ret
   exact⟨rfl,rfl⟩
  ·rw[Num.inB_above (by omega)]
   have h2:decide (n<8)=false:=decide_eq_false h1
   go_enter Tryz.func256,Tryz.ntmps256
   go_wp2
   go_ret
   exact⟨rfl,rfl⟩
 ·rw[Num.inB_below (by omega)]
  have h2:decide (0≤n)=false:=decide_eq_false h0
  go_enter Tryz.func256,Tryz.ntmps256
  go_wp2
  go_ret
  exact⟨rfl,rfl⟩
theorem tim_any(n:Int)(w:World):Calls Tryz.prog 257 #[.int .i64 n] w fun e w'=>e = .returned (.bool (timB n))∧w'=w:=by
 unfold timB
 by_cases h0:0≤n
 ·by_cases h1:n≤1099511627776
  ·rw[Num.inB_true h0 h1]
   go_enter Tryz.func257,Tryz.ntmps257
   go_wp2
   go_ret
   exact⟨rfl,rfl⟩
  ·rw[Num.inB_above (by omega)]
   have h2:decide (n≤1099511627776)=false:=decide_eq_false h1
   go_enter Tryz.func257,Tryz.ntmps257
   go_wp2
   go_ret
   exact⟨rfl,rfl⟩
 ·rw[Num.inB_below (by omega)]
  have h2:decide (0≤n)=false:=decide_eq_false h0
  go_enter Tryz.func257,Tryz.ntmps257
  go_wp2
  go_ret
  exact⟨rfl,rfl⟩
end Lease
end
end Go.Proofs.YtbebfliimjjohabGreatDoor
