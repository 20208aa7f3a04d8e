/- Parts of the proof. -/
import Derived.Test.YtbebfliimjjohabGreatDoorLd35
import Derived.Test.YtbebfliimjjohabGreatDoorShelf
import Derived.Lib.ItoaLen
import Derived.Defers
import Derived.Recover
set_option maxRecDepth 100000
set_option maxHeartbeats 8000000
namespace Go.Proofs.YtbebfliimjjohabGreatDoor
section
namespace Wld
open Go.RowKit Go.Maps
open Cache (tp)
def errT(i:Nat):ByteArray:=⟨#[101,114,114,111,114,32]⟩++⟨(Lib.decDigits i).toArray⟩
theorem wrong_any(i:Nat)(hi:i<100)(w:World):Calls Tryz.prog 44 #[.int .i64 i] w fun e w'=>e = .returned (.string (errT i))∧w'=w:=by
 have hit:=Tryz.strconv_Itoa_small i hi w
 have hw:IntKind.i64.wrap (i:Int)=i:=wrapJ (by omega) (by omega)
 go_enter Tryz.func44,Tryz.ntmps44
 go_wp2_with fail
 refine hit.mono ?_
 rintro e w2 ⟨rfl,rfl⟩
 clear hit
 have hlen:¬ 9223372036854775807<6+(Lib.decDigits i).length:=by
  have h2:=Lib.itoa_length_le (i:Int) (by omega) (by omega)
  rw[Lib.itoa_nonneg] at h2
  omega
 go_wp2_with fail
 go_ret
 exact⟨rfl,rfl⟩
theorem catch_idle(p:Addr)(w:World) :
  CallsD Tryz.prog 101 #[.pointer (some p)] .returning w fun e u' w'=>e = .returned (.tuple #[])∧u' = .returning∧w'=w:=by
 refine callsD_of_wpS Tryz.func101 rfl fun c₀ cs hu=>?_
 apply wpS_seq
 apply wpS_region
 simp[wpOpsS,go_sem,recoverD,hu,Tryz.ntmps101,Exit.thenS]
 apply wpS_seq
 apply wpS_seq
 apply wpS_region
 simp[wpOpsS,go_sem,Exit.thenS]
 refine wpS_cond (t:=true) (by simp[Act.eval,Array.replicate]) ?_
 simp only[if_true]
 refine wpS_of_wp (wp_ret ?_)
 cases c₀
 simp_all [bodyPostS,results,Tryz.results101,Exit.thenS]
theorem catch_thrown(p:Addr)(x:ByteArray)(i:Nat)(hi:i<100)(older:List PanicEntry)(w:World)(hc:w.cell? p=some (.string x))(hz:w.frozen? p=false) :
  CallsD Tryz.prog 101 #[.pointer (some p)] (.panicking ({ v:=.iface 59 (.int .i64 i),recovered:=false } :: older)) w fun e u' w'=>
   e = .returned (.tuple #[])∧u' = .panicking ({ v:=.iface 59 (.int .i64 i),recovered:=true } :: older)∧w'=w.setCell p (.string (errT i)):=by
 have hwr:=fun w=>wrong_any i hi w
 have hta:∀ w:World,(Instr.typeAssert (.iface 59 (.int .i64 i)) 20 59 true).run Tryz.prog w = .ok (.tuple #[.int .i64 i,.bool true]) w:=fun _=>by kernel_rfl
 refine callsD_of_wpS Tryz.func101 rfl fun c₀ cs hu=>?_
 apply wpS_seq
 apply wpS_region
 simp[wpOpsS,go_sem,recoverD,hu,Tryz.ntmps101,Exit.thenS]
 apply wpS_seq
 apply wpS_seq
 apply wpS_region
 simp[wpOpsS,go_sem,Exit.thenS]
 refine wpS_cond (t:=false) (by simp[Act.eval,Array.replicate]) ?_
 simp only[Bool.false_eq_true,if_false]
 refine wpS_of_wp (wp_skip ?_)
 simp only[Exit.thenS]
 refine wpS_of_wp ?_
 simp only[Array.replicate,List.replicate]
 go_wp2_with fail
 refine(hwr _).mono ?_
 rintro e w2 ⟨rfl,hw2⟩
 rw[hw2]
 clear hw2 hwr
 go_wp2_with fail
 simp[bodyPostS,results,Tryz.results101]
end Wld
end
end Go.Proofs.YtbebfliimjjohabGreatDoor
