/- Parts of the proof. -/
import Derived.Test.YtbebfliimjjohabGreatDoorM36
import Derived.Test.YtbebfliimjjohabGreatDoorShelf
import Derived.Lib.ItoaLen
set_option maxRecDepth 100000
set_option maxHeartbeats 8000000
set_option linter.all false
open Go.Proofs.Tryz
namespace Go.Proofs.YtbebfliimjjohabGreatDoor
open Go.RowKit Go.Maps
open Cache (tp)
namespace Wld
def jO(i:Nat):ByteArray:=⟨#[101,114,114,111,114,32]⟩++⟨(Lib.decDigits i).toArray⟩
def CW(i:Nat)(b:i<100)(w:Ba):Calls prog 44 #[iI i] w λe c=>e=.returned (.string (jO i))/\c=w:=by
 have f:IntKind.i64.wrap (i:Int)=i:=TP ak ak;go_in;go_wp2_with fail
 apply (ao b w).mono;rintro e w2⟨rfl,rfl⟩;have a:¬9223372036854775807<6+(Lib.decDigits i).length:=by
  have d:=Lib.itoa_length_le (i:Int) ak ak;rw[Lib.itoa_nonneg]at d;omega
 go_wp2;go_ret;exact⟨rfl,rfl⟩
def tX(p:Addr){w:Ba}:
  CallsD prog 101 #[.pointer (some p)] .returning w λe a b=>e=.returned (.tuple #[])/\a=.returning/\b=w:=by
 refine callsD_of_wpS func101 rfl λc f d=>?_;apply Ub;apply W6;simp[wpOpsS,go_sem,recoverD,d,ntmps101,Exit.thenS];apply Ub;apply Ub;apply W6;simp[wpOpsS,go_sem,Exit.thenS];apply wpS_cond (t:=true) (by simp[Act.eval,Array.replicate]);simp;refine wpS_of_wp (wp_ret ?_);cases c;simp_all [bodyPostS,results,results101,Exit.thenS]
def pP(p:Addr)(x:DS){i:Nat}(c:i<100)(a:List PanicEntry)(w:Ba)(hc:cC w p (.string x))(j:w.frozen? p=false):
  CallsD prog 101 #[.pointer (some p)] (.panicking ({v:=.iface 59 (iI i),recovered:=false} :: a)) w λe d f=>
   e=.returned (.tuple #[])/\d=.panicking ({v:=.iface 59 (iI i),recovered:=true} :: a)/\f=w.setCell p (.string (jO i)):=by
 have g:∀w:Ba,(Instr.typeAssert (.iface 59 (iI i)) 20 59 true).run prog w=.ok (.tuple #[iI i,.bool true]) w:=λ_=>bt;refine callsD_of_wpS func101 rfl λk l h=>?_;apply Ub;apply W6;simp[wpOpsS,go_sem,recoverD,h,ntmps101,Exit.thenS];apply Ub;apply Ub;apply W6;simp[wpOpsS,go_sem,Exit.thenS];apply wpS_cond (t:=false) (by simp[Act.eval,Array.replicate]);simp only[dZ,nX];refine wpS_of_wp (wp_skip ?_);simp only[Exit.thenS];apply wpS_of_wp;simp only[Array.replicate,List.replicate];go_wp2_with fail
 apply ((λw=>CW i c w) _).mono;rintro e w2⟨rfl,b⟩;rw[b];go_wp2_with fail
 simp[bodyPostS,results,results101]
end Wld
end Go.Proofs.YtbebfliimjjohabGreatDoor
