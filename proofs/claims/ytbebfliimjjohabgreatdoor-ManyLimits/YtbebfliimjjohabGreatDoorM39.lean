/- Parts of the proof. -/
import Derived.Test.YtbebfliimjjohabGreatDoorM19
set_option maxRecDepth 100000
set_option maxHeartbeats 8000000
set_option linter.all false
open Go.Proofs.Tryz
namespace Go.Proofs.YtbebfliimjjohabGreatDoor
open Go.RowKit Go.Maps
open Cache (tp)
open Bare (jC)
namespace Wld
def VE{x:Int}(h0:-9223372036854775808<=x)(a:x<=9223372036854775807):IntKind.i64.wrap x=x:=by
 simp[IntKind.wrap,IntKind.signed,IntKind.bits];omega
abbrev cn (n:Int):Ending:=.panicked [{v:=.iface 59 (.int .i64 n),recovered:=false}]
def oS(ao:Option Addr)(c n:Nat)(w:A1):
  Calls prog 146 #[.slice ao n c,iI n] w λe a=>e=.returned (.tuple #[])/\a=w:=by
 go_enter func146,ntmps146;go_wp2;go_end0;exact⟨rfl,rfl⟩
def oR(ao:Option Addr)(c n:Nat)(m:Int)(w:A1)(h:(n:Int)≠m):
  Calls prog 146 #[.slice ao n c,iI m] w λe a=>e=cn 3/\a=w:=by
 have b:((n:Int) != m)=true:=by simpa using h
 go_enter func146,ntmps146;go_wp2;exact⟨rfl,rfl,rfl⟩
def DF(w:A1):Calls prog 144 #[.nilIface] w λe a=>e=.returned (.tuple #[])/\a=w:=by
 go_enter func144,ntmps144;go_wp2;go_end0;exact⟨rfl,rfl⟩
def xE{n:Int}{w:A1}(a:jC w):
  Calls prog 144 #[.iface 59 (iI n)] w λe b=>e=cn n/\Below w.heap.size w b:=by
 go_enter func144,ntmps144;go_wp2_with fail
 apply (Bare.uF n a).mono;rintro e w2⟨rfl,c⟩;go_wp2_with fail
 exact⟨rfl,rfl,c⟩
end Wld
end Go.Proofs.YtbebfliimjjohabGreatDoor
