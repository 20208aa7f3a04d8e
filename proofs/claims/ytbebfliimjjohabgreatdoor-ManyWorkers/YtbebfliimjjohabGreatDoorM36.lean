/- Parts of the proof. -/
import Derived.Test.YtbebfliimjjohabGreatDoorM19
set_option maxRecDepth 100000
set_option maxHeartbeats 8000000
set_option linter.all false
namespace Go.Proofs.YtbebfliimjjohabGreatDoor
open Go.RowKit Go.Maps
open Cache (tp)
open Bare (iZ)
namespace Wld
def TP{x:Int}(h0:-9223372036854775808<=x)(a:x<=9223372036854775807):IntKind.i64.wrap x=x:=by
 simp[IntKind.wrap,IntKind.signed,IntKind.bits];omega
abbrev cH (n:Int):Ending:=.panicked [{v:=.iface 59 (.int .i64 n),recovered:=false}]
def nG(ao:Option Addr)(c n:Nat)(w:Ba):
  Calls Tryz.prog 146 #[.slice ao n c,iI n] w λe a=>e=.returned (.tuple #[])/\a=w:=by
 go_in;go_wp2;go_end0;exact⟨rfl,rfl⟩
def nF(ao:Option Addr)(c n:Nat)(m:Int)(w:Ba)(h:(n:Int)≠m):
  Calls Tryz.prog 146 #[.slice ao n c,iI m] w λe a=>e=cH 3/\a=w:=by
 have b:((n:Int) != m)=true:=dD h;go_in;go_wp2;exact⟨rfl,rfl,rfl⟩
def CA(w:Ba):Calls Tryz.prog 144 #[.nilIface] w λe a=>e=.returned (.tuple #[])/\a=w:=by
 go_in;go_wp2;go_end0;exact⟨rfl,rfl⟩
def wG{n:Int}{w:Ba}(a:iZ w):
  Calls Tryz.prog 144 #[.iface 59 (iI n)] w λe b=>e=cH n/\FF w b:=by
 go_in;go_wp2_with fail
 apply (Bare.zN n a).mono;rintro e w2⟨rfl,c⟩;go_wp2;exact⟨rfl,rfl,c⟩
end Wld
end Go.Proofs.YtbebfliimjjohabGreatDoor
