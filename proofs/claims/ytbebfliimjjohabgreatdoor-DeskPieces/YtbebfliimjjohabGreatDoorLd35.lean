/- Parts of the proof. -/
import Derived.Test.YtbebfliimjjohabGreatDoorLd01
import Derived.Test.YtbebfliimjjohabGreatDoorLd02
import Derived.WalkLawsBesides
set_option maxRecDepth 100000
set_option maxHeartbeats 8000000
namespace Go.Proofs.YtbebfliimjjohabGreatDoor
section
namespace Wld
open Go.RowKit Go.Maps
open Cache (tp)
open Bare (Laid)
theorem wrapJ{x:Int}(h0:-9223372036854775808≤x)(h1:x≤9223372036854775807):IntKind.i64.wrap x=x:=by
 simp[IntKind.wrap,IntKind.signed,IntKind.bits]
 omega
abbrev thrown (n:Int):Ending:=.panicked [{ v:=.iface 59 (.int .i64 n),recovered:=false }]
theorem need_ok(ao:Option Addr)(c n:Nat)(w:World) :
  Calls Tryz.prog 146 #[.slice ao n c,.int .i64 n] w fun e w'=>e = .returned (.tuple #[])∧w'=w:=by
 go_enter Tryz.func146,Tryz.ntmps146
 go_wp2
 go_end0
 exact⟨rfl,rfl⟩
theorem need_no(ao:Option Addr)(c n:Nat)(m:Int)(w:World)(h:(n:Int)≠m) :
  Calls Tryz.prog 146 #[.slice ao n c,.int .i64 m] w fun e w'=>e=thrown 3∧w'=w:=by
 have h1:((n:Int) != m)=true:=by simpa using h
 go_enter Tryz.func146,Tryz.ntmps146
 go_wp2
 exact⟨rfl,rfl,rfl⟩
theorem check_nil(w:World):Calls Tryz.prog 144 #[.nilIface] w fun e w'=>e = .returned (.tuple #[])∧w'=w:=by
 go_enter Tryz.func144,Tryz.ntmps144
 go_wp2
 go_end0
 exact⟨rfl,rfl⟩
theorem check_err(n:Int)(w:World)(hl:Laid w) :
  Calls Tryz.prog 144 #[.iface 59 (.int .i64 n)] w fun e w'=>e=thrown n∧Below w.heap.size w w':=by
 have ht:=Bare.tell_errno n w hl
 clear hl
 go_enter Tryz.func144,Tryz.ntmps144
 go_wp2_with fail
 refine ht.mono ?_
 rintro e w2 ⟨rfl,hb⟩
 clear ht
 go_wp2_with fail
 exact⟨rfl,rfl,hb⟩
end Wld
end
end Go.Proofs.YtbebfliimjjohabGreatDoor
