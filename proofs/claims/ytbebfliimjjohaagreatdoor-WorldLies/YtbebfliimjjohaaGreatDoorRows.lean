/-
  NARROWER THAN 'FOR EVERY INPUT', by the rows' own cells (each row's printed sentence says how): WorldFresh: laid · WorldLies: laid · WorldLasts: laid.
  DERIVED. THE GIVEN ROWS OF THIS SEAT. 3 by the template 'for every input the law returns true; each argument reads behind the call as it read before'; 0 by the template 'total and deterministic' (their statements: YtbebfliimjjohaaGreatDoorTotals.lean).
  GIVEN WITH THE SEED: the statements are not yours to turn. If you find one false, say at which input.
  Laid BY PROGRAM, IN A SANDBOX (cutbox-rows.mjs): the forced cells as the released guide's own fill.sh prints them over the translation 47848e3c381b0160… (all of the seat's roots in one cut). By AI agents, Wed Nov 11 2026. No macro, syntax, notation, axiom, sorry.
-/
import Derived.Test.YtbebfliimjjohaaGreatDoorChecked
import GoSem.Claim
import GoSem.ClaimJoined
import GoSem.ClaimMapViews
import Derived.JoinedTies
import Derived.KernelRfl
namespace Go.Proofs.YtbebfliimjjohaaGreatDoor
/- THE CELL 'sum', in the pinned program and in every row, IS THE sha256 OF THE DUMP (.gsa) THAT YtbebfliimjjohaaGreatDoorProg.lean LOADS. Nothing in Lean hashes anything: it is a label: what it is worth is what the hold of that sum in a sandbox is worth. -/
noncomputable def Tryz.pinned : Pinned := { name := "ytbebfliimjjohaagreatdoor", sum := "47848e3c381b0160c4b48197b71b34fc9eea407eb38324c195c8b95b41a75fe4", checked := Tryz.checked }
namespace Rows
def none {H : Type} : Left H := { results := [], args := [] }

/- WHAT THE LISTED PACKAGE-LEVEL VARIABLES READ AS WHEN THE CALL BEGINS. Each datum BY PROGRAM (the guide's laid-datum.mjs) off the statement by which the dump's own 'gosem.cut.vars' lays the variable. In a bare row this is a premise. The card (YtbebfliimjjohaaGreatDoorCards.lean) ties it to the program's text. -/
def laid_errors_errorType {H : Type} : DataW H := .iface "internal/reflectlite.rtype" (.agg [.ptr (.lit (.string [101, 114, 114, 111, 114]))])

/-- 'tenurekeep.WorldFresh': WHATEVER THE INPUT: true; the input reads as it did. -/
def worldFreshSpec : ChangeSpec := { name := "worldFresh", fn := fun _ => fun
  | [d1, d2, d3, d4, d5] => { results := [.lit (.bool true)], args := [d1, d2, d3, d4, d5] }
  | _ => none }
def worldFreshRow : OpenClaim := { program := "ytbebfliimjjohaagreatdoor", sum := "47848e3c381b0160c4b48197b71b34fc9eea407eb38324c195c8b95b41a75fe4", func := "tenure/tenurekeep.WorldFresh", spec := "worldFresh", inPlace := ["internal/reflectlite.ValueOf", "(internal/reflectlite.Value).Type", "(internal/reflectlite.Value).IsNil", "internal/reflectlite.TypeOf", "(internal/reflectlite.Value).Elem", "(internal/reflectlite.Value).Set"], unfollowed := true, recurses := true, named := ["errors.errorType"], plainKeys := false, apart := false, laid := [("errors.errorType", laid_errors_errorType)] }
def WorldFreshSaid : Prop := worldFreshRow.holds Tryz.pinned (OpenSpec.ofChange worldFreshSpec)

/-- ITS FALSE NEIGHBOUR: 'it returns false'. Refute it at one input. -/
def worldFreshWrong : ChangeSpec := { name := "worldFresh", fn := fun _ => fun
  | [d1, d2, d3, d4, d5] => { results := [.lit (.bool false)], args := [d1, d2, d3, d4, d5] }
  | _ => none }
def WorldFreshWrongFalsely : Prop := worldFreshRow.holds Tryz.pinned (OpenSpec.ofChange worldFreshWrong)

/-- 'tenurekeep.WorldLies': WHATEVER THE INPUT: true; the input reads as it did. -/
def worldLiesSpec : ChangeSpec := { name := "worldLies", fn := fun _ => fun
  | [d1, d2, d3, d4, d5] => { results := [.lit (.bool true)], args := [d1, d2, d3, d4, d5] }
  | _ => none }
def worldLiesRow : OpenClaim := { program := "ytbebfliimjjohaagreatdoor", sum := "47848e3c381b0160c4b48197b71b34fc9eea407eb38324c195c8b95b41a75fe4", func := "tenure/tenurekeep.WorldLies", spec := "worldLies", inPlace := ["internal/reflectlite.ValueOf", "(internal/reflectlite.Value).Type", "(internal/reflectlite.Value).IsNil", "internal/reflectlite.TypeOf", "(internal/reflectlite.Value).Elem", "(internal/reflectlite.Value).Set"], unfollowed := true, recurses := true, named := ["errors.errorType"], plainKeys := false, apart := false, laid := [("errors.errorType", laid_errors_errorType)] }
def WorldLiesSaid : Prop := worldLiesRow.holds Tryz.pinned (OpenSpec.ofChange worldLiesSpec)

/-- ITS FALSE NEIGHBOUR: 'it returns false'. Refute it at one input. -/
def worldLiesWrong : ChangeSpec := { name := "worldLies", fn := fun _ => fun
  | [d1, d2, d3, d4, d5] => { results := [.lit (.bool false)], args := [d1, d2, d3, d4, d5] }
  | _ => none }
def WorldLiesWrongFalsely : Prop := worldLiesRow.holds Tryz.pinned (OpenSpec.ofChange worldLiesWrong)

/-- 'tenurekeep.WorldLasts': WHATEVER THE INPUT: true; the input reads as it did. -/
def worldLastsSpec : ChangeSpec := { name := "worldLasts", fn := fun _ => fun
  | [d1, d2, d3, d4, d5] => { results := [.lit (.bool true)], args := [d1, d2, d3, d4, d5] }
  | _ => none }
def worldLastsRow : OpenClaim := { program := "ytbebfliimjjohaagreatdoor", sum := "47848e3c381b0160c4b48197b71b34fc9eea407eb38324c195c8b95b41a75fe4", func := "tenure/tenurekeep.WorldLasts", spec := "worldLasts", inPlace := ["internal/reflectlite.ValueOf", "(internal/reflectlite.Value).Type", "(internal/reflectlite.Value).IsNil", "internal/reflectlite.TypeOf", "(internal/reflectlite.Value).Elem", "(internal/reflectlite.Value).Set"], unfollowed := true, recurses := true, named := ["errors.errorType"], plainKeys := false, apart := false, laid := [("errors.errorType", laid_errors_errorType)] }
def WorldLastsSaid : Prop := worldLastsRow.holds Tryz.pinned (OpenSpec.ofChange worldLastsSpec)

/-- ITS FALSE NEIGHBOUR: 'it returns false'. Refute it at one input. -/
def worldLastsWrong : ChangeSpec := { name := "worldLasts", fn := fun _ => fun
  | [d1, d2, d3, d4, d5] => { results := [.lit (.bool false)], args := [d1, d2, d3, d4, d5] }
  | _ => none }
def WorldLastsWrongFalsely : Prop := worldLastsRow.holds Tryz.pinned (OpenSpec.ofChange worldLastsWrong)

/- THE SECOND FORM. 'bulk': how many values and letters a reading holds, each counted each time it is reached (what is shared counts as often as it is met; a slice's spare places count too). A statement '..UptoSaid' is the law's where the arguments, and the package variables that the reading takes, are together of bulk at most 1048576: NARROWER than '..Said'. Prove '..Said' where nothing that the law and all that it calls make is longer than what came in: it says more and counts as full. Else prove '..UptoSaid'. A law counts once. -/
mutual
def uptoBulk {H : Type} : DataW H → Nat
  | .lit (.string bytes) => bytes.length + 1
  | .lit _ => 1
  | .nil => 1
  | .ptr d => uptoBulk d + 1
  | .slice elems spare => uptoBulkAll elems + uptoBulkAll spare + 1
  | .agg parts => uptoBulkAll parts + 1
  | .iface _ d => uptoBulk d + 1
  | .map entries => uptoBulkEntries entries + 1
  | .held _ => 1
def uptoBulkAll {H : Type} : List (DataW H) → Nat
  | [] => 0
  | d :: r => uptoBulk d + uptoBulkAll r
def uptoBulkEntries {H : Type} : List (Lit × DataW H) → Nat
  | [] => 0
  | x :: r => uptoBulkEntry x + uptoBulkEntries r
def uptoBulkEntry {H : Type} : Lit × DataW H → Nat
  | (.string bytes, d) => bytes.length + uptoBulk d + 1
  | (_, d) => uptoBulk d + 1
 end
def uptoSmall : (H : Type) → List (DataW H) → Bool := fun _ ds => decide (uptoBulkAll ds ≤ 1048576)
def OpenSpec.upto (s : _root_.Go.ChangeSpec) : _root_.Go.OpenSpec := { _root_.Go.OpenSpec.ofChange s with cond := some uptoSmall }

/-- 'tenurekeep.WorldFresh', WHERE WHAT IT READS IS OF BULK AT MOST 1048576: true; the input reads as it did. -/
def worldFreshUptoRow : OpenClaim := { program := "ytbebfliimjjohaagreatdoor", sum := "47848e3c381b0160c4b48197b71b34fc9eea407eb38324c195c8b95b41a75fe4", func := "tenure/tenurekeep.WorldFresh", spec := "worldFresh", inPlace := ["internal/reflectlite.ValueOf", "(internal/reflectlite.Value).Type", "(internal/reflectlite.Value).IsNil", "internal/reflectlite.TypeOf", "(internal/reflectlite.Value).Elem", "(internal/reflectlite.Value).Set"], unfollowed := true, recurses := true, named := ["errors.errorType"], plainKeys := false, apart := false, laid := [("errors.errorType", laid_errors_errorType)], narrowed := true }
def WorldFreshUptoSaid : Prop := worldFreshUptoRow.holds Tryz.pinned (OpenSpec.upto worldFreshSpec)

/-- 'tenurekeep.WorldLies', WHERE WHAT IT READS IS OF BULK AT MOST 1048576: true; the input reads as it did. -/
def worldLiesUptoRow : OpenClaim := { program := "ytbebfliimjjohaagreatdoor", sum := "47848e3c381b0160c4b48197b71b34fc9eea407eb38324c195c8b95b41a75fe4", func := "tenure/tenurekeep.WorldLies", spec := "worldLies", inPlace := ["internal/reflectlite.ValueOf", "(internal/reflectlite.Value).Type", "(internal/reflectlite.Value).IsNil", "internal/reflectlite.TypeOf", "(internal/reflectlite.Value).Elem", "(internal/reflectlite.Value).Set"], unfollowed := true, recurses := true, named := ["errors.errorType"], plainKeys := false, apart := false, laid := [("errors.errorType", laid_errors_errorType)], narrowed := true }
def WorldLiesUptoSaid : Prop := worldLiesUptoRow.holds Tryz.pinned (OpenSpec.upto worldLiesSpec)

/-- 'tenurekeep.WorldLasts', WHERE WHAT IT READS IS OF BULK AT MOST 1048576: true; the input reads as it did. -/
def worldLastsUptoRow : OpenClaim := { program := "ytbebfliimjjohaagreatdoor", sum := "47848e3c381b0160c4b48197b71b34fc9eea407eb38324c195c8b95b41a75fe4", func := "tenure/tenurekeep.WorldLasts", spec := "worldLasts", inPlace := ["internal/reflectlite.ValueOf", "(internal/reflectlite.Value).Type", "(internal/reflectlite.Value).IsNil", "internal/reflectlite.TypeOf", "(internal/reflectlite.Value).Elem", "(internal/reflectlite.Value).Set"], unfollowed := true, recurses := true, named := ["errors.errorType"], plainKeys := false, apart := false, laid := [("errors.errorType", laid_errors_errorType)], narrowed := true }
def WorldLastsUptoSaid : Prop := worldLastsUptoRow.holds Tryz.pinned (OpenSpec.upto worldLastsSpec)

end Rows
end Go.Proofs.YtbebfliimjjohaaGreatDoor
