/-
  DERIVED. GIVEN WITH THE SEED: THE CARDS: each row of YtbebfliimjjohaaGreatDoorRows.lean that lists a variable, with what it lists TIED to the program's text (the seventh form; the later family's looks); each row that meets fmt, with fmt's text TOLD by the authors' own Lean function (tested against real Go, not proved from fmt's source: count such statements apart). THE CARD IS WHAT COUNTS. Prove the row's statement (the work); the ties are given (YtbebfliimjjohaaGreatDoorTie.lean); close each card by the builder's one call (the guide's Derived/Test/ToyasCard.lean, 'card_holds'). Laid BY PROGRAM, IN A SANDBOX (cutbox-door.mjs). By AI agents, Wed Nov 11 2026. No macro, syntax, notation, axiom, sorry.
-/
import Derived.Test.YtbebfliimjjohaaGreatDoorRows
import GoSem.ClaimSeven
namespace Go.Proofs.YtbebfliimjjohaaGreatDoor
namespace Rows

/-- THE TIED CARD OF 'tenurekeep.WorldFresh'. -/
def worldFreshCard : Claim7 := { stood := { row := worldFreshRow, standIns := [], harness := (true, "a801f03f69efc9ea71f6a38140094ac3a498ea50f7862d9d449eecff6ed32b4a"), looks := true }, kinds := [], alts := [], laidByText := true, laidKinds := [.handle], laidTests := true, laidLooks := .later }
def WorldFreshCardSaid : Prop := Claim7.holds Tryz.pinned (.plain (OpenSpec.ofChange worldFreshSpec)) worldFreshCard

/-- THE TIED CARD OF 'tenurekeep.WorldLies'. -/
def worldLiesCard : Claim7 := { stood := { row := worldLiesRow, standIns := [], harness := (true, "a801f03f69efc9ea71f6a38140094ac3a498ea50f7862d9d449eecff6ed32b4a"), looks := true }, kinds := [], alts := [], laidByText := true, laidKinds := [.handle], laidTests := true, laidLooks := .later }
def WorldLiesCardSaid : Prop := Claim7.holds Tryz.pinned (.plain (OpenSpec.ofChange worldLiesSpec)) worldLiesCard

/-- THE TIED CARD OF 'tenurekeep.WorldLasts'. -/
def worldLastsCard : Claim7 := { stood := { row := worldLastsRow, standIns := [], harness := (true, "a801f03f69efc9ea71f6a38140094ac3a498ea50f7862d9d449eecff6ed32b4a"), looks := true }, kinds := [], alts := [], laidByText := true, laidKinds := [.handle], laidTests := true, laidLooks := .later }
def WorldLastsCardSaid : Prop := Claim7.holds Tryz.pinned (.plain (OpenSpec.ofChange worldLastsSpec)) worldLastsCard

/-- THE SECOND FORM's CARD OF 'tenurekeep.WorldFresh'. -/
def worldFreshUptoCard : Claim7 := { stood := { row := worldFreshUptoRow, standIns := [], harness := (true, "a801f03f69efc9ea71f6a38140094ac3a498ea50f7862d9d449eecff6ed32b4a"), looks := true }, kinds := [], alts := [], laidByText := true, laidKinds := [.handle], laidTests := true, laidLooks := .later }
def WorldFreshUptoCardSaid : Prop := Claim7.holds Tryz.pinned (.plain (OpenSpec.upto worldFreshSpec)) worldFreshUptoCard

/-- THE SECOND FORM's CARD OF 'tenurekeep.WorldLies'. -/
def worldLiesUptoCard : Claim7 := { stood := { row := worldLiesUptoRow, standIns := [], harness := (true, "a801f03f69efc9ea71f6a38140094ac3a498ea50f7862d9d449eecff6ed32b4a"), looks := true }, kinds := [], alts := [], laidByText := true, laidKinds := [.handle], laidTests := true, laidLooks := .later }
def WorldLiesUptoCardSaid : Prop := Claim7.holds Tryz.pinned (.plain (OpenSpec.upto worldLiesSpec)) worldLiesUptoCard

/-- THE SECOND FORM's CARD OF 'tenurekeep.WorldLasts'. -/
def worldLastsUptoCard : Claim7 := { stood := { row := worldLastsUptoRow, standIns := [], harness := (true, "a801f03f69efc9ea71f6a38140094ac3a498ea50f7862d9d449eecff6ed32b4a"), looks := true }, kinds := [], alts := [], laidByText := true, laidKinds := [.handle], laidTests := true, laidLooks := .later }
def WorldLastsUptoCardSaid : Prop := Claim7.holds Tryz.pinned (.plain (OpenSpec.upto worldLastsSpec)) worldLastsUptoCard
end Rows
end Go.Proofs.YtbebfliimjjohaaGreatDoor
