/-
  DERIVED. GIVEN WITH THE SEED: THE CARDS: each row of YtbebfliimjjohabGreatDoorRows.lean that lists a variable, with what it lists TIED to the program's text (the seventh form; the later family's looks); each row that meets fmt, with fmt's text TOLD by the authors' own Lean function (tested against real Go, not proved from fmt's source: count such statements apart). THE CARD IS WHAT COUNTS. Prove the row's statement (the work); the ties are given (YtbebfliimjjohabGreatDoorTie.lean); close each card by the builder's one call (the guide's Derived/Test/ToyasCard.lean, 'card_holds'). Laid BY PROGRAM, IN A SANDBOX (cutbox-door.mjs). By AI agents, Wed Nov 11 2026. No macro, syntax, notation, axiom, sorry.
-/
import Derived.Test.YtbebfliimjjohabGreatDoorRows
import GoSem.ClaimSeven
namespace Go.Proofs.YtbebfliimjjohabGreatDoor
namespace Rows

/-- THE TIED CARD OF 'tenurekeep.WorldCalm'. -/
def worldCalmCard : Claim7 := { stood := { row := worldCalmRow, standIns := [], harness := (true, "bf3683f5353f545ba0f97cdaeabc07086f32c531ffbe55673eb976d97603dd50"), looks := true }, kinds := [], alts := [], goes := true, laidByText := true, laidKinds := [.handle], laidTests := true, laidLooks := .later }
def WorldCalmCardSaid : Prop := Claim7.holds Tryz.pinned (.plain (OpenSpec.ofChange worldCalmSpec)) worldCalmCard

/-- THE TIED CARD OF 'tenurekeep.DeskPieces'. -/
def deskPiecesCard : Claim7 := { stood := { row := deskPiecesRow, standIns := [], harness := (true, "bf3683f5353f545ba0f97cdaeabc07086f32c531ffbe55673eb976d97603dd50"), looks := true }, kinds := [], alts := [], goes := true, laidByText := true, laidKinds := [.data, .data, .data, .data, .handle, .sentinel, .sentinel, .pinned], laidTests := true, laidLooks := .later }
def DeskPiecesCardSaid : Prop := Claim7.holds Tryz.pinned (.plain (OpenSpec.ofChange deskPiecesSpec)) deskPiecesCard

/-- THE TIED CARD OF 'tenurekeep.ManyWorkers'. -/
def manyWorkersCard : Claim7 := { stood := { row := manyWorkersRow, standIns := [], harness := (true, "bf3683f5353f545ba0f97cdaeabc07086f32c531ffbe55673eb976d97603dd50"), looks := true }, kinds := [], alts := [], goes := true, laidByText := true, laidKinds := [.data, .data, .data, .data, .handle, .sentinel, .sentinel, .pinned], laidTests := true, laidLooks := .later }
def ManyWorkersCardSaid : Prop := Claim7.holds Tryz.pinned (.plain (OpenSpec.ofChange manyWorkersSpec)) manyWorkersCard

/-- THE TIED CARD OF 'tenurekeep.ManyLimits'. -/
def manyLimitsCard : Claim7 := { stood := { row := manyLimitsRow, standIns := [], harness := (true, "bf3683f5353f545ba0f97cdaeabc07086f32c531ffbe55673eb976d97603dd50"), looks := true }, kinds := [], alts := [], goes := true, laidByText := true, laidKinds := [.data, .data, .data, .data, .handle, .sentinel, .sentinel, .pinned], laidTests := true, laidLooks := .later }
def ManyLimitsCardSaid : Prop := Claim7.holds Tryz.pinned (.plain (OpenSpec.ofChange manyLimitsSpec)) manyLimitsCard

/-- THE SECOND FORM's CARD OF 'tenurekeep.WorldCalm'. -/
def worldCalmUptoCard : Claim7 := { stood := { row := worldCalmUptoRow, standIns := [], harness := (true, "bf3683f5353f545ba0f97cdaeabc07086f32c531ffbe55673eb976d97603dd50"), looks := true }, kinds := [], alts := [], goes := true, laidByText := true, laidKinds := [.handle], laidTests := true, laidLooks := .later }
def WorldCalmUptoCardSaid : Prop := Claim7.holds Tryz.pinned (.plain (OpenSpec.upto worldCalmSpec)) worldCalmUptoCard

/-- THE SECOND FORM's CARD OF 'tenurekeep.DeskPieces'. -/
def deskPiecesUptoCard : Claim7 := { stood := { row := deskPiecesUptoRow, standIns := [], harness := (true, "bf3683f5353f545ba0f97cdaeabc07086f32c531ffbe55673eb976d97603dd50"), looks := true }, kinds := [], alts := [], goes := true, laidByText := true, laidKinds := [.data, .data, .data, .data, .handle, .sentinel, .sentinel, .pinned], laidTests := true, laidLooks := .later }
def DeskPiecesUptoCardSaid : Prop := Claim7.holds Tryz.pinned (.plain (OpenSpec.upto deskPiecesSpec)) deskPiecesUptoCard

/-- THE SECOND FORM's CARD OF 'tenurekeep.ManyWorkers'. -/
def manyWorkersUptoCard : Claim7 := { stood := { row := manyWorkersUptoRow, standIns := [], harness := (true, "bf3683f5353f545ba0f97cdaeabc07086f32c531ffbe55673eb976d97603dd50"), looks := true }, kinds := [], alts := [], goes := true, laidByText := true, laidKinds := [.data, .data, .data, .data, .handle, .sentinel, .sentinel, .pinned], laidTests := true, laidLooks := .later }
def ManyWorkersUptoCardSaid : Prop := Claim7.holds Tryz.pinned (.plain (OpenSpec.upto manyWorkersSpec)) manyWorkersUptoCard

/-- THE SECOND FORM's CARD OF 'tenurekeep.ManyLimits'. -/
def manyLimitsUptoCard : Claim7 := { stood := { row := manyLimitsUptoRow, standIns := [], harness := (true, "bf3683f5353f545ba0f97cdaeabc07086f32c531ffbe55673eb976d97603dd50"), looks := true }, kinds := [], alts := [], goes := true, laidByText := true, laidKinds := [.data, .data, .data, .data, .handle, .sentinel, .sentinel, .pinned], laidTests := true, laidLooks := .later }
def ManyLimitsUptoCardSaid : Prop := Claim7.holds Tryz.pinned (.plain (OpenSpec.upto manyLimitsSpec)) manyLimitsUptoCard
end Rows
end Go.Proofs.YtbebfliimjjohabGreatDoor
