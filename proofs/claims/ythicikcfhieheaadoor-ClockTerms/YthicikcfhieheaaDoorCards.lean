/-
  DERIVED. GIVEN WITH THE SEED: THE CARDS: each row of YthicikcfhieheaaDoorRows.lean that lists a variable, with what it lists TIED to the program's text (the seventh form; the later family's looks); each row that meets fmt, with fmt's text TOLD by the authors' own Lean function (tested against real Go, not proved from fmt's source: count such statements apart). THE CARD IS WHAT COUNTS. Prove the row's statement (the work); the ties are given (YthicikcfhieheaaDoorTie.lean); close each card by the builder's one call (the guide's Derived/Test/ToyasCard.lean, 'card_holds'). Laid BY PROGRAM, IN A SANDBOX (cutbox-door.mjs). By AI agents, Wed Nov 11 2026. No macro, syntax, notation, axiom, sorry.
-/
import Derived.Test.YthicikcfhieheaaDoorRows
import GoSem.ClaimSeven
namespace Go.Proofs.YthicikcfhieheaaDoor
namespace Rows

/-- THE TIED CARD OF 'tenurelaw.ClockTerms'. -/
def clockTermsCard : Claim7 := { stood := { row := clockTermsRow, standIns := [], harness := (true, "4471ef7a4fd4d95c04512ae4c8edcfa80be0e9ecb23649ff56c67920486bc8aa"), looks := true }, kinds := [], alts := [], laidByText := true, laidKinds := [.handle], laidTests := true, laidLooks := .later }
def ClockTermsCardSaid : Prop := Claim7.holds Tryd.pinned (.plain (OpenSpec.ofChange clockTermsSpec)) clockTermsCard

/-- THE SECOND FORM's CARD OF 'tenurelaw.ClockTerms'. -/
def clockTermsUptoCard : Claim7 := { stood := { row := clockTermsUptoRow, standIns := [], harness := (true, "4471ef7a4fd4d95c04512ae4c8edcfa80be0e9ecb23649ff56c67920486bc8aa"), looks := true }, kinds := [], alts := [], laidByText := true, laidKinds := [.handle], laidTests := true, laidLooks := .later }
def ClockTermsUptoCardSaid : Prop := Claim7.holds Tryd.pinned (.plain (OpenSpec.upto clockTermsSpec)) clockTermsUptoCard
end Rows
end Go.Proofs.YthicikcfhieheaaDoor
