/-
  A slice's bytes as a text, over the turned program.
-/
import Derived.Test.YtbebfliimjjohaaDoorAdd
import Derived.Test.YtbebfliimjjohaaDoorPar
import Derived.Laws.BytesString
namespace Go.Proofs.YtbebfliimjjohaaDoor.Wire
open Go.RowKit
open Num (ints strOf)

theorem conv_cells {w : World} (a : Addr) (l : List Int) (cap : Nat) (h : ∀ j v, (l.map (Value.int .u8))[j]? = some v → w.cell? (a.add j) = some v) :
    (convert 33 9 (.slice (some a) l.length cap)).run Tryd.prog w = .ok (.string (strOf l)) w := by
  rw [run_convert_bytes_string w 33 9 5 (some a) l.length cap Tryd.underlying33 Tryd.underlying5 Tryd.underlying9]
  have h2 := run_loadCells_list (P := Tryd.prog) (w := w) a (l.map (Value.int .u8)) h
  rw [List.length_map] at h2
  exact run_bytesToString w a l.length cap l h2

theorem conv_nil (w : World) (cap : Nat) : (convert 33 9 (.slice none 0 cap)).run Tryd.prog w = .ok (.string (strOf [])) w := by
  rw [run_convert_bytes_string w 33 9 5 none 0 cap Tryd.underlying33 Tryd.underlying5 Tryd.underlying9]
  rfl

theorem conv_has {w : World} {B : Nat} {v : Value} {l : List Int} (h : Has w B v l) : (convert 33 9 v).run Tryd.prog w = .ok (.string (strOf l)) w := by
  have hc := @World.ownsRow.cells w B 5 1 v l.length (l.map (Value.int .u8)) h
  rcases h.2 with ⟨rfl, h0⟩ | ⟨g, cap, cur, rfl, _⟩
  · have : l = [] := List.eq_nil_of_length_eq_zero h0
    subst this
    exact conv_nil w 0
  · exact conv_cells _ l cap (hc rfl)

end Go.Proofs.YtbebfliimjjohaaDoor.Wire
