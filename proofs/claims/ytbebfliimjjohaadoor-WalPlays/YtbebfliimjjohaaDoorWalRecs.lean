/-
  Contracts of wal.Wal's Records over the turned program.
-/
import Derived.Test.YtbebfliimjjohaaDoorWalAdd
import Derived.Lib.SliceRun
namespace Go.Proofs.YtbebfliimjjohaaDoor.Wal
open Go.RowKit
open Num (inB ints strOf)
open Wire (bcell)

theorem eql_nil (w : World) (a : Option Addr) (n c : Nat) : (binOp .eql 83 (.slice a n c) (.slice none 0 0)).run Tryd.prog w = .ok (.bool a.isNone) w :=
  Lib.run_eql_slice_nil w 83 76 a n c 0 0 Tryd.underlying83

set_option maxHeartbeats 1000000 in
set_option maxRecDepth 100000 in
theorem clone_nil (w : World) :
    Calls Tryd.prog 78 #[.slice none 0 0] w fun e w' => e = .returned (.slice none 0 0) ∧ w' = w := by
  have hq := fun w => eql_nil w none 0 0
  go_enter Tryd.func78, Tryd.ntmps78
  go_wp2_with fail
  go_ret
  exact ⟨rfl, rfl⟩

set_option maxHeartbeats 1000000 in
set_option maxRecDepth 100000 in
theorem clone_some (B g c : Nat) (rs : List R) (w : World) (hrow : w.ownsRow B 76 6 (.slice (some ⟨g, 0, none⟩) rs.length c) rs.length (rcells rs)) (hl : rs.length ≤ 200) :
    Calls Tryd.prog 78 #[.slice (some ⟨g, 0, none⟩) rs.length c] w fun e w' => ∃ v, e = .returned v ∧ w'.ownsRow w.heap.size 76 6 v rs.length (rcells rs) ∧ Below w.heap.size w w' := by
  obtain ⟨i0, hi, hy0, hy1, hy2⟩ := info_parts info_record
  have hrow0 : (w.alloc (.cells #[] 76)).ownsRow w.heap.size 76 6 (.slice (some ⟨w.heap.size, 0, none⟩) 0 0) 0 [] := by simpa using World.ownsRow_lit (base := w.heap.size) (e := 76) (size := 6) w #[] 0 (Nat.le_refl _) (by decide) rfl
  have hnews : ∀ j u, (rcells rs)[j]? = some u → (w.alloc (.cells #[] 76)).cell? ((⟨g, 0, none⟩ : Addr).add j) = some u := fun j u h => by
    have := hrow.cells rfl j u h
    rw [World.cell?_alloc_lt _ _ _ (World.block_lt_of_cell? _ _ this)]
    exact this
  have e3 : 0 + rs.length ≤ maxLen := by unfold maxLen; omega
  have e4 : (0 + rs.length) * 56 ≤ 140737488355328 := by omega
  have hlen := rcells_length rs
  have hone := rcells_one rs
  have hq := fun w => eql_nil w (some ⟨g, 0, none⟩) rs.length c
  go_enter Tryd.func78, Tryd.ntmps78
  go_wp2_with (at_builtin; refine wpList_append_own _ rfl _ _ 83 rfl w.heap.size 76 i0 (.agg #[.int .i64 0, .int .i64 0, .int .i64 0, .int .i64 0, .string ⟨#[]⟩, .int .i64 0]) 6 56 Tryd.underlying83 hi hy0 hy1 hy2 rfl (by decide) _ _ _ rfl hrow0 ⟨g, 0, none⟩ _ _ (rcells rs) rfl hlen hnews hone e3 e4 ?r5 ?_)
  case r5 => simp
  intro v1 w1 hown1 hg1 _
  have hown : w1.ownsRow w.heap.size 76 6 v1 rs.length (rcells rs) := by first | exact hown1 | simpa using hown1
  have hb1 : Below w.heap.size w w1 := ((Below.refl _ _).alloc (Nat.le_refl _) _).grown hg1 (by simp) (fun k hk => by simp [Value.ownBlock] at hk; omega)
  go_wp2_with fail
  go_ret
  exact ⟨v1, rfl, hown, hb1⟩

set_option maxHeartbeats 1000000 in
set_option maxRecDepth 100000 in
theorem records_any (u q : Nat) (rs : List R) (down : Bool) (w : World) (h : WalIs w u q rs down) (hl : rs.length ≤ 200) :
    Calls Tryd.prog 34 #[.pointer (some ⟨u, 0, none⟩)] w fun e w' => ∃ v, e = .returned v ∧ w'.ownsRow w.heap.size 76 6 v rs.length (rcells rs) ∧ Below w.heap.size w w' := by
  obtain ⟨v, hv, hrow⟩ := h.row
  rcases hrow.2 with ⟨rfl, h0⟩ | ⟨g, cap, cur, rfl, _⟩
  · have hr0 : rs = [] := List.length_eq_zero_iff.1 h0
    subst hr0
    go_enter Tryd.func34, Tryd.ntmps34
    go_wp2_with fail
    refine (clone_nil _).mono ?_
    rintro e w1 ⟨rfl, rfl⟩
    go_wp2_with fail
    go_ret
    exact ⟨_, rfl, World.ownsRow_nil _ _ _ _, Below.refl _ _⟩
  · go_enter Tryd.func34, Tryd.ntmps34
    go_wp2_with fail
    refine (clone_some _ g cap rs _ hrow hl).mono ?_
    rintro e w1 ⟨v, rfl, hown, hb⟩
    go_wp2_with fail
    go_ret
    exact ⟨_, rfl, hown, hb⟩
end Go.Proofs.YtbebfliimjjohaaDoor.Wal
