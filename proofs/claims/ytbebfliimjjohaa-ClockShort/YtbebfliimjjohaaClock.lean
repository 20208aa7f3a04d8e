/-
  What within, Honest, Short, pick and timed answer, each as a contract of its call over the turned program.
-/
import Derived.Test.YtbebfliimjjohaaRows
import Derived.WalkKit
import Derived.ProofKit
import Derived.OpenShut
import Derived.WalkLawsBesides
import Derived.Test.YtbebfliimjjohaaPlain
namespace Go.Proofs.Ytbebfliimjjohaa.Clock
open Go.ChangeShapes Go.WideShapes Go.ChangeAt Go.RowKit

theorem within_yes (n m : Int) (w : World) (h0 : 0 ≤ n) (h1 : n ≤ m) :
    Calls Try.prog 12 #[.int .i64 n, .int .i64 m] w fun e w' => e = .returned (.bool true) ∧ w' = w := by
  go_enter Try.func12, Try.ntmps12
  go_wp2
  go_ret
  exact ⟨rfl, rfl⟩

theorem short_any (d t : Int) (w : World) (h0 : 0 ≤ d) (h1 : d ≤ 500) (h2 : 0 ≤ t) (h3 : t ≤ 1099511627776) :
    Calls Try.prog 7 #[.int .i64 d, .int .i64 t] w fun e w' => e = .returned (.tuple #[.int .i64 (t * (1000 - d) / (1000 + d)), .nilIface]) ∧ w' = w := by
  have hp := Plain.prod_bd (a := t) (b := 1000 - d) (A := 1099511627776) (B := 1000) h2 h3 (by omega) (by omega)
  obtain ⟨hp0, hp1⟩ := hp
  go_enter Try.func7, Try.ntmps7
  go_wp2_with (go_at_call 12; refine (within_yes _ _ _ (by omega) (by omega)).mono ?_; rintro e w' ⟨rfl, rfl⟩)
  go_ret2
  exact ⟨rfl, rfl⟩

theorem honest_yes (d g l : Int) (w : World) (h0 : 0 ≤ d) (h1 : d ≤ 500) (h2 : 0 ≤ g) (h3 : g ≤ 1099511627776) (h4 : 0 ≤ l) (h5 : l ≤ 2199023255552)
    (hl : g * (1000 - d) ≤ 1000 * l) (hh : 1000 * l ≤ g * (1000 + d)) :
    Calls Try.prog 8 #[.int .i64 d, .int .i64 g, .int .i64 l] w fun e w' => e = .returned (.bool true) ∧ w' = w := by
  have hp := Plain.prod_bd (a := g) (b := 1000 - d) (A := 1099511627776) (B := 1000) h2 h3 (by omega) (by omega)
  obtain ⟨hp0, hp1⟩ := hp
  have hq := Plain.prod_bd (a := g) (b := 1000 + d) (A := 1099511627776) (B := 1500) h2 h3 (by omega) (by omega)
  obtain ⟨hq0, hq1⟩ := hq
  go_enter Try.func8, Try.ntmps8
  go_wp2_with (go_at_call 12; refine (within_yes _ _ _ (by omega) (by omega)).mono ?_; rintro e w' ⟨rfl, rfl⟩)
  go_ret
  exact ⟨rfl, rfl⟩

theorem honest_below (d g l : Int) (w : World) (h0 : 0 ≤ d) (h1 : d ≤ 500) (h2 : 0 ≤ g) (h3 : g ≤ 1099511627776) (h4 : 0 ≤ l) (h5 : l ≤ 2199023255552)
    (hl : 1000 * l < g * (1000 - d)) :
    Calls Try.prog 8 #[.int .i64 d, .int .i64 g, .int .i64 l] w fun e w' => e = .returned (.bool false) ∧ w' = w := by
  have hp := Plain.prod_bd (a := g) (b := 1000 - d) (A := 1099511627776) (B := 1000) h2 h3 (by omega) (by omega)
  obtain ⟨hp0, hp1⟩ := hp
  go_enter Try.func8, Try.ntmps8
  go_wp2_with (go_at_call 12; refine (within_yes _ _ _ (by omega) (by omega)).mono ?_; rintro e w' ⟨rfl, rfl⟩)
  go_ret
  exact ⟨rfl, rfl⟩

theorem honest_above (d g l : Int) (w : World) (h0 : 0 ≤ d) (h1 : d ≤ 500) (h2 : 0 ≤ g) (h3 : g ≤ 1099511627776) (h4 : 0 ≤ l) (h5 : l ≤ 2199023255552)
    (hl : g * (1000 - d) ≤ 1000 * l) (hh : g * (1000 + d) < 1000 * l) :
    Calls Try.prog 8 #[.int .i64 d, .int .i64 g, .int .i64 l] w fun e w' => e = .returned (.bool false) ∧ w' = w := by
  have hp := Plain.prod_bd (a := g) (b := 1000 - d) (A := 1099511627776) (B := 1000) h2 h3 (by omega) (by omega)
  obtain ⟨hp0, hp1⟩ := hp
  have hq := Plain.prod_bd (a := g) (b := 1000 + d) (A := 1099511627776) (B := 1500) h2 h3 (by omega) (by omega)
  obtain ⟨hq0, hq1⟩ := hq
  have hx : decide (1000 * l ≤ g * (1000 + d)) = false := decide_eq_false (by omega)
  go_enter Try.func8, Try.ntmps8
  go_wp2_with (go_at_call 12; refine (within_yes _ _ _ (by omega) (by omega)).mono ?_; rintro e w' ⟨rfl, rfl⟩)
  go_ret
  exact ⟨rfl, rfl⟩

theorem pick_range (x n : Int) (hx : 0 ≤ x) (h : 0 < n) (h1 : n ≤ 1099511627776) : 0 ≤ wrap64 (x.tmod n) ∧ wrap64 (x.tmod n) < n := by
  have h2 : 0 ≤ x.tmod n := Int.tmod_nonneg n hx
  have h3 : x.tmod n < n := Int.tmod_lt_of_pos x h
  unfold wrap64
  omega

theorem wrap_u64_nonneg (a : Int) : 0 ≤ IntKind.u64.wrap a := by
  simp [IntKind.wrap, IntKind.signed, IntKind.bits]
  omega

theorem pick_any (a n : Int) (w : World) (h : 0 < n) (h1 : n ≤ 1099511627776) :
    Calls Try.prog 6 #[.int .i64 a, .int .i64 n] w fun e w' => ∃ r : Int, 0 ≤ r ∧ r < n ∧ e = .returned (.int .i64 r) ∧ w' = w := by
  go_enter Try.func6, Try.ntmps6
  go_wp2
  go_ret
  exact ⟨_, (pick_range _ n (wrap_u64_nonneg a) h h1).1, (pick_range _ n (wrap_u64_nonneg a) h h1).2, rfl, rfl⟩

theorem timed_true (w : World) :
    Calls Try.prog 5 #[] w fun e w' => e = .returned (.bool true) ∧ w' = w := by
  go_enter Try.func5, Try.ntmps5
  go_wp2_with fail
  refine (short_any _ _ _ (by omega) (by omega) (by omega) (by omega)).mono ?_
  rintro e w' ⟨rfl, rfl⟩
  go_wp2_with fail
  refine (honest_yes _ _ _ _ (by omega) (by omega) (by omega) (by omega) (by omega) (by omega) (by omega) (by omega)).mono ?_
  rintro e w' ⟨rfl, rfl⟩
  go_wp2_with fail
  refine (honest_below _ _ _ _ (by omega) (by omega) (by omega) (by omega) (by omega) (by omega) (by omega)).mono ?_
  rintro e w' ⟨rfl, rfl⟩
  go_wp2
  go_ret
  exact ⟨rfl, rfl⟩

end Go.Proofs.Ytbebfliimjjohaa.Clock
