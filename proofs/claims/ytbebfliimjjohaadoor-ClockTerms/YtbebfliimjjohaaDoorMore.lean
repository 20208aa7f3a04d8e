/-
  What Honest and Add of package clock, and of the document's own answer, return: each as a contract of its call over the turned program.
-/
import Derived.Test.YtbebfliimjjohaaDoorClock
namespace Go.Proofs.YtbebfliimjjohaaDoor.Clock
open Go.ChangeShapes Go.WideShapes Go.ChangeAt Go.RowKit
open Plain (inB honestB short)

theorem honest_any (d g l : Int) (w : World) :
    Calls Tryd.prog 15 #[.int .i64 d, .int .i64 g, .int .i64 l] w fun e w' => e = .returned (.bool (honestB d g l)) ∧ w' = w := by
  cases hd : inB d 0 500 with
  | false =>
    rw [show honestB d g l = false by simp [honestB, hd]]
    go_enter Tryd.func15, Tryd.ntmps15
    go_wp2_with (go_at_call 61; refine (within_any _ _ _).mono ?_; rintro e w' ⟨rfl, rfl⟩)
    go_ret
    exact ⟨rfl, rfl⟩
  | true =>
    cases hg : inB g 0 1099511627776 with
    | false =>
      rw [show honestB d g l = false by simp [honestB, hg]]
      go_enter Tryd.func15, Tryd.ntmps15
      go_wp2_with (go_at_call 61; refine (within_any _ _ _).mono ?_; rintro e w' ⟨rfl, rfl⟩)
      go_ret
      exact ⟨rfl, rfl⟩
    | true =>
      cases hl : inB l 0 2199023255552 with
      | false =>
        rw [show honestB d g l = false by simp [honestB, hl]]
        go_enter Tryd.func15, Tryd.ntmps15
        go_wp2_with (go_at_call 61; refine (within_any _ _ _).mono ?_; rintro e w' ⟨rfl, rfl⟩)
        go_ret
        exact ⟨rfl, rfl⟩
      | true =>
        obtain ⟨d0, d1⟩ := Plain.of_inB_true hd
        obtain ⟨g0, g1⟩ := Plain.of_inB_true hg
        obtain ⟨l0, l1⟩ := Plain.of_inB_true hl
        obtain ⟨hp0, hp1⟩ := Plain.prod_bd (a := g) (b := 1000 - d) (A := 1099511627776) (B := 1000) g0 g1 (by omega) (by omega)
        obtain ⟨hq0, hq1⟩ := Plain.prod_bd (a := g) (b := 1000 + d) (A := 1099511627776) (B := 1500) g0 g1 (by omega) (by omega)
        by_cases h1 : g * (1000 - d) ≤ 1000 * l
        · by_cases h2 : 1000 * l ≤ g * (1000 + d)
          · rw [show honestB d g l = true by simp [honestB, hd, hg, hl, Plain.inB_true h1 h2]]
            go_enter Tryd.func15, Tryd.ntmps15
            go_wp2_with (go_at_call 61; refine (within_any _ _ _).mono ?_; rintro e w' ⟨rfl, rfl⟩)
            go_ret
            exact ⟨rfl, rfl⟩
          · rw [show honestB d g l = false by simp [honestB, Plain.inB_above (Int.not_le.1 h2)]]
            have hx : decide (1000 * l ≤ g * (1000 + d)) = false := decide_eq_false h2
            go_enter Tryd.func15, Tryd.ntmps15
            go_wp2_with (go_at_call 61; refine (within_any _ _ _).mono ?_; rintro e w' ⟨rfl, rfl⟩)
            go_ret
            exact ⟨rfl, rfl⟩
        · rw [show honestB d g l = false by simp [honestB, Plain.inB_below (Int.not_le.1 h1)]]
          have hx : decide (g * (1000 - d) ≤ 1000 * l) = false := decide_eq_false h1
          go_enter Tryd.func15, Tryd.ntmps15
          go_wp2_with (go_at_call 61; refine (within_any _ _ _).mono ?_; rintro e w' ⟨rfl, rfl⟩)
          go_ret
          exact ⟨rfl, rfl⟩

theorem refHonest_any (d g l : Int) (w : World) :
    Calls Tryd.prog 16 #[.int .i64 d, .int .i64 g, .int .i64 l] w fun e w' => e = .returned (.bool (honestB d g l)) ∧ w' = w := by
  cases hd : inB d 0 500 with
  | false =>
    rw [show honestB d g l = false by simp [honestB, hd]]
    go_enter Tryd.func16, Tryd.ntmps16
    go_wp2_with (go_at_call 60; refine (in_any _ _ _ _).mono ?_; rintro e w' ⟨rfl, rfl⟩)
    go_ret
    exact ⟨rfl, rfl⟩
  | true =>
    cases hg : inB g 0 1099511627776 with
    | false =>
      rw [show honestB d g l = false by simp [honestB, hg]]
      go_enter Tryd.func16, Tryd.ntmps16
      go_wp2_with (go_at_call 60; refine (in_any _ _ _ _).mono ?_; rintro e w' ⟨rfl, rfl⟩)
      go_ret
      exact ⟨rfl, rfl⟩
    | true =>
      cases hl : inB l 0 2199023255552 with
      | false =>
        rw [show honestB d g l = false by simp [honestB, hl]]
        go_enter Tryd.func16, Tryd.ntmps16
        go_wp2_with (go_at_call 60; refine (in_any _ _ _ _).mono ?_; rintro e w' ⟨rfl, rfl⟩)
        go_ret
        exact ⟨rfl, rfl⟩
      | true =>
        obtain ⟨d0, d1⟩ := Plain.of_inB_true hd
        obtain ⟨g0, g1⟩ := Plain.of_inB_true hg
        obtain ⟨l0, l1⟩ := Plain.of_inB_true hl
        obtain ⟨hp0, hp1⟩ := Plain.prod_bd (a := g) (b := 1000 - d) (A := 1099511627776) (B := 1000) g0 g1 (by omega) (by omega)
        obtain ⟨hq0, hq1⟩ := Plain.prod_bd (a := g) (b := 1000 + d) (A := 1099511627776) (B := 1500) g0 g1 (by omega) (by omega)
        rw [show honestB d g l = inB (1000 * l) (g * (1000 - d)) (g * (1000 + d)) by simp [honestB, hd, hg, hl]]
        go_enter Tryd.func16, Tryd.ntmps16
        go_wp2_with (go_at_call 60; refine (in_any _ _ _ _).mono ?_; rintro e w' ⟨rfl, rfl⟩)
        go_ret
        exact ⟨rfl, rfl⟩

theorem refAdd_no (a b : Int) (w : World) (h : inB a 0 1099511627776 = false ∨ inB b 0 1099511627776 = false) :
    Calls Tryd.prog 12 #[.int .i64 a, .int .i64 b] w fun e w' => e = .returned (.tuple #[.int .i64 0, .int .i64 2]) ∧ w' = w := by
  cases ha : inB a 0 1099511627776 with
  | false =>
    clear h
    go_enter Tryd.func12, Tryd.ntmps12
    go_wp2_with (go_at_call 60; refine (in_any _ _ _ _).mono ?_; rintro e w' ⟨rfl, rfl⟩)
    go_ret2
    exact ⟨rfl, rfl⟩
  | true =>
    have hb : inB b 0 1099511627776 = false := by rcases h with h | h; exact absurd (ha.symm.trans h) (by decide); exact h
    clear h
    go_enter Tryd.func12, Tryd.ntmps12
    go_wp2_with (go_at_call 60; refine (in_any _ _ _ _).mono ?_; rintro e w' ⟨rfl, rfl⟩)
    go_ret2
    exact ⟨rfl, rfl⟩

/-- The sum that stops. -/
def sumTo (a b : Int) : Int := if 1099511627776 < a + b then 1099511627776 else a + b
theorem sumTo_over {a b : Int} (h : 1099511627776 - a < b) : sumTo a b = 1099511627776 := if_pos (by omega)
theorem sumTo_under {a b : Int} (h : ¬ 1099511627776 - a < b) : sumTo a b = a + b := if_neg (by omega)

theorem refAdd_ok (a b : Int) (w : World) (ha : inB a 0 1099511627776 = true) (hb : inB b 0 1099511627776 = true) :
    Calls Tryd.prog 12 #[.int .i64 a, .int .i64 b] w fun e w' => e = .returned (.tuple #[.int .i64 (sumTo a b), .int .i64 0]) ∧ w' = w := by
  obtain ⟨a0, a1⟩ := Plain.of_inB_true ha
  obtain ⟨b0, b1⟩ := Plain.of_inB_true hb
  by_cases h : 1099511627776 - a < b
  · rw [sumTo_over h]
    go_enter Tryd.func12, Tryd.ntmps12
    go_wp2_with (go_at_call 60; refine (in_any _ _ _ _).mono ?_; rintro e w' ⟨rfl, rfl⟩)
    go_ret2
    exact ⟨rfl, rfl⟩
  · rw [sumTo_under h]
    go_enter Tryd.func12, Tryd.ntmps12
    go_wp2_with (go_at_call 60; refine (in_any _ _ _ _).mono ?_; rintro e w' ⟨rfl, rfl⟩)
    go_ret2
    exact ⟨rfl, rfl⟩

theorem add_ok (a b : Int) (w : World) (ha : inB a 0 1099511627776 = true) (hb : inB b 0 1099511627776 = true) :
    Calls Tryd.prog 13 #[.int .i64 a, .int .i64 b] w fun e w' => e = .returned (.tuple #[.int .i64 (sumTo a b), .nilIface]) ∧ w' = w := by
  obtain ⟨a0, a1⟩ := Plain.of_inB_true ha
  obtain ⟨b0, b1⟩ := Plain.of_inB_true hb
  have i0 : ∀ w, (Instr.index 103 (.agg #[.int .i64 a, .int .i64 b]) (.int .i64 0)).run Tryd.prog w = .ok (.int .i64 a) w := fun _ => by kernel_rfl
  have i1 : ∀ w, (Instr.index 103 (.agg #[.int .i64 a, .int .i64 b]) (.int .i64 1)).run Tryd.prog w = .ok (.int .i64 b) w := fun _ => by kernel_rfl
  by_cases h : 1099511627776 < a + b
  · rw [sumTo_over (a := a) (b := b) (by omega)]
    go_enter Tryd.func13, Tryd.ntmps13
    go_wp2
    refine wp_loop_rounds 3 ?_
    rw [rounds_succ]
    go_wp2_with (go_at_call 61; refine (within_any _ _ _).mono ?_; rintro e w' ⟨rfl, rfl⟩)
    rw [rounds_succ]
    go_wp2_with (go_at_call 61; refine (within_any _ _ _).mono ?_; rintro e w' ⟨rfl, rfl⟩)
    rw [rounds_succ]
    go_wp2_with (go_at_call 61; refine (within_any _ _ _).mono ?_; rintro e w' ⟨rfl, rfl⟩)
    go_ret2
    exact ⟨rfl, rfl⟩
  · rw [sumTo_under (a := a) (b := b) (by omega)]
    go_enter Tryd.func13, Tryd.ntmps13
    go_wp2
    refine wp_loop_rounds 3 ?_
    rw [rounds_succ]
    go_wp2_with (go_at_call 61; refine (within_any _ _ _).mono ?_; rintro e w' ⟨rfl, rfl⟩)
    rw [rounds_succ]
    go_wp2_with (go_at_call 61; refine (within_any _ _ _).mono ?_; rintro e w' ⟨rfl, rfl⟩)
    rw [rounds_succ]
    go_wp2_with (go_at_call 61; refine (within_any _ _ _).mono ?_; rintro e w' ⟨rfl, rfl⟩)
    go_ret2
    exact ⟨rfl, rfl⟩

theorem add_no (a b : Int) (w : World) (h : inB a 0 1099511627776 = false ∨ inB b 0 1099511627776 = false) :
    Calls Tryd.prog 13 #[.int .i64 a, .int .i64 b] w fun e w' => e = .returned (.tuple #[.int .i64 0, .iface 22 (.int .i64 2)]) ∧ w' = w := by
  have i0 : ∀ w, (Instr.index 103 (.agg #[.int .i64 a, .int .i64 b]) (.int .i64 0)).run Tryd.prog w = .ok (.int .i64 a) w := fun _ => by kernel_rfl
  have i1 : ∀ w, (Instr.index 103 (.agg #[.int .i64 a, .int .i64 b]) (.int .i64 1)).run Tryd.prog w = .ok (.int .i64 b) w := fun _ => by kernel_rfl
  cases ha : inB a 0 1099511627776 with
  | false =>
    clear h
    go_enter Tryd.func13, Tryd.ntmps13
    go_wp2
    refine wp_loop_rounds 1 ?_
    rw [rounds_succ]
    go_wp2_with (go_at_call 61; refine (within_any _ _ _).mono ?_; rintro e w' ⟨rfl, rfl⟩)
    go_ret2
    exact ⟨rfl, rfl⟩
  | true =>
    have hb : inB b 0 1099511627776 = false := by rcases h with h | h; exact absurd (ha.symm.trans h) (by decide); exact h
    obtain ⟨a0, a1⟩ := Plain.of_inB_true ha
    clear h
    go_enter Tryd.func13, Tryd.ntmps13
    go_wp2
    refine wp_loop_rounds 2 ?_
    rw [rounds_succ]
    go_wp2_with (go_at_call 61; refine (within_any _ _ _).mono ?_; rintro e w' ⟨rfl, rfl⟩)
    rw [rounds_succ]
    go_wp2_with (go_at_call 61; refine (within_any _ _ _).mono ?_; rintro e w' ⟨rfl, rfl⟩)
    go_ret2
    exact ⟨rfl, rfl⟩

end Go.Proofs.YtbebfliimjjohaaDoor.Clock
