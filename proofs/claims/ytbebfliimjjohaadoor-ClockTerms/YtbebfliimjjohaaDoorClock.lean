/-
  What within, Honest, Short and Add of package clock, and of the document's own answer, return: each as a contract of its call over the turned program.
-/
import Derived.Test.YtbebfliimjjohaaDoorRows
import Derived.WalkKit
import Derived.ProofKit
import Derived.OpenShut
import Derived.WalkLawsBesides
import Derived.Test.YtbebfliimjjohaaDoorPlain
namespace Go.Proofs.YtbebfliimjjohaaDoor.Clock
open Go.ChangeShapes Go.WideShapes Go.ChangeAt Go.RowKit
open Plain (inB honestB short)

theorem within_any (n m : Int) (w : World) :
    Calls Tryd.prog 61 #[.int .i64 n, .int .i64 m] w fun e w' => e = .returned (.bool (inB n 0 m)) ∧ w' = w := by
  by_cases h0 : 0 ≤ n
  · by_cases h1 : n ≤ m
    · rw [Plain.inB_true h0 h1]
      go_enter Tryd.func61, Tryd.ntmps61
      go_wp2
      go_ret
      exact ⟨rfl, rfl⟩
    · rw [Plain.inB_above (by omega)]
      have h2 : decide (n ≤ m) = false := decide_eq_false h1
      go_enter Tryd.func61, Tryd.ntmps61
      go_wp2
      go_ret
      exact ⟨rfl, rfl⟩
  · rw [Plain.inB_below (by omega)]
    have h2 : decide (0 ≤ n) = false := decide_eq_false h0
    go_enter Tryd.func61, Tryd.ntmps61
    go_wp2
    go_ret
    exact ⟨rfl, rfl⟩

theorem in_any (n l m : Int) (w : World) :
    Calls Tryd.prog 60 #[.int .i64 n, .int .i64 l, .int .i64 m] w fun e w' => e = .returned (.bool (inB n l m)) ∧ w' = w := by
  by_cases h0 : l ≤ n
  · by_cases h1 : n ≤ m
    · rw [Plain.inB_true h0 h1]
      go_enter Tryd.func60, Tryd.ntmps60
      go_wp2
      go_ret
      exact ⟨rfl, rfl⟩
    · rw [Plain.inB_above (by omega)]
      have h2 : decide (n ≤ m) = false := decide_eq_false h1
      go_enter Tryd.func60, Tryd.ntmps60
      go_wp2
      go_ret
      exact ⟨rfl, rfl⟩
  · rw [Plain.inB_below (by omega)]
    have h2 : decide (l ≤ n) = false := decide_eq_false h0
    go_enter Tryd.func60, Tryd.ntmps60
    go_wp2
    go_ret
    exact ⟨rfl, rfl⟩

theorem short_ok (d t : Int) (w : World) (h : inB d 0 500 = true) (h' : inB t 0 1099511627776 = true) :
    Calls Tryd.prog 11 #[.int .i64 d, .int .i64 t] w fun e w' => e = .returned (.tuple #[.int .i64 (short d t), .nilIface]) ∧ w' = w := by
  obtain ⟨h0, h1⟩ := Plain.of_inB_true h
  obtain ⟨h2, h3⟩ := Plain.of_inB_true h'
  obtain ⟨hp0, hp1⟩ := Plain.prod_bd (a := t) (b := 1000 - d) (A := 1099511627776) (B := 1000) h2 h3 (by omega) (by omega)
  go_enter Tryd.func11, Tryd.ntmps11
  go_wp2_with (go_at_call 61; refine (within_any _ _ _).mono ?_; rintro e w' ⟨rfl, rfl⟩)
  go_ret2
  exact ⟨rfl, rfl⟩

theorem short_no (d t : Int) (w : World) (h : inB d 0 500 = false ∨ inB t 0 1099511627776 = false) :
    Calls Tryd.prog 11 #[.int .i64 d, .int .i64 t] w fun e w' => e = .returned (.tuple #[.int .i64 0, .iface 22 (.int .i64 2)]) ∧ w' = w := by
  by_cases hd : inB d 0 500 = true
  · have ht : inB t 0 1099511627776 = false := by rcases h with h | h; exact absurd (hd.symm.trans h) (by decide); exact h
    clear h
    go_enter Tryd.func11, Tryd.ntmps11
    go_wp2_with (go_at_call 61; refine (within_any _ _ _).mono ?_; rintro e w' ⟨rfl, rfl⟩)
    go_ret2
    exact ⟨rfl, rfl⟩
  · have hd' : inB d 0 500 = false := by simpa using hd
    clear h hd
    go_enter Tryd.func11, Tryd.ntmps11
    go_wp2_with (go_at_call 61; refine (within_any _ _ _).mono ?_; rintro e w' ⟨rfl, rfl⟩)
    go_ret2
    exact ⟨rfl, rfl⟩

theorem refShort_no (d t : Int) (w : World) (h : inB d 0 500 = false ∨ inB t 0 1099511627776 = false) :
    Calls Tryd.prog 10 #[.int .i64 d, .int .i64 t] w fun e w' => e = .returned (.tuple #[.int .i64 0, .int .i64 2]) ∧ w' = w := by
  by_cases hd : inB d 0 500 = true
  · have ht : inB t 0 1099511627776 = false := by rcases h with h | h; exact absurd (hd.symm.trans h) (by decide); exact h
    clear h
    go_enter Tryd.func10, Tryd.ntmps10
    go_wp2_with (go_at_call 60; refine (in_any _ _ _ _).mono ?_; rintro e w' ⟨rfl, rfl⟩)
    go_ret2
    exact ⟨rfl, rfl⟩
  · have hd' : inB d 0 500 = false := by simpa using hd
    clear h hd
    go_enter Tryd.func10, Tryd.ntmps10
    go_wp2_with (go_at_call 60; refine (in_any _ _ _ _).mono ?_; rintro e w' ⟨rfl, rfl⟩)
    go_ret2
    exact ⟨rfl, rfl⟩

theorem ret_int_nil {a b : Int} (h : a = b) (k : Value) : Ending.returned (.tuple #[.int .i64 a, k]) = .returned (.tuple #[.int .i64 b, k]) := by rw [h]

set_option maxHeartbeats 1000000 in
theorem refShort_ok (d t : Int) (w : World) (h : inB d 0 500 = true) (h' : inB t 0 1099511627776 = true) :
    Calls Tryd.prog 10 #[.int .i64 d, .int .i64 t] w fun e w' => e = .returned (.tuple #[.int .i64 (short d t), .int .i64 0]) ∧ w' = w := by
  obtain ⟨h0, h1⟩ := Plain.of_inB_true h
  obtain ⟨h2, h3⟩ := Plain.of_inB_true h'
  obtain ⟨hp0, hp1⟩ := Plain.prod_bd (a := t) (b := 1000 - d) (A := 1099511627776) (B := 1000) h2 h3 (by omega) (by omega)
  obtain ⟨hs0, hs1⟩ := Plain.short_bd h0 h1 h2
  have HS : Hid (∀ k, k * (1000 + d) ≤ t * (1000 - d) ↔ k ≤ short d t) := fun k => Plain.short_iff h0
  generalize short d t = S at *
  go_enter Tryd.func10, Tryd.ntmps10
  go_wp2_with (go_at_call 60; refine (in_any _ _ _ _).mono ?_; rintro e w' ⟨rfl, rfl⟩)
  go_loop [6, 7] (fun x y => ∃ lo hi : Int, x = .int .i64 lo ∧ y = .int .i64 hi ∧ 0 ≤ lo ∧ lo ≤ S ∧ S ≤ hi ∧ hi ≤ t) (fun x y => (intOf y - intOf x).toNat)
  case atStart => exact ⟨0, t, rfl, rfl, by omega, hs0, hs1, by omega⟩
  case round =>
    obtain ⟨lo, hi, rfl, rfl, hl0, hl1, hl2, hl3⟩ := hrel
    by_cases hlt : lo < hi
    · obtain ⟨hq0, hq1⟩ := Plain.prod_bd (a := (lo + hi + 1) / 2) (b := 1000 + d) (A := 1099511627776) (B := 1500) (by omega) (by omega) (by omega) (by omega)
      have hx := HS.out ((lo + hi + 1) / 2)
      by_cases hm : (lo + hi + 1) / 2 * (1000 + d) ≤ t * (1000 - d)
      · have hk : (lo + hi + 1) / 2 ≤ S := hx.1 hm
        clear hx
        go_wp2
        go_round
        case rel => exact ⟨_, _, rfl, rfl, by omega, hk, hl2, hl3⟩
        case measure => simp [intOf]; omega
      · have hk : ¬ (lo + hi + 1) / 2 ≤ S := fun h => hm (hx.2 h)
        clear hx
        go_wp2
        go_round
        case rel => exact ⟨_, _, rfl, rfl, by omega, hl1, by omega, by omega⟩
        case measure => simp [intOf]; omega
    · go_wp2
      go_ret2
      exact ⟨ret_int_nil (by omega) _, rfl⟩

end Go.Proofs.YtbebfliimjjohaaDoor.Clock
