/-
  Where a message's numbers lie, and whether one of them may not be: contracts of wire.numbers, of the closure in wire.mayBe and of slices.ContainsFunc over the turned program.
-/
import Derived.Test.YtbebfliimjjohaaDoorAdd
import Derived.StillTailTactics
import Derived.BigRegion
namespace Go.Proofs.YtbebfliimjjohaaDoor.Wire
open Go.RowKit
open Num (inB nb numB body ints M okB leaseN)

/-- Where a message's numbers lie. -/
abbrev ptrs (b : Nat) : Array Value := #[.pointer (some ⟨b, 0, none⟩), .pointer (some ⟨b, 1, none⟩), .pointer (some ⟨b, 2, none⟩), .pointer (some ⟨b, 3, none⟩), .pointer (some ⟨b, 4, none⟩), .pointer (some ⟨b, 5, none⟩), .pointer (some ⟨b, 6, none⟩)]

set_option maxHeartbeats 1000000 in
set_option maxRecDepth 100000 in
theorem numbers_any (b : Nat) (w : World) :
    Calls Tryd.prog 66 #[.pointer (some ⟨b, 0, none⟩)] w fun e w' => e = .returned (.agg (ptrs b)) ∧ Below w.heap.size w w' := by
  go_enter Tryd.func66, Tryd.ntmps66
  go_wp2
  go_still_tail 22, (by kernel_rfl)
  change wpList _ _ _ _ _ (World.drew (w.alloc _))
  go_wp2
  refine bodyPost_ret (v := .agg (ptrs b)) (by simp [ptrs, results, Tryd.results66, go_sem]) rfl ⟨rfl, ((Below.refl _ _).alloc (Nat.le_refl _) _).drew⟩

theorem closure_any (b j : Nat) (n : Int) (w : World) (hc : w.cell? ⟨b, j, none⟩ = some (.int .i64 n)) :
    Calls Tryd.prog 86 #[.pointer (some ⟨b, j, none⟩)] w fun e w' => e = .returned (.bool (!numB n)) ∧ w' = w := by
  unfold numB
  by_cases h0 : 0 ≤ n
  · by_cases h1 : n ≤ 1099511627776
    · rw [Num.inB_true h0 h1]
      go_enter Tryd.func86, Tryd.ntmps86
      go_wp2
      go_ret
      refine ⟨?_, rfl⟩
      show Ending.returned (.bool (decide (n < 0) || decide (1099511627776 < n))) = _
      rw [decide_eq_false (by omega), decide_eq_false (by omega)]
      rfl
    · rw [Num.inB_above (by omega)]
      go_enter Tryd.func86, Tryd.ntmps86
      go_wp2
      go_ret
      exact ⟨rfl, rfl⟩
  · rw [Num.inB_below (by omega)]
    go_enter Tryd.func86, Tryd.ntmps86
    go_wp2
    go_ret
    exact ⟨rfl, rfl⟩

theorem all_upto {ns : List Int} (h : ∀ j, j < ns.length → numB (ns.getD j 0) = true) : ns.all numB = true := by
  rw [List.all_eq_true]
  intro x hx
  obtain ⟨j, hj, rfl⟩ := List.getElem_of_mem hx
  have := h j hj
  rwa [List.getD_eq_getElem?_getD, List.getElem?_eq_getElem hj] at this

theorem not_all {ns : List Int} {j : Nat} (hj : j < ns.length) (h : numB (ns.getD j 0) = false) : ns.all numB = false := by
  rw [List.getD_eq_getElem?_getD, List.getElem?_eq_getElem hj] at h
  rw [List.all_eq_false]
  exact ⟨_, List.getElem_mem hj, by simpa using h⟩

set_option maxHeartbeats 1000000 in
set_option maxRecDepth 100000 in
theorem index_any (a b : Nat) (ns : List Int) (w : World) (hl : ns.length = 7) (hp : ∀ k, k < 7 → w.cell? ⟨a, k, none⟩ = some (.pointer (some ⟨b, k, none⟩)))
    (hc : ∀ k, k < 7 → w.cell? ⟨b, k, none⟩ = some (.int .i64 (ns.getD k 0))) :
    Calls Tryd.prog 94 #[.slice (some ⟨a, 0, none⟩) 7 7, .func (.func 86) #[] #[]] w fun e w' => ∃ r : Int, e = .returned (.int .i64 r) ∧ decide (0 ≤ r) = !(ns.all numB) ∧ w' = w := by
  go_enter Tryd.func94, Tryd.ntmps94
  go_wp2
  go_loop [8] (fun i => ∃ k : Nat, k ≤ 7 ∧ i = .int .i64 k ∧ ∀ j, j < k → numB (ns.getD j 0) = true) (fun i => 7 - (intOf i).toNat)
  case atStart => exact ⟨0, by omega, rfl, fun j hj => by omega⟩
  case round =>
    obtain ⟨k, hk, rfl, hgood⟩ := hrel
    by_cases hlt : k < 7
    · have hpk := hp k hlt
      have hck := hc k hlt
      obtain ⟨x, hx⟩ : ∃ x, ns.getD k 0 = x := ⟨_, rfl⟩
      rw [hx] at hck
      have HX : Hid (ns.getD k 0 = x) := hx
      have HG : Hid (∀ j, j < k → numB (ns.getD j 0) = true) := hgood
      clear hx hgood
      cases hb : numB x with
      | true =>
        go_wp2_with (go_at_call 86; refine (closure_any b k x _ hck).mono ?_; rintro e w' ⟨rfl, rfl⟩)
        go_round
        case rel =>
          refine ⟨k + 1, by omega, by go_num, fun j hj => ?_⟩
          rcases Nat.lt_or_ge j k with h | h
          · exact HG.out j h
          · obtain rfl : j = k := by omega
            rw [HX.out]; exact hb
        case measure => simp [intOf]; omega
      | false =>
        go_wp2_with (go_at_call 86; refine (closure_any b k x _ hck).mono ?_; rintro e w' ⟨rfl, rfl⟩)
        go_ret
        exact ⟨k, rfl, by rw [not_all (j := k) (by omega) (by rw [HX.out]; exact hb)]; simp, rfl⟩
    · have HA : Hid (ns.all numB = true) := all_upto (fun j hj => hgood j (by omega))
      clear hgood
      go_wp2
      go_ret
      exact ⟨-1, rfl, by rw [HA.out]; rfl, rfl⟩

theorem contains_any (a b : Nat) (ns : List Int) (w : World) (hl : ns.length = 7) (hp : ∀ k, k < 7 → w.cell? ⟨a, k, none⟩ = some (.pointer (some ⟨b, k, none⟩)))
    (hc : ∀ k, k < 7 → w.cell? ⟨b, k, none⟩ = some (.int .i64 (ns.getD k 0))) :
    Calls Tryd.prog 85 #[.slice (some ⟨a, 0, none⟩) 7 7, .func (.func 86) #[] #[]] w fun e w' => e = .returned (.bool (!(ns.all numB))) ∧ w' = w := by
  go_enter Tryd.func85, Tryd.ntmps85
  go_wp2_with (go_at_call 94; refine (index_any a b ns _ hl hp hc).mono ?_; rintro e w' ⟨r, rfl, hr, rfl⟩)
  go_ret
  exact ⟨by rw [← hr]; rfl, rfl⟩

end Go.Proofs.YtbebfliimjjohaaDoor.Wire
