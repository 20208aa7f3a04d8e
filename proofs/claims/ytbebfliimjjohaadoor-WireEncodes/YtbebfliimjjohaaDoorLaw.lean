/-
  What tenurelaw.told and the document's Encode answer, over the turned program.
-/
import Derived.Test.YtbebfliimjjohaaDoorRefe
import Derived.Test.YtbebfliimjjohaaDoorBare
import Derived.Test.YtbebfliimjjohaaDoorStr
namespace Go.Proofs.YtbebfliimjjohaaDoor.Wire
open Go.RowKit
open Num (inB nb numB body ints M okB leaseN)

set_option maxHeartbeats 1000000 in
set_option maxRecDepth 100000 in
theorem told_any (m : M) (w : World) :
    Calls Tryd.prog 18 #[M.agg m] w fun e w' => e = .returned (M.agg m) ∧ Below w.heap.size w w' := by
  obtain ⟨k, c, n, e, s, o, v, l, d⟩ := m
  unfold M.agg
  dsimp only
  go_enter Tryd.func18, Tryd.ntmps18
  go_wp2
  refine bodyPost_ret (v := .agg #[.int .i64 k, .int .i64 c, .int .i64 n, .int .i64 e, .int .i64 s, .int .i64 o, .int .i64 v, .bool l, .string d]) (by simp [results, Tryd.results18, go_sem]) rfl ⟨rfl, ?_⟩
  exact ((Below.refl _ _).alloc (Nat.le_refl _) _).alloc (by simp) _

theorem refe_bad (m : M) (w : World) (hd : m.d.size ≤ 1000) (hm : okB m = false) :
    Calls Tryd.prog 17 #[M.agg m] w fun e w' => e = .returned (.tuple #[.slice none 0 0, .int .i64 1]) ∧ Below w.heap.size w w' := by
  by_cases h : inB m.k 1 9 = false ∨ 20 < m.d.size
  · exact refe_head m w hd h
  · have hk : inB m.k 1 9 = true := by cases hh : inB m.k 1 9 with
      | true => rfl
      | false => exact absurd (.inl hh) h
    have h2 : m.d.size ≤ 20 := by rcases Nat.lt_or_ge 20 m.d.size with h' | h'
                                  · exact absurd (.inr h') h
                                  · exact h'
    refine (refe_tail m w hk h2).mono ?_
    rintro e w' ⟨v, q, rfl, h3, hb⟩
    rcases h3 with ⟨h3, _⟩ | ⟨_, rfl, rfl⟩
    · exact absurd hm (by simp [okB, hk, h2, h3])
    · exact ⟨rfl, hb⟩

theorem refe_ok (m : M) (w : World) (hm : okB m = true) :
    Calls Tryd.prog 17 #[M.agg m] w fun e w' => ∃ v, e = .returned (.tuple #[v, .int .i64 0]) ∧ Has w' w.heap.size v m.bytes ∧ Below w.heap.size w w' := by
  have hm' := hm
  simp only [okB, Bool.and_eq_true, decide_eq_true_eq] at hm'
  refine (refe_tail m w hm'.1.1 hm'.1.2).mono ?_
  rintro e w' ⟨v, q, rfl, h3, hb⟩
  rcases h3 with ⟨_, rfl, h3⟩ | ⟨h3, _⟩
  · exact ⟨v, rfl, h3, hb⟩
  · rw [hm'.2] at h3; cases h3

end Go.Proofs.YtbebfliimjjohaaDoor.Wire
