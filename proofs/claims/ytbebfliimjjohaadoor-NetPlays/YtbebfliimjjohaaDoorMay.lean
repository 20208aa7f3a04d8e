/-
  Which messages may be, by wire.mayBe, over the turned program.
-/
import Derived.Test.YtbebfliimjjohaaDoorIdx
namespace Go.Proofs.YtbebfliimjjohaaDoor.Wire
open Go.RowKit
open Num (inB nb numB body ints M okB leaseN)

theorem bcell {W w1 : World} (hb : Below W.heap.size W w1) : (∀ b o, b < W.heap.size → w1.cell? ⟨b, o, none⟩ = W.cell? ⟨b, o, none⟩) ∧ (∀ b o, b < W.heap.size → w1.frozen? ⟨b, o, none⟩ = W.frozen? ⟨b, o, none⟩) :=
  ⟨fun b o h => hb.cell (p := ⟨b, o, none⟩) h, fun b o h => hb.frozen (p := ⟨b, o, none⟩) h⟩

theorem seven {Q : Nat → Prop} (h0 : Q 0) (h1 : Q 1) (h2 : Q 2) (h3 : Q 3) (h4 : Q 4) (h5 : Q 5) (h6 : Q 6) : ∀ k, k < 7 → Q k := by
  intro k hk
  match k, hk with
  | 0, _ => exact h0
  | 1, _ => exact h1
  | 2, _ => exact h2
  | 3, _ => exact h3
  | 4, _ => exact h4
  | 5, _ => exact h5
  | 6, _ => exact h6

theorem ptr_cells (w : World) (b : Nat) (t : TypeId) : ∀ k, k < 7 → (w.alloc (.cells (ptrs b) t)).cell? ⟨w.heap.size, k, none⟩ = some (.pointer (some ⟨b, k, none⟩)) := by
  apply seven <;> simp

theorem msg_cells (w w' : World) (k c n e s o v : Int) (l : Bool) (d : ByteArray) (t t2 : TypeId) (x : Array Value)
    (hb : Below (w.alloc (.cells #[.int .i64 k, .int .i64 c, .int .i64 n, .int .i64 e, .int .i64 s, .int .i64 o, .int .i64 v, .bool l, .string d] t)).heap.size (w.alloc (.cells #[.int .i64 k, .int .i64 c, .int .i64 n, .int .i64 e, .int .i64 s, .int .i64 o, .int .i64 v, .bool l, .string d] t)) w') :
    ∀ j, j < 7 → (w'.alloc (.cells x t2)).cell? ⟨w.heap.size, j, none⟩ = some (.int .i64 ([k, c, n, e, s, o, v].getD j 0)) := by
  have hz := hb.size
  simp at hz
  intro j hj
  rw [World.cell?_alloc_lt _ _ ⟨w.heap.size, j, none⟩ (by show w.heap.size < _; omega), (bcell hb).1 _ _ (by simp)]
  revert j
  apply seven <;> simp

/-- What a message reads as. -/
def M.agg (m : M) : Value := .agg #[.int .i64 m.k, .int .i64 m.c, .int .i64 m.n, .int .i64 m.e, .int .i64 m.s, .int .i64 m.o, .int .i64 m.v, .bool m.l, .string m.d]

set_option maxHeartbeats 1000000 in
set_option maxRecDepth 100000 in
theorem mayBe_any (m : M) (w : World) (hd : m.d.size ≤ 1000) :
    Calls Tryd.prog 65 #[M.agg m] w fun e w' => e = .returned (.bool (okB m)) ∧ Below w.heap.size w w' := by
  obtain ⟨k, c, n, e, s, o, v, l, d⟩ := m
  unfold M.agg
  dsimp only at *
  by_cases hk : inB k 1 9 = true
  · have ⟨hk1, hk2⟩ := Num.of_inB_true hk
    by_cases hd2 : d.size ≤ 20
    · have hok : okB ⟨k, c, n, e, s, o, v, l, d⟩ = [k, c, n, e, s, o, v].all numB := by simp [okB, hk, hd2, M.nums]
      rw [hok]
      clear hok
      go_enter Tryd.func65, Tryd.ntmps65
      go_wp2_with (go_at_call 66; refine (numbers_any _ _).mono ?_; rintro e w' ⟨rfl, hb⟩; obtain ⟨hc, hf⟩ := bcell hb)
      refine (contains_any _ w.heap.size [k, c, n, e, s, o, v] _ rfl (ptr_cells _ _ _) (msg_cells _ _ _ _ _ _ _ _ _ _ _ _ _ _ hb)).mono ?_
      rintro e w2 ⟨rfl, rfl⟩
      go_wp2
      go_ret
      refine ⟨by simp, ?_⟩
      have hz := hb.size
      simp at hz
      exact (((Below.refl _ _).alloc (Nat.le_refl _) _).trans (hb.mono (by simp))).alloc (by omega) _
    · have hok : okB ⟨k, c, n, e, s, o, v, l, d⟩ = false := by simp [okB, hk, hd2]
      rw [hok]
      clear hok
      go_enter Tryd.func65, Tryd.ntmps65
      go_wp2_with fail
      go_ret
      exact ⟨rfl, (Below.refl _ _).alloc (Nat.le_refl _) _⟩
  · have hok : okB ⟨k, c, n, e, s, o, v, l, d⟩ = false := by simp [okB, hk]
    rw [hok]
    clear hok
    have hk' : k < 1 ∨ 9 < k := by
      by_cases h : k < 1
      · exact .inl h
      · refine .inr ?_
        rcases Int.lt_or_le 9 k with h' | h'
        · exact h'
        · exact absurd (Num.inB_true (by omega) h') hk
    clear hk
    rcases hk' with h | h
    · go_enter Tryd.func65, Tryd.ntmps65
      go_wp2_with fail
      go_ret
      exact ⟨rfl, (Below.refl _ _).alloc (Nat.le_refl _) _⟩
    · go_enter Tryd.func65, Tryd.ntmps65
      go_wp2_with fail
      go_ret
      exact ⟨rfl, (Below.refl _ _).alloc (Nat.le_refl _) _⟩
end Go.Proofs.YtbebfliimjjohaaDoor.Wire
