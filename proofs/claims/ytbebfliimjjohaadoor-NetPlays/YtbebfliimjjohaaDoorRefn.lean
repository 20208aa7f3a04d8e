/-
  The document's own answer: tenureref.in, list and number, over the turned program.
-/
import Derived.Test.YtbebfliimjjohaaDoorEnc
namespace Go.Proofs.YtbebfliimjjohaaDoor.Wire
open Go.RowKit
open Num (inB nb numB body ints M okB leaseN)

theorem in_any (n l m : Int) (w : World) :
    Calls Tryd.prog 60 #[.int .i64 n, .int .i64 l, .int .i64 m] w fun e w' => e = .returned (.bool (inB n l m)) ∧ w' = w := by
  by_cases h0 : l ≤ n
  · by_cases h1 : n ≤ m
    · rw [Num.inB_true h0 h1]
      go_enter Tryd.func60, Tryd.ntmps60
      go_wp2
      go_ret
      exact ⟨rfl, rfl⟩
    · rw [Num.inB_above (by omega)]
      have h2 : decide (n ≤ m) = false := decide_eq_false h1
      go_enter Tryd.func60, Tryd.ntmps60
      go_wp2
      go_ret
      exact ⟨rfl, rfl⟩
  · rw [Num.inB_below (by omega)]
    have h2 : decide (l ≤ n) = false := decide_eq_false h0
    go_enter Tryd.func60, Tryd.ntmps60
    go_wp2
    go_ret
    exact ⟨rfl, rfl⟩

/-- Seven numbers in a block. -/
abbrev sevenInts (m : M) : Array Value := #[.int .i64 m.k, .int .i64 m.c, .int .i64 m.n, .int .i64 m.e, .int .i64 m.s, .int .i64 m.o, .int .i64 m.v]

set_option maxRecDepth 100000 in
theorem list_any (m : M) (w : World) :
    Calls Tryd.prog 63 #[M.agg m] w fun e w' => ∃ b, e = .returned (.slice (some ⟨b, 0, none⟩) 7 7) ∧ w.heap.size ≤ b ∧ b < w'.heap.size ∧ (∀ j, j < 7 → w'.cell? ⟨b, j, none⟩ = some (.int .i64 (m.nums.getD j 0))) ∧ Below w.heap.size w w' := by
  obtain ⟨k, c, n, e, s, o, v, l, d⟩ := m
  unfold M.agg
  dsimp only
  go_enter Tryd.func63, Tryd.ntmps63
  go_wp2
  go_ret
  refine ⟨_, rfl, ?_, ?_, ?_, ((Below.refl _ _).alloc (Nat.le_refl _) _).alloc (by simp) _⟩
  · simp
  · simp
  · unfold M.nums
    apply seven <;> simp

/-- What a fresh slice's row gives: its head, and its cells. -/
theorem Has.parts {w : World} {B : Nat} {v : Value} {l : List Int} (h : Has w B v l) (hl : 0 < l.length) :
    ∃ g cap, v = .slice (some ⟨g, 0, none⟩) l.length cap ∧ B ≤ g ∧ g < w.heap.size ∧ ∀ j u, (l.map (Value.int .u8))[j]? = some u → w.cell? ((⟨g, 0, none⟩ : Addr).add j) = some u := by
  have hlt := h.row.lt
  rcases h.2 with ⟨_, h0⟩ | ⟨g, cap, cur, rfl, hb, hg, _⟩
  · omega
  · exact ⟨g, cap, rfl, hb, (hlt g rfl).2, h.row.cells rfl⟩

theorem Has.lit (w : World) (x : Int) : Has (w.alloc (.cells #[.int .u8 x] 5)) w.heap.size (.slice (some ⟨w.heap.size, 0, none⟩) 1 1) [x] :=
  World.ownsRow_lit w #[.int .u8 x] 1 (Nat.le_refl _) (by decide) rfl

/-- What a row of the call's own is behind a call that makes new blocks alone. -/
theorem Has.below {w w' : World} {B C : Nat} {v : Value} {l : List Int} (h : Has w B v l) (hb : Below C w w') (hC : w.heap.size ≤ C) : Has w' B v l := by
  refine ⟨h.1, ?_⟩
  rcases h.2 with h | ⟨g, cap, cur, h1, h2, h3, h4⟩
  · exact .inl h
  · have hlt : g < w.heap.size := (Array.getElem?_eq_some_iff.1 h3).1
    exact .inr ⟨g, cap, cur, h1, h2, (hb.block g (by omega)).trans h3, h4⟩

set_option maxHeartbeats 1000000 in
set_option maxRecDepth 100000 in
theorem number_any (f : Nat) : ∀ (n : Nat) (w : World), f ≤ 8 → n < 128 ^ (f + 1) →
    Calls Tryd.prog 64 #[.int .i64 n] w fun e w' => ∃ g cap, e = .returned (.slice (some ⟨g, 0, none⟩) (nb n).length cap) ∧ Has w' w.heap.size (.slice (some ⟨g, 0, none⟩) (nb n).length cap) (nb n) ∧ Below w.heap.size w w' := by
  obtain ⟨i0, hi, hz0, hz1, hz2⟩ := info_parts info_byte
  induction f with
  | zero =>
    intro n w _ hn
    have hlt : n < 128 := by simpa using hn
    rw [Num.nb_lt hlt]
    clear hn
    go_enter Tryd.func64, Tryd.ntmps64
    go_wp2_with fail
    go_ret
    exact ⟨_, _, rfl, Has.lit _ _, (Below.refl _ _).alloc (Nat.le_refl _) _⟩
  | succ f ih =>
    intro n w hf hn
    by_cases hlt : n < 128
    · rw [Num.nb_lt hlt]
      clear hn ih
      go_enter Tryd.func64, Tryd.ntmps64
      go_wp2_with fail
      go_ret
      exact ⟨_, _, rfl, Has.lit _ _, (Below.refl _ _).alloc (Nat.le_refl _) _⟩
    · have hn2 : n / 128 < 128 ^ (f + 1) := by rw [Nat.div_lt_iff_lt_mul (by omega)]; rw [Nat.pow_succ] at hn; exact hn
      have hbig : n < 128 ^ 9 := Nat.lt_of_lt_of_le hn (Nat.pow_le_pow_right (by omega) (by omega))
      have hbig' : n < 9223372036854775808 := hbig
      clear hbig hn
      have IH := fun w => ih (n / 128) w (by omega) hn2
      clear ih
      go_enter Tryd.func64, Tryd.ntmps64
      go_wp2_with (first | (go_at_call 64; refine (IH _).mono ?_; rintro e w1 ⟨g, cap, rfl, hw1, hb1⟩) | (at_builtin; refine wpList_append_own _ rfl _ _ 33 rfl w.heap.size 5 i0 (.int .u8 0) 1 1 Tryd.underlying33 hi hz0 hz1 hz2 rfl (by decide) _ 1 [.int .u8 ((n : Int) % 128 + 128)] rfl ?r1 ⟨g, 0, none⟩ _ cap ((nb (n / 128)).map (Value.int .u8)) rfl ?r2 (hw1.row.cells rfl) (ints_oneCell _ _) ?r3 ?r4 ?r5 ?_))
      case r1 => exact (Has.lit w ((n : Int) % 128 + 128)).below hb1 (Nat.le_refl _)
      case r2 => simp
      case r3 => have := Num.nb_length f _ hn2; unfold maxLen; omega
      case r4 => have := Num.nb_length f _ hn2; omega
      case r5 => have := hb1.size; simp at this; omega
      intro v2 w2 hown2 hg2 _
      have H1 := (Has.lit w ((n : Int) % 128 + 128)).below hb1 (Nat.le_refl _)
      have hz1 := hb1.size
      simp at hz1
      have R : Has w2 w.heap.size v2 (nb n) := by
        rw [Num.nb_ge hlt]
        unfold Has
        rw [List.length_cons, List.map_cons, Nat.add_comm]
        exact hown2
      have R2 : Below w.heap.size w w2 := (((Below.refl _ _).alloc (Nat.le_refl _) _).trans (hb1.mono (by simp))).grown hg2 (by omega) (fun k hk => (H1.row.lt k hk).1)
      obtain ⟨g2, cap2, hv2, _⟩ := R.parts (Num.nb_pos n)
      rw [hv2] at R
      clear hown2 hg2 hw1 hb1 IH H1
      rw [hv2]
      go_wp2
      go_ret
      exact ⟨g2, cap2, rfl, R, R2⟩
end Go.Proofs.YtbebfliimjjohaaDoor.Wire
