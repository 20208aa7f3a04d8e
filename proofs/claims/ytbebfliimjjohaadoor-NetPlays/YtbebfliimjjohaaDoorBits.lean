/-
  A shift by sevens, and an or of numbers that share no bit, as sums.
-/
import Derived.Lib.EndianBits
namespace Go.Proofs.YtbebfliimjjohaaDoor.Wire

theorem wraps_i64 (n : Int) (h0 : 0 ≤ n) (h1 : n < 2 ^ 63) : IntKind.i64.wrap n = n := by
  rw [IntKind.wrap_i64]
  omega

theorem pow_le (k : Nat) (hk : k ≤ 5) : (128 : Int) ^ k ≤ 34359738368 ∧ (0 : Int) < 128 ^ k := by
  match k, hk with
  | 0, _ => decide
  | 1, _ => decide
  | 2, _ => decide
  | 3, _ => decide
  | 4, _ => decide
  | 5, _ => decide

theorem pow_two (k : Nat) : (2 : Int) ^ (7 * k) = 128 ^ k := by rw [Int.pow_mul]; rfl

theorem prod_le (y : Int) (k : Nat) (hk : k ≤ 5) (hy : 0 ≤ y) (hy1 : y < 128) : 0 ≤ y * 128 ^ k ∧ y * 128 ^ k < 2 ^ 63 := by
  obtain ⟨hb, hp⟩ := pow_le k hk
  generalize (128 : Int) ^ k = q at *
  have h : y * q ≤ 127 * 34359738368 := Int.mul_le_mul (by omega) hb (by omega) (by omega)
  exact ⟨Int.mul_nonneg hy (by omega), by omega⟩

/-- A shift by whatever number of bytes; as long as they fit it is a product. -/
theorem shl_any (P : Program) (y : Int) (k : Nat) (hy : 0 ≤ y) (hy1 : y < 128) : ∃ z : Int, (∀ w, (Op.shift .shl .i64 y .i64 (7 * (k : Int))).run P w = .ok (.int .i64 z) w) ∧ (k ≤ 5 → z = y * 128 ^ k) := by
  refine ⟨IntKind.i64.wrap (y * 2 ^ min (7 * (k : Int)).toNat IntKind.i64.bits), fun w => ?_, fun hk => ?_⟩
  · have h : ¬ (7 * (k : Int) < 0) := by omega
    simp only [Op.shift, if_neg h, Sem.run_pure]
  · have e : min (7 * (k : Int)).toNat IntKind.i64.bits = 7 * k := by
      show min (7 * (k : Int)).toNat 64 = 7 * k
      omega
    have hb := prod_le y k hk hy hy1
    rw [e, pow_two]
    exact wraps_i64 _ hb.1 hb.2

theorem or_any (x y z : Int) (k : Nat) (hk : k ≤ 5) (hx : 0 ≤ x ∧ x < 128 ^ k) (hy : 0 ≤ y) (hy1 : y < 128) (hz : z = y * 128 ^ k) : bits .or .i64 x z = x + y * 128 ^ k := by
  subst hz
  have hb := prod_le y k hk hy hy1
  have hq := pow_le k hk
  have hx2 : x < 2 ^ 63 := by
    have h1 := hx.2
    have h2 := hq.1
    generalize (128 : Int) ^ k = q at *
    omega
  exact bits_join_low .i64 63 (by decide) wraps_i64 (7 * k) x (y * 128 ^ k) hx.1 (by rw [pow_two]; exact hx.2) hx2 hb.1 (by rw [pow_two]; exact Int.mul_emod_left _ _) hb.2

end Go.Proofs.YtbebfliimjjohaaDoor.Wire
