/-
  Plain arithmetic on clocks that drift: short is short enough, and every whole number between the bounds is honest.
-/
namespace Go.Proofs.Ytbebfliimjjohaa.Plain

/-- A product of two numbers within bounds lies within the bounds' product. -/
theorem prod_bd {a b A B : Int} (h0 : 0 ≤ a) (h1 : a ≤ A) (h2 : 0 ≤ b) (h3 : b ≤ B) : 0 ≤ a * b ∧ a * b ≤ A * B :=
  ⟨Int.mul_nonneg h0 h2, Int.mul_le_mul h1 h3 h2 (by omega)⟩

/-- Short is short enough. -/
theorem short_enough {d t g a b : Int} (hd0 : 0 ≤ d) (hd1 : d ≤ 500) (hg : g * (1000 - d) ≤ 1000 * a) (hb : 1000 * b ≤ g * (1000 + d))
    (ha : a ≤ t * (1000 - d) / (1000 + d)) : b ≤ t := by
  have h1 : a * (1000 + d) ≤ t * (1000 - d) := by
    have := (Int.le_ediv_iff_mul_le (a := a) (b := t * (1000 - d)) (c := 1000 + d) (by omega)).1 ha
    exact this
  have h2 : 1000 * b * (1000 - d) ≤ g * (1000 + d) * (1000 - d) := Int.mul_le_mul_of_nonneg_right hb (by omega)
  have h3 : g * (1000 - d) * (1000 + d) ≤ 1000 * a * (1000 + d) := Int.mul_le_mul_of_nonneg_right hg (by omega)
  have h4 : g * (1000 + d) * (1000 - d) = g * (1000 - d) * (1000 + d) := by rw [Int.mul_assoc, Int.mul_comm (1000 + d), ← Int.mul_assoc]
  have h5 : 1000 * a * (1000 + d) = 1000 * (a * (1000 + d)) := Int.mul_assoc _ _ _
  have h6 : 1000 * b * (1000 - d) = 1000 * (b * (1000 - d)) := Int.mul_assoc _ _ _
  have h7 : b * (1000 - d) ≤ t * (1000 - d) := by omega
  exact Int.le_of_mul_le_mul_right h7 (by omega)

/-- The whole number itself lies between the two bounds. -/
theorem low_le_high {d g : Int} (hd0 : 0 ≤ d) (hg : 0 ≤ g) : (g * (1000 - d) + 999) / 1000 ≤ g * (1000 + d) / 1000 := by
  have h1 : g * (1000 - d) = g * 1000 - g * d := Int.mul_sub _ _ _
  have h2 : g * (1000 + d) = g * 1000 + g * d := Int.mul_add _ _ _
  have h3 : 0 ≤ g * d := Int.mul_nonneg hg hd0
  rw [h1, h2]
  omega

end Go.Proofs.Ytbebfliimjjohaa.Plain
