/-
  Plain arithmetic on clocks that drift: what a search by halves finds, and bounds of products.
-/
namespace Go.Proofs.YtbebfliimjjohaaDoor.Plain

/-- Is n from l to h? -/
def inB (n l h : Int) : Bool := decide (l ≤ n ∧ n ≤ h)
theorem inB_true {n l h : Int} (h1 : l ≤ n) (h2 : n ≤ h) : inB n l h = true := by simp [inB, h1, h2]
theorem inB_below {n l h : Int} (h1 : n < l) : inB n l h = false := by simp [inB]; omega
theorem inB_above {n l h : Int} (h1 : h < n) : inB n l h = false := by simp [inB]; omega
theorem of_inB_true {n l h : Int} (h1 : inB n l h = true) : l ≤ n ∧ n ≤ h := by simpa [inB] using h1

/-- What Honest answers. -/
def honestB (d g l : Int) : Bool :=
  inB d 0 500 && inB g 0 1099511627776 && inB l 0 2199023255552 && inB (1000 * l) (g * (1000 - d)) (g * (1000 + d))

/-- A product of two numbers within bounds lies within the bounds' product. -/
theorem prod_bd {a b A B : Int} (h0 : 0 ≤ a) (h1 : a ≤ A) (h2 : 0 ≤ b) (h3 : b ≤ B) : 0 ≤ a * b ∧ a * b ≤ A * B :=
  ⟨Int.mul_nonneg h0 h2, Int.mul_le_mul h1 h3 h2 (by omega)⟩

/-- The short of a term. -/
def short (d t : Int) : Int := t * (1000 - d) / (1000 + d)

theorem short_iff {d t k : Int} (hd : 0 ≤ d) : k * (1000 + d) ≤ t * (1000 - d) ↔ k ≤ short d t :=
  (Int.le_ediv_iff_mul_le (by omega)).symm

theorem short_bd {d t : Int} (hd : 0 ≤ d) (hd1 : d ≤ 500) (ht : 0 ≤ t) : 0 ≤ short d t ∧ short d t ≤ t := by
  constructor
  · exact (short_iff hd).1 (by have := Int.mul_nonneg ht (show 0 ≤ 1000 - d by omega); omega)
  · apply Int.le_of_lt_add_one
    apply Int.not_le.1
    intro h
    have h1 := (short_iff (k := t + 1) hd).2 h
    have h2 : (t + 1) * (1000 + d) = t * 1000 + t * d + (1000 + d) := by rw [Int.add_mul, Int.mul_add, Int.one_mul]
    have h3 : t * (1000 - d) = t * 1000 - t * d := Int.mul_sub _ _ _
    have h4 := Int.mul_nonneg ht hd
    omega

end Go.Proofs.YtbebfliimjjohaaDoor.Plain
