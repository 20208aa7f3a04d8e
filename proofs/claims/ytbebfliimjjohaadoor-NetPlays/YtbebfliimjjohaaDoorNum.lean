/-
  A number in seven bits a byte, a message and its bytes: plain lists.
-/
namespace Go.Proofs.YtbebfliimjjohaaDoor.Num

/-- Is n from l to h? -/
def inB (n l h : Int) : Bool := decide (l ≤ n ∧ n ≤ h)
theorem inB_true {n l h : Int} (h1 : l ≤ n) (h2 : n ≤ h) : inB n l h = true := by simp [inB, h1, h2]
theorem inB_below {n l h : Int} (h1 : n < l) : inB n l h = false := by simp [inB]; omega
theorem inB_above {n l h : Int} (h1 : h < n) : inB n l h = false := by simp [inB]; omega
theorem of_inB_true {n l h : Int} (h1 : inB n l h = true) : l ≤ n ∧ n ≤ h := by simpa [inB] using h1

/-- A number's bytes: seven bits a byte, the least ones first, 128 more in all but the last one (f: a bound on their number). -/
def nbF : Nat → Nat → List Int
  | 0, n => [(n : Int)]
  | f + 1, n => if n < 128 then [(n : Int)] else ((n % 128 + 128 : Nat) : Int) :: nbF f (n / 128)

def nb (n : Nat) : List Int := nbF n n

theorem nbF_same : ∀ (f g n : Nat), n ≤ f → n ≤ g → nbF f n = nbF g n := by
  intro f
  induction f with
  | zero =>
    intro g n hf _
    cases g with
    | zero => rfl
    | succ g => rw [nbF, nbF, if_pos (by omega)]
  | succ f ih =>
    intro g n hf hg
    cases g with
    | zero => rw [nbF, nbF, if_pos (by omega)]
    | succ g =>
      rw [nbF, nbF]
      by_cases h : n < 128
      · rw [if_pos h, if_pos h]
      · rw [if_neg h, if_neg h, ih g (n / 128) (by omega) (by omega)]

theorem nb_lt {n : Nat} (h : n < 128) : nb n = [(n : Int)] := by
  unfold nb
  cases n with
  | zero => rfl
  | succ k => rw [nbF, if_pos h]
theorem nb_ge {n : Nat} (h : ¬ n < 128) : nb n = ((n % 128 + 128 : Nat) : Int) :: nb (n / 128) := by
  unfold nb
  cases n with
  | zero => exact absurd (by omega) h
  | succ k =>
    rw [nbF, if_neg h]
    rw [nbF_same k ((k + 1) / 128) ((k + 1) / 128) (by omega) (by omega)]

theorem nb_length (f : Nat) : ∀ n : Nat, n < 128 ^ (f + 1) → (nb n).length ≤ f + 1 := by
  induction f with
  | zero => intro n h; rw [nb_lt (by simpa using h)]; simp
  | succ f ih =>
    intro n h
    by_cases h1 : n < 128
    · rw [nb_lt h1]; simp
    · rw [nb_ge h1, List.length_cons]
      have := ih (n / 128) (by rw [Nat.div_lt_iff_lt_mul (by omega)]; rw [Nat.pow_succ] at h; exact h)
      omega

theorem nb_pos (n : Nat) : 0 < (nb n).length := by
  by_cases h : n < 128
  · rw [nb_lt h]; simp
  · rw [nb_ge h]; simp

theorem nb_byte (f : Nat) : ∀ n : Nat, n < 128 ^ (f + 1) → ∀ x ∈ nb n, 0 ≤ x ∧ x < 256 := by
  induction f with
  | zero => intro n h x hx; have h' : n < 128 := by simpa using h
            rw [nb_lt h'] at hx; simp at hx; omega
  | succ f ih =>
    intro n h x hx
    by_cases h1 : n < 128
    · rw [nb_lt h1] at hx; simp at hx; omega
    · rw [nb_ge h1, List.mem_cons] at hx
      rcases hx with rfl | hx
      · omega
      · exact ih (n / 128) (by rw [Nat.div_lt_iff_lt_mul (by omega)]; rw [Nat.pow_succ] at h; exact h) x hx

/-- A text's bytes as numbers. -/
def ints (d : ByteArray) : List Int := d.data.toList.map fun b => ((b.toNat : Nat) : Int)
theorem ints_length (d : ByteArray) : (ints d).length = d.size := by unfold ints; rw [List.length_map]; rfl
theorem ints_byte (d : ByteArray) : ∀ x ∈ ints d, 0 ≤ x ∧ x < 256 := by
  intro x hx
  simp only [ints, List.mem_map] at hx
  obtain ⟨b, _, rfl⟩ := hx
  have := b.toNat_lt
  omega

/-- A message. -/
structure M where
  k : Int
  c : Int
  n : Int
  e : Int
  s : Int
  o : Int
  v : Int
  l : Bool
  d : ByteArray

def M.nums (m : M) : List Int := [m.k, m.c, m.n, m.e, m.s, m.o, m.v]

/-- May a number be? -/
def numB (n : Int) : Bool := inB n 0 1099511627776

/-- May a message be? -/
def okB (m : M) : Bool := inB m.k 1 9 && decide (m.d.size ≤ 20) && m.nums.all numB

/-- The bytes of some numbers. -/
def body (ns : List Int) : List Int := ns.flatMap fun n => nb n.toNat
def leaseN (l : Bool) : Int := if l then 1 else 0
def M.bytes (m : M) : List Int := body m.nums ++ [leaseN m.l, (m.d.size : Int)] ++ ints m.d

theorem body_snoc (ns : List Int) (n : Int) : body (ns ++ [n]) = body ns ++ nb n.toNat := by simp [body]

theorem nb_small {n : Int} (h : numB n = true) : (nb n.toNat).length ≤ 6 ∧ ∀ x ∈ nb n.toNat, 0 ≤ x ∧ x < 256 := by
  have := of_inB_true h
  have h2 : n.toNat < 128 ^ (5 + 1) := by have : (128 : Nat) ^ (5 + 1) = 4398046511104 := by decide
                                          omega
  exact ⟨nb_length 5 _ h2, nb_byte 5 _ h2⟩

theorem body_small : ∀ ns : List Int, ns.all numB = true → (body ns).length ≤ 6 * ns.length ∧ ∀ x ∈ body ns, 0 ≤ x ∧ x < 256
  | [], _ => by simp [body]
  | n :: ns, h => by
    simp only [List.all_cons, Bool.and_eq_true] at h
    have h1 := nb_small h.1
    have h2 := body_small ns h.2
    have e : body (n :: ns) = nb n.toNat ++ body ns := by simp [body]
    rw [e]
    refine ⟨by simp only [List.length_append, List.length_cons]; omega, fun x hx => ?_⟩
    rcases List.mem_append.1 hx with hx | hx
    · exact h1.2 x hx
    · exact h2.2 x hx

end Go.Proofs.YtbebfliimjjohaaDoor.Num
