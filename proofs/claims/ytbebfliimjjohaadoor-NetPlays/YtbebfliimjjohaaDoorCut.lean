/-
  The number with which some bytes begin: plain lists.
-/
import Derived.Test.YtbebfliimjjohaaDoorNum
namespace Go.Proofs.YtbebfliimjjohaaDoor.Num

/-- The number of some bytes, seven bits each. -/
def val : List Int → Int
  | [] => 0
  | x :: xs => x % 128 + 128 * val xs

theorem val_snoc (x : Int) : ∀ l : List Int, val (l ++ [x]) = val l + x % 128 * 128 ^ l.length
  | [] => by simp [val]
  | y :: l => by
    have h := val_snoc x l
    simp only [List.cons_append, val, List.length_cons, h, Int.pow_succ]
    rw [Int.mul_add, Int.add_assoc]
    congr 2
    rw [Int.mul_comm (128 ^ l.length) 128, ← Int.mul_assoc, ← Int.mul_assoc, Int.mul_comm 128 (x % 128)]

theorem val_bd : ∀ l : List Int, 0 ≤ val l ∧ val l < 128 ^ l.length
  | [] => by simp [val]
  | y :: l => by
    have h := val_bd l
    simp only [val, List.length_cons, Int.pow_succ]
    generalize (128 : Int) ^ l.length = q at *
    omega

theorem val_nb (f : Nat) : ∀ n : Nat, n ≤ f → val (nb n) = n := by
  induction f with
  | zero => intro n h; rw [nb_lt (by omega)]; simp [val]; omega
  | succ f ih =>
    intro n h
    by_cases h1 : n < 128
    · rw [nb_lt h1]; simp [val]; omega
    · rw [nb_ge h1, val, ih (n / 128) (by omega)]
      omega

theorem nb_shape (f : Nat) : ∀ n : Nat, n ≤ f → ∃ pre c, nb n = pre ++ [c] ∧ (∀ x ∈ pre, 128 ≤ x) ∧ 0 ≤ c ∧ c < 128 := by
  induction f with
  | zero => intro n h; exact ⟨[], n, by rw [nb_lt (by omega)]; rfl, by simp, by omega, by omega⟩
  | succ f ih =>
    intro n h
    by_cases h1 : n < 128
    · exact ⟨[], n, by rw [nb_lt h1]; rfl, by simp, by omega, by omega⟩
    · obtain ⟨pre, c, h2, h3, h4⟩ := ih (n / 128) (by omega)
      refine ⟨((n % 128 + 128 : Nat) : Int) :: pre, c, by rw [nb_ge h1, h2]; rfl, fun x hx => ?_, h4⟩
      rcases List.mem_cons.1 hx with rfl | hx
      · omega
      · exact h3 x hx

theorem cut_hit {l r : List Int} {i n : Nat} (_hi : i < l.length) (hlt : l.getD i 0 < 128) (hge : ∀ j, j < i → 128 ≤ l.getD j 0) (h : l = nb n ++ r) : l.take (i + 1) = nb n ∧ l.drop (i + 1) = r := by
  obtain ⟨pre, c, h2, h3, h4, h5⟩ := nb_shape n n (Nat.le_refl _)
  rw [h2] at h
  have hp : ∀ j, j < pre.length → 128 ≤ l.getD j 0 := fun j hj => by
    rw [h, List.getD_eq_getElem?_getD, List.append_assoc, List.getElem?_append_left hj, List.getElem?_eq_getElem hj]
    exact h3 _ (List.getElem_mem hj)
  have hc : l.getD pre.length 0 = c := by
    rw [h, List.getD_eq_getElem?_getD, List.append_assoc, List.getElem?_append_right (Nat.le_refl _)]
    simp
  have he : i = pre.length := by
    rcases Nat.lt_trichotomy i pre.length with h' | h' | h'
    · have := hp i h'; omega
    · exact h'
    · have := hge _ h'; omega
  have hl : i + 1 = (pre ++ [c]).length := by simp [he]
  rw [h2, h, hl]
  exact ⟨List.take_left, List.drop_left⟩

theorem cut_miss {l r : List Int} {n : Nat} (hge : ∀ j, j < l.length → 128 ≤ l.getD j 0) (h : l = nb n ++ r) : False := by
  obtain ⟨pre, c, h2, _, _, h5⟩ := nb_shape n n (Nat.le_refl _)
  rw [h2] at h
  have hc : l.getD pre.length 0 = c := by
    rw [h, List.getD_eq_getElem?_getD, List.append_assoc, List.getElem?_append_right (Nat.le_refl _)]
    simp
  have := hge pre.length (by rw [h]; simp)
  omega

theorem nb_inj (a b : Nat) (x y : List Int) (h : nb a ++ x = nb b ++ y) : a = b ∧ x = y := by
  obtain ⟨pre, c, h2, h3, h4, h5⟩ := nb_shape a a (Nat.le_refl _)
  have hp : ∀ j, j < pre.length → 128 ≤ (nb a ++ x).getD j 0 := fun j hj => by
    rw [h2, List.getD_eq_getElem?_getD, List.append_assoc, List.getElem?_append_left hj, List.getElem?_eq_getElem hj]
    exact h3 _ (List.getElem_mem hj)
  have hc : (nb a ++ x).getD pre.length 0 < 128 := by
    rw [h2, List.getD_eq_getElem?_getD, List.append_assoc, List.getElem?_append_right (Nat.le_refl _)]
    simpa using h5
  have hl : pre.length < (nb a ++ x).length := by rw [h2]; simp
  have h6 := cut_hit (n := a) hl hc hp rfl
  have h7 := cut_hit (n := b) hl hc hp h
  have e : nb a = nb b := h6.1.symm.trans h7.1
  have ev := congrArg val e
  rw [val_nb a a (Nat.le_refl _), val_nb b b (Nat.le_refl _)] at ev
  exact ⟨by omega, h6.2.symm.trans h7.2⟩

/-- What a cut of the bytes l, to x and what stands behind it, has found. -/
def CutOk (l : List Int) (x : Int) (rest : List Int) : Prop := ∀ (n : Nat) (r : List Int), n ≤ 1099511627776 → l = nb n ++ r → x = n ∧ rest = r
def CutNo (l : List Int) : Prop := ∀ (n : Nat) (r : List Int), l ≠ nb n ++ r

theorem cutOk_mk {l : List Int} {i : Nat} {x : Int} (hi : i < l.length) (hlt : l.getD i 0 < 128) (hge : ∀ j, j < i → 128 ≤ l.getD j 0) (hx : i ≤ 5 → x = val (l.take (i + 1))) : CutOk l x (l.drop (i + 1)) := by
  intro n r hn h
  have hh := cut_hit hi hlt hge h
  refine ⟨?_, hh.2⟩
  have hlen : (nb n).length ≤ 6 := nb_length 5 n (by have : (128 : Nat) ^ (5 + 1) = 4398046511104 := by decide
                                                     omega)
  have h6 : i ≤ 5 := by
    have := congrArg List.length hh.1
    rw [List.length_take] at this
    omega
  rw [hx h6, hh.1, val_nb n n (Nat.le_refl _)]

theorem val_take_succ (l : List Int) (k : Nat) (h : k < l.length) : val (l.take (k + 1)) = val (l.take k) + l.getD k 0 % 128 * 128 ^ k := by
  rw [List.take_succ_eq_append_getElem h, val_snoc, List.getD_eq_getElem?_getD, List.getElem?_eq_getElem h, List.length_take]
  rw [show min k l.length = k by omega]
  rfl

end Go.Proofs.YtbebfliimjjohaaDoor.Num
