/-
  A record's bytes in its place, and back: plain mathematics.
-/
import Derived.Test.YtbebfliimjjohaaDoorWalMay
import Derived.Test.YtbebfliimjjohaaDoorBits
import Derived.Test.YtbebfliimjjohaaDoorPar
namespace Go.Proofs.YtbebfliimjjohaaDoor.Wal
open Num (ints inB)

/-- The j-th byte of a number, the least one first. -/
def byteAt (x : Int) (j : Nat) : Int := x / 256 ^ j % 256
/-- A record's numbers, as they are written. -/
def nums (r : R) : List Int := [r.c, r.n, r.o, r.v, r.e]
/-- A record's place. -/
def full (r : R) : List Int := ((List.range 40).map fun t => byteAt ((nums r).getD (t / 8) 0) (t % 8)) ++ ((r.d.size : Int) :: (ints r.d ++ (List.replicate (20 - r.d.size) 0 ++ [1])))
def pad (xs : List Int) : List Int := xs ++ List.replicate (62 - xs.length) 0

theorem full_length {r : R} (h : r.d.size ≤ 20) : (full r).length = 62 := by
  simp [full, Num.ints_length]
  omega
theorem full_num {r : R} {t : Nat} (h : t < 40) : (full r).getD t 0 = byteAt ((nums r).getD (t / 8) 0) (t % 8) := by
  rw [List.getD_eq_getElem?_getD]
  unfold full
  rw [List.getElem?_append_left (by simpa using h), List.getElem?_map, List.getElem?_range h]
  rfl
theorem full_at {r : R} {i : Nat} : (full r)[40 + i]? = ((r.d.size : Int) :: (ints r.d ++ (List.replicate (20 - r.d.size) 0 ++ [1])))[i]? := by
  unfold full
  rw [List.getElem?_append_right (by simp)]
  simp
theorem full_len {r : R} : (full r).getD 40 0 = (r.d.size : Int) := by
  rw [List.getD_eq_getElem?_getD, show (40 : Nat) = 40 + 0 from rfl, full_at]
  rfl
theorem full_text {r : R} {i : Nat} (h : i < r.d.size) : (full r).getD (41 + i) 0 = (ints r.d).getD i 0 := by
  rw [List.getD_eq_getElem?_getD, show 41 + i = 40 + (i + 1) by omega, full_at, List.getElem?_cons_succ, List.getElem?_append_left (by rw [Num.ints_length]; exact h), List.getD_eq_getElem?_getD]
theorem full_mark {r : R} (h : r.d.size ≤ 20) : (full r).getD 61 0 = 1 := by
  rw [List.getD_eq_getElem?_getD, show (61 : Nat) = 40 + (20 + 1) from rfl, full_at, List.getElem?_cons_succ, List.getElem?_append_right (by rw [Num.ints_length]; exact h), Num.ints_length, List.getElem?_append_right (by simp)]
  simp
theorem byteAt_bd (x : Int) (j : Nat) : 0 ≤ byteAt x j ∧ byteAt x j < 256 := by unfold byteAt; omega
theorem full_byte {r : R} (h : r.d.size ≤ 20) : ∀ x ∈ full r, 0 ≤ x ∧ x < 256 := by
  intro x hx
  unfold full at hx
  simp only [List.mem_append, List.mem_map, List.mem_cons, List.mem_replicate, List.not_mem_nil, or_false] at hx
  rcases hx with ⟨t, _, rfl⟩ | rfl | hx | ⟨_, rfl⟩ | rfl
  · exact byteAt_bd _ _
  · omega
  · exact Num.ints_byte _ _ hx
  · omega
  · omega

theorem pad_length {xs : List Int} (h : xs.length ≤ 62) : (pad xs).length = 62 := by simp [pad]; omega
theorem pad_nil : pad [] = List.replicate 62 0 := rfl
theorem pad_set {F : List Int} {t : Nat} (hF : F.length = 62) (ht : t < 62) : (pad (F.take t)).set t (F.getD t 0) = pad (F.take (t + 1)) := by
  apply List.ext_getElem?
  intro i
  have hl : (pad (F.take t)).length = 62 := pad_length (by simp; omega)
  rw [List.getElem?_set, hl]
  unfold pad
  by_cases hi : t = i
  · subst hi
    rw [if_pos rfl, if_pos ht, List.getElem?_append_left (by simp; omega), List.getElem?_take, if_pos (by omega), List.getD_eq_getElem?_getD, List.getElem?_eq_getElem (by omega)]
    rfl
  · rw [if_neg hi]
    by_cases h : i < t
    · rw [List.getElem?_append_left (by simp; omega), List.getElem?_append_left (by simp; omega), List.getElem?_take, List.getElem?_take, if_pos h, if_pos (by omega)]
    · rw [List.getElem?_append_right (by simp; omega), List.getElem?_append_right (by simp; omega), List.getElem?_replicate, List.getElem?_replicate]
      simp only [List.length_take, hF]
      by_cases h2 : i < 62
      · rw [if_pos (by omega), if_pos (by omega)]
      · rw [if_neg (by omega), if_neg (by omega)]
theorem pad_end {r : R} (h : r.d.size ≤ 20) : (pad ((full r).take (41 + r.d.size))).set 61 1 = full r := by
  have hF := full_length h
  apply List.ext_getElem?
  intro i
  have hl : (pad ((full r).take (41 + r.d.size))).length = 62 := pad_length (by simp; omega)
  rw [List.getElem?_set, hl]
  by_cases hi : 61 = i
  · subst hi
    rw [if_pos rfl, if_pos (by omega)]
    have := full_mark h
    rw [List.getD_eq_getElem?_getD, List.getElem?_eq_getElem (by omega)] at this
    rw [List.getElem?_eq_getElem (by omega)]
    simpa using this.symm
  · rw [if_neg hi]
    unfold pad
    by_cases h1 : i < 41 + r.d.size
    · rw [List.getElem?_append_left (by simp; omega), List.getElem?_take, if_pos h1]
    · rw [List.getElem?_append_right (by simp; omega), List.getElem?_replicate]
      simp only [List.length_take, hF]
      by_cases h2 : i < 61
      · rw [if_pos (by omega), show i = 40 + (i - 41 + 1) by omega, full_at, List.getElem?_cons_succ, List.getElem?_append_right (by rw [Num.ints_length]; omega), Num.ints_length, List.getElem?_append_left (by simp; omega), List.getElem?_replicate, if_pos (by omega)]
      · rw [if_neg (by omega), List.getElem?_eq_none (by omega)]

/-! ### Back -/
/-- What stands behind j bytes. -/
def part (x : Int) (j : Nat) : Int := if j < 8 then x % 256 ^ j else x
/-- A number of a record that may be. -/
def okN (x : Int) : Prop := (0 ≤ x ∧ x ≤ 1099511627776) ∨ x = -1

theorem part_zero (x : Int) : part x 0 = 0 := by simp [part]
theorem part_end (x : Int) : part x 8 = x := by simp [part]

theorem or_step (x : Int) (j : Nat) (hx : okN x) (hj : j < 8) : bits .or .i64 (part x j) (IntKind.i64.wrap (byteAt x j * 2 ^ (8 * j))) = part x (j + 1) := by
  rcases hx with ⟨h0, h1⟩ | rfl
  · have key : ∀ (k : Nat) (q p : Int), k ≤ 48 → (2 : Int) ^ k = q → p = x % q → 0 < q → q ≤ 281474976710656 → bits .or .i64 p (IntKind.i64.wrap (x / q % 256 * q)) = p + x / q % 256 * q := fun k q p hk hq hp hq0 hq1 => by
      have hb : 0 ≤ x / q % 256 := by omega
      have hb1 : x / q % 256 ≤ 255 := by omega
      have hm : x / q % 256 * q ≤ 255 * 281474976710656 := Int.mul_le_mul hb1 hq1 (by omega) (by omega)
      have hm0 : 0 ≤ x / q % 256 * q := Int.mul_nonneg hb (by omega)
      have hpb : 0 ≤ p ∧ p < q := by rw [hp]; exact ⟨Int.emod_nonneg _ (by omega), Int.emod_lt_of_pos _ hq0⟩
      rw [Wire.wraps_i64 _ hm0 (by omega)]
      exact bits_join_low .i64 63 (by decide) Wire.wraps_i64 k p (x / q % 256 * q) hpb.1 (by rw [hq]; exact hpb.2) (by omega) hm0 (by rw [hq]; exact Int.mul_emod_left _ _) (by omega)
    have zero : ∀ p : Int, 0 ≤ p → p < 2 ^ 63 → bits .or .i64 p 0 = p := fun p hp hp1 => by
      have := bits_join_low .i64 63 (by decide) Wire.wraps_i64 63 p 0 hp hp1 hp1 (by omega) (by simp) (by decide)
      simpa using this
    match j, hj with
    | 0, _ =>
      have e0 : part x 0 = x % 1 := rfl
      have e1 : part x 1 = x % 256 := rfl
      have e2 : byteAt x 0 * 2 ^ (8 * 0) = x / 1 % 256 * 1 := rfl
      have h := key 0 1 (x % 1) (by omega) rfl rfl (by omega) (by omega)
      rw [e0, e1, e2, h]
      omega
    | 1, _ =>
      have e0 : part x 1 = x % 256 := rfl
      have e1 : part x 2 = x % 65536 := rfl
      have e2 : byteAt x 1 * 2 ^ (8 * 1) = x / 256 % 256 * 256 := rfl
      have h := key 8 256 (x % 256) (by omega) rfl rfl (by omega) (by omega)
      rw [e0, e1, e2, h]
      omega
    | 2, _ =>
      have e0 : part x 2 = x % 65536 := rfl
      have e1 : part x 3 = x % 16777216 := rfl
      have e2 : byteAt x 2 * 2 ^ (8 * 2) = x / 65536 % 256 * 65536 := rfl
      have h := key 16 65536 (x % 65536) (by omega) rfl rfl (by omega) (by omega)
      rw [e0, e1, e2, h]
      omega
    | 3, _ =>
      have e0 : part x 3 = x % 16777216 := rfl
      have e1 : part x 4 = x % 4294967296 := rfl
      have e2 : byteAt x 3 * 2 ^ (8 * 3) = x / 16777216 % 256 * 16777216 := rfl
      have h := key 24 16777216 (x % 16777216) (by omega) rfl rfl (by omega) (by omega)
      rw [e0, e1, e2, h]
      omega
    | 4, _ =>
      have e0 : part x 4 = x % 4294967296 := rfl
      have e1 : part x 5 = x % 1099511627776 := rfl
      have e2 : byteAt x 4 * 2 ^ (8 * 4) = x / 4294967296 % 256 * 4294967296 := rfl
      have h := key 32 4294967296 (x % 4294967296) (by omega) rfl rfl (by omega) (by omega)
      rw [e0, e1, e2, h]
      omega
    | 5, _ =>
      have e0 : part x 5 = x % 1099511627776 := rfl
      have e1 : part x 6 = x % 281474976710656 := rfl
      have e2 : byteAt x 5 * 2 ^ (8 * 5) = x / 1099511627776 % 256 * 1099511627776 := rfl
      have h := key 40 1099511627776 (x % 1099511627776) (by omega) rfl rfl (by omega) (by omega)
      rw [e0, e1, e2, h]
      omega
    | 6, _ =>
      have e0 : part x 6 = x % 281474976710656 := rfl
      have e1 : part x 7 = x % 72057594037927936 := rfl
      have e2 : byteAt x 6 * 2 ^ (8 * 6) = x / 281474976710656 % 256 * 281474976710656 := rfl
      have h := zero (x % 281474976710656) (by omega) (by omega)
      rw [e0, e1, e2, show x / 281474976710656 % 256 * 281474976710656 = 0 by omega, show IntKind.i64.wrap 0 = 0 from rfl, h]
      omega
    | 7, _ =>
      have e0 : part x 7 = x % 72057594037927936 := rfl
      have e1 : part x 8 = x := rfl
      have e2 : byteAt x 7 * 2 ^ (8 * 7) = x / 72057594037927936 % 256 * 72057594037927936 := rfl
      have h := zero (x % 72057594037927936) (by omega) (by omega)
      rw [e0, e1, e2, show x / 72057594037927936 % 256 * 72057594037927936 = 0 by omega, show IntKind.i64.wrap 0 = 0 from rfl, h]
      omega
  · match j, hj with
    | 0, _ => decide
    | 1, _ => decide
    | 2, _ => decide
    | 3, _ => decide
    | 4, _ => decide
    | 5, _ => decide
    | 6, _ => decide
    | 7, _ => decide
end Go.Proofs.YtbebfliimjjohaaDoor.Wal
