/-
  A message among the arguments, opened: its value written out.
-/
import Derived.Test.YtbebfliimjjohaaDoorMay
import Derived.ChangeSame
import Derived.ChangeVars
import Derived.JoinedOf
import Derived.Carry
namespace Go.Proofs.YtbebfliimjjohaaDoor.Wire
open Go.ChangeShapes Go.WideShapes Go.ChangeAt Go.RowKit
open Num (M)

theorem laidOut : laidOutB Tryd.prog = true := by kernel_rfl
theorem cellsMsg : Tryd.prog.cellsOf 32 = 9 := by kernel_rfl

theorem array9 {α : Type} {cs : Array α} (h : cs.size = 9) : ∃ c0 c1 c2 c3 c4 c5 c6 c7 c8, cs = #[c0, c1, c2, c3, c4, c5, c6, c7, c8] := by
  obtain ⟨l⟩ := cs
  match l, h with
  | [c0, c1, c2, c3, c4, c5, c6, c7, c8], _ => exact ⟨c0, c1, c2, c3, c4, c5, c6, c7, c8, rfl⟩

theorem there {α : Type} {xs : List α} {n i : Nat} (h : xs.length = n) (hi : i < n) : ∃ y, xs[i]? = some y := ⟨_, List.getElem?_eq_getElem (by omega)⟩

section
variable {H : Type} {enc : TypeId × Value → H} {W : World} {base : Nat} {spare : Nat → Bool} {held : Bool}

theorem field_int {n : Nat} {c : Value} {xs : List (DataW H × List MemPlace)} {i k : Nat} (hl : xs.length = k) (hi : i < k) (h : DataW.trod enc Tryd.prog W base spare held n 3 [c] = xs[i]?) : ∃ x : Int, c = .int .i64 x := by
  obtain ⟨y, hy⟩ := there hl hi
  rw [hy] at h
  obtain ⟨x, hx, _⟩ := DataW.trod_int Tryd.underlying3 h
  exact ⟨x, by simpa using hx⟩

set_option maxRecDepth 100000 in
theorem open_msg {r : Reach} {b0 : Nat} {v : Value} {d : DataW H} {p : List MemPlace} (hv : Value.okWide Tryd.prog W r b0 32 v) (h : DataW.Trod enc Tryd.prog W base spare held 32 v d p) :
    ∃ m : M, v = M.agg m ∧ m.d.size ≤ maxLen := by
  obtain ⟨cs, rfl, hsz⟩ := okWide_struct Tryd.underlying32 hv
  obtain ⟨c0, c1, c2, c3, c4, c5, c6, c7, c8, rfl⟩ := array9 (hsz.trans cellsMsg)
  obtain ⟨fuel, hf⟩ := h
  obtain ⟨xs, n, _, _, _, hlen, hfs⟩ := DataW.trod_struct Tryd.underlying32 hf
  have hl9 : xs.length = 9 := hlen
  have f0 : DataW.trod enc Tryd.prog W base spare held n 3 [c0] = xs[0]? := hfs 0 _ rfl
  have f1 : DataW.trod enc Tryd.prog W base spare held n 3 [c1] = xs[1]? := hfs 1 _ rfl
  have f2 : DataW.trod enc Tryd.prog W base spare held n 3 [c2] = xs[2]? := hfs 2 _ rfl
  have f3 : DataW.trod enc Tryd.prog W base spare held n 3 [c3] = xs[3]? := hfs 3 _ rfl
  have f4 : DataW.trod enc Tryd.prog W base spare held n 3 [c4] = xs[4]? := hfs 4 _ rfl
  have f5 : DataW.trod enc Tryd.prog W base spare held n 3 [c5] = xs[5]? := hfs 5 _ rfl
  have f6 : DataW.trod enc Tryd.prog W base spare held n 3 [c6] = xs[6]? := hfs 6 _ rfl
  have f7 : DataW.trod enc Tryd.prog W base spare held n 4 [c7] = xs[7]? := hfs 7 _ rfl
  have f8 : DataW.trod enc Tryd.prog W base spare held n 9 [c8] = xs[8]? := hfs 8 _ rfl
  obtain ⟨k, rfl⟩ := field_int hl9 (by omega) f0
  obtain ⟨c, rfl⟩ := field_int hl9 (by omega) f1
  obtain ⟨m, rfl⟩ := field_int hl9 (by omega) f2
  obtain ⟨e, rfl⟩ := field_int hl9 (by omega) f3
  obtain ⟨s, rfl⟩ := field_int hl9 (by omega) f4
  obtain ⟨o, rfl⟩ := field_int hl9 (by omega) f5
  obtain ⟨v, rfl⟩ := field_int hl9 (by omega) f6
  obtain ⟨y7, hy7⟩ := there hl9 (show 7 < 9 by omega)
  obtain ⟨y8, hy8⟩ := there hl9 (show 8 < 9 by omega)
  rw [hy7] at f7
  rw [hy8] at f8
  obtain ⟨l, hl, _⟩ := DataW.trod_bool Tryd.underlying4 f7
  obtain ⟨dd, hd, _, hds⟩ := DataW.trod_string Tryd.underlying9 f8
  obtain rfl : c7 = .bool l := by simpa using hl
  obtain rfl : c8 = .string dd := by simpa using hd
  exact ⟨⟨k, c, m, e, s, o, v, l, dd⟩, rfl, hds⟩
end
end Go.Proofs.YtbebfliimjjohaaDoor.Wire
