/-
  The steps of a cache among the arguments, opened.
-/
import Derived.Test.YtbebfliimjjohaaDoorCacheSt
import Derived.ChangeSame
import Derived.ChangeVars
import Derived.JoinedOf
import Derived.Carry
namespace Go.Proofs.YtbebfliimjjohaaDoor.Cache
open Go.ChangeShapes Go.WideShapes Go.ChangeAt Go.RowKit

theorem laidOut : laidOutB Tryd.prog = true := by kernel_rfl
theorem cellsUse : Tryd.prog.cellsOf 125 = 5 := by kernel_rfl

theorem list5 {α : Type} {cs : List α} (h : cs.length = 5) : ∃ c0 c1 c2 c3 c4, cs = [c0, c1, c2, c3, c4] := by
  match cs, h with
  | [c0, c1, c2, c3, c4], _ => exact ⟨c0, c1, c2, c3, c4, rfl⟩
theorem there {α : Type} {xs : List α} {n i : Nat} (h : xs.length = n) (hi : i < n) : ∃ y, xs[i]? = some y := ⟨_, List.getElem?_eq_getElem (by omega)⟩

/-- What is there for each is there in a list. -/
theorem list_of {α : Type} {n : Nat} {P : Nat → α → Prop} (h : ∀ i, i < n → ∃ x, P i x) : ∃ xs : List α, xs.length = n ∧ ∀ j (hj : j < xs.length), P j xs[j] := by
  induction n with
  | zero => exact ⟨[], rfl, fun j hj => by simp at hj⟩
  | succ n ih =>
    obtain ⟨xs, hl, hx⟩ := ih fun i hi => h i (by omega)
    obtain ⟨y, hy⟩ := h n (by omega)
    refine ⟨xs ++ [y], by simp [hl], fun j hj => ?_⟩
    by_cases hjl : j < xs.length
    · rw [List.getElem_append_left hjl]; exact hx j hjl
    · have e : j = xs.length := by simp at hj; omega
      subst e
      rw [List.getElem_append_right (by omega)]
      simpa [hl] using hy

section
variable {H : Type} {enc : TypeId × Value → H} {W : World} {base : Nat} {held : Bool}

theorem field_int {n : Nat} {c : Value} {xs : List (DataW H × List MemPlace)} {i k : Nat} (hl : xs.length = k) (hi : i < k) (h : DataW.trod enc Tryd.prog W base (fun _ => true) held n 3 [c] = xs[i]?) : ∃ x : Int, c = .int .i64 x := by
  obtain ⟨y, hy⟩ := there hl hi
  rw [hy] at h
  obtain ⟨x, hx, _, _⟩ := DataW.trod_int Tryd.underlying3 h
  exact ⟨x, by simpa using hx⟩

set_option maxRecDepth 100000 in
theorem open_use {fuel : Nat} {cs : List Value} {y : DataW H × List MemPlace} (hl : cs.length = 5) (h : DataW.trod enc Tryd.prog W base (fun _ => true) held fuel 125 cs = some y) :
    ∃ x : Stp, cs = x.cells := by
  obtain ⟨c0, c1, c2, c3, c4, rfl⟩ := list5 hl
  obtain ⟨xs, n, _, _, _, hlen, hfs⟩ := DataW.trod_struct Tryd.underlying125 h
  have hl4 : xs.length = 4 := hlen
  have f0 : DataW.trod enc Tryd.prog W base (fun _ => true) held n 3 [c0] = xs[0]? := hfs 0 _ rfl
  have f1 : DataW.trod enc Tryd.prog W base (fun _ => true) held n 3 [c1] = xs[1]? := hfs 1 _ rfl
  have f2 : DataW.trod enc Tryd.prog W base (fun _ => true) held n 3 [c2] = xs[2]? := hfs 2 _ rfl
  have f3 : DataW.trod enc Tryd.prog W base (fun _ => true) held n 114 [c3, c4] = xs[3]? := hfs 3 _ rfl
  obtain ⟨y3, hy3⟩ := there hl4 (show 3 < 4 by omega)
  rw [hy3] at f3
  obtain ⟨zs, m, _, _, _, hlen2, hgs⟩ := DataW.trod_struct Tryd.underlying114 f3
  have hl2 : zs.length = 2 := hlen2
  have g0 : DataW.trod enc Tryd.prog W base (fun _ => true) held m 9 [c3] = zs[0]? := hgs 0 _ rfl
  have g1 : DataW.trod enc Tryd.prog W base (fun _ => true) held m 3 [c4] = zs[1]? := hgs 1 _ rfl
  obtain ⟨wh, rfl⟩ := field_int hl4 (by omega) f0
  obtain ⟨o, rfl⟩ := field_int hl4 (by omega) f1
  obtain ⟨u, rfl⟩ := field_int hl4 (by omega) f2
  obtain ⟨v, rfl⟩ := field_int hl2 (by omega) g1
  obtain ⟨y4, hy4⟩ := there hl2 (show 0 < 2 by omega)
  rw [hy4] at g0
  obtain ⟨dd, hd, _, _⟩ := DataW.trod_string Tryd.underlying9 g0
  obtain rfl : c3 = .string dd := by simpa using hd
  exact ⟨⟨wh, o, u, dd, v⟩, rfl⟩

/-- The play's list of steps. -/
theorem open_steps {fuel : Nat} {ao : Option Addr} {len cap : Nat} {x : DataW H × List MemPlace} (h : DataW.trod enc Tryd.prog W base (fun _ => true) held fuel 112 [.slice ao len cap] = some x) :
    ∃ xs : List Stp, xs.length = len ∧ len ≤ 9223372036854775807 ∧ Steps W ao xs := by
  rcases DataW.trod_slice Tryd.underlying112 h with ⟨hcs, _⟩ | ⟨a, len', cap', elems, rest, n, _, hcs, _, hb, hl, hm, hlen, hel, _, _⟩
  · simp at hcs
    obtain ⟨rfl, rfl, rfl⟩ := hcs
    exact ⟨[], rfl, by omega, fun h => by simp at h⟩
  · simp at hcs
    obtain ⟨rfl, rfl, rfl⟩ := hcs
    have hm' : cap ≤ 9223372036854775807 := hm
    have each : ∀ i, i < len → ∃ s : Stp, ∀ j, j < 5 → W.cell? (a.add (i * 5 + j)) = s.cells[j]? := fun i hi => by
      have hi' := hel i hi
      rw [cellsUse, List.getElem?_eq_getElem (show i < elems.length by omega)] at hi'
      cases hc : W.cells? base (a.add (i * 5)) 5 with
      | none => rw [hc] at hi'; simp at hi'
      | some cs =>
        rw [hc] at hi'
        obtain ⟨_, hl5, hcell⟩ := World.cells?_some hc
        obtain ⟨s, rfl⟩ := open_use hl5 hi'
        refine ⟨s, fun j hj => ?_⟩
        rw [← Addr.add_add]
        exact hcell j hj
    obtain ⟨xs, hxl, hxs⟩ := list_of each
    refine ⟨xs, hxl, by omega, fun hp => ?_⟩
    obtain ⟨b, off, spot⟩ := a
    have hc0 := hxs 0 hp 0 (by omega)
    have hspot : spot = none := by simpa [Addr.add] using World.cell?_spot hc0
    subst hspot
    have hadd : ∀ i, (⟨b, off, none⟩ : Addr).add i = ⟨b, off + i, none⟩ := fun i => by unfold Addr.add; split <;> simp_all
    rw [hadd] at hc0
    refine ⟨b, off, rfl, World.block_lt_of_cell? _ _ hc0, fun j hj i hi => ?_⟩
    have q := (congrArg W.cell? (hadd (j * 5 + i))).symm.trans (hxs j hj i hi)
    rw [Nat.add_assoc]
    exact q
end

set_option maxRecDepth 100000 in
theorem plays_long (ao : Option Addr) (n c : Nat) (w : World) (hn : 150 < n) (hm : n ≤ 9223372036854775807) :
    Calls Tryd.prog 9 #[.slice ao n c] w fun e w' => e = .returned (.bool true) ∧ w' = w := by
  go_enter Tryd.func9, Tryd.ntmps9
  go_wp2_with fail
  go_ret
  exact ⟨rfl, rfl⟩
end Go.Proofs.YtbebfliimjjohaaDoor.Cache
