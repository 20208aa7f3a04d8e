/-
  The steps of a table among the arguments, opened.
-/
import Derived.Test.YtbebfliimjjohaaDoorLeaseSt
import Derived.ChangeSame
import Derived.ChangeVars
import Derived.JoinedOf
import Derived.Carry
namespace Go.Proofs.YtbebfliimjjohaaDoor.Lease
open Go.ChangeShapes Go.WideShapes Go.ChangeAt Go.RowKit

theorem cellsHold : Tryd.prog.cellsOf 93 = 5 := by kernel_rfl

theorem list5 {α : Type} {cs : List α} (h : cs.length = 5) : ∃ c0 c1 c2 c3 c4, cs = [c0, c1, c2, c3, c4] := by
  match cs, h with
  | [c0, c1, c2, c3, c4], _ => exact ⟨c0, c1, c2, c3, c4, rfl⟩
theorem there {α : Type} {xs : List α} {n i : Nat} (h : xs.length = n) (hi : i < n) : ∃ y, xs[i]? = some y := ⟨_, List.getElem?_eq_getElem (by omega)⟩

/-- What is there for each is there in a list. -/
theorem list_of {α : Type} {n : Nat} {P : Nat → α → Prop} (h : ∀ i, i < n → ∃ x, P i x) : ∃ xs : List α, xs.length = n ∧ ∀ j (hj : j < xs.length), P j xs[j] := by
  induction n with
  | zero => exact ⟨[], rfl, fun j hj => by simp at hj⟩
  | succ n ih =>
    obtain ⟨xs, hl, hx⟩ := ih fun i hi => h i (by omega)
    obtain ⟨y, hy⟩ := h n (by omega)
    refine ⟨xs ++ [y], by simp [hl], fun j hj => ?_⟩
    by_cases hjl : j < xs.length
    · rw [List.getElem_append_left hjl]; exact hx j hjl
    · have e : j = xs.length := by simp at hj; omega
      subst e
      rw [List.getElem_append_right (by omega)]
      simpa [hl] using hy

section
variable {H : Type} {enc : TypeId × Value → H} {W : World} {base : Nat} {held : Bool}

theorem field_i64 {n : Nat} {c : Value} {xs : List (DataW H × List MemPlace)} {i k : Nat} (hl : xs.length = k) (hi : i < k) (h : DataW.trod enc Tryd.prog W base (fun _ => true) held n 3 [c] = xs[i]?) : ∃ x : Int, c = .int .i64 x ∧ I64 x := by
  obtain ⟨y, hy⟩ := there hl hi
  rw [hy] at h
  obtain ⟨x, hx, _, hw⟩ := DataW.trod_int Tryd.underlying3 h
  exact ⟨x, by simpa using hx, I64.of_wf hw⟩

set_option maxRecDepth 100000 in
theorem open_hold {fuel : Nat} {cs : List Value} {y : DataW H × List MemPlace} (hl : cs.length = 5) (h : DataW.trod enc Tryd.prog W base (fun _ => true) held fuel 93 cs = some y) :
    ∃ x : Stp, cs = [.int .i64 x.wh, .int .i64 x.c, .int .i64 x.o, .int .i64 x.u, .int .i64 x.now] ∧ x.ok := by
  obtain ⟨c0, c1, c2, c3, c4, rfl⟩ := list5 hl
  obtain ⟨xs, n, _, _, _, hlen, hfs⟩ := DataW.trod_struct Tryd.underlying93 h
  have hl5 : xs.length = 5 := hlen
  have f0 : DataW.trod enc Tryd.prog W base (fun _ => true) held n 3 [c0] = xs[0]? := hfs 0 _ rfl
  have f1 : DataW.trod enc Tryd.prog W base (fun _ => true) held n 3 [c1] = xs[1]? := hfs 1 _ rfl
  have f2 : DataW.trod enc Tryd.prog W base (fun _ => true) held n 3 [c2] = xs[2]? := hfs 2 _ rfl
  have f3 : DataW.trod enc Tryd.prog W base (fun _ => true) held n 3 [c3] = xs[3]? := hfs 3 _ rfl
  have f4 : DataW.trod enc Tryd.prog W base (fun _ => true) held n 3 [c4] = xs[4]? := hfs 4 _ rfl
  obtain ⟨wh, rfl, _⟩ := field_i64 hl5 (by omega) f0
  obtain ⟨c, rfl, hc⟩ := field_i64 hl5 (by omega) f1
  obtain ⟨o, rfl, ho⟩ := field_i64 hl5 (by omega) f2
  obtain ⟨u, rfl, _⟩ := field_i64 hl5 (by omega) f3
  obtain ⟨now, rfl, _⟩ := field_i64 hl5 (by omega) f4
  exact ⟨⟨wh, c, o, u, now⟩, rfl, hc, ho⟩

/-- The play's list of steps. -/
theorem open_steps {fuel : Nat} {ao : Option Addr} {len cap : Nat} {x : DataW H × List MemPlace} (h : DataW.trod enc Tryd.prog W base (fun _ => true) held fuel 87 [.slice ao len cap] = some x) :
    ∃ xs : List Stp, xs.length = len ∧ len ≤ 9223372036854775807 ∧ Steps W ao xs := by
  rcases DataW.trod_slice Tryd.underlying87 h with ⟨hcs, _⟩ | ⟨a, len', cap', elems, rest, n, _, hcs, _, hb, hl, hm, hlen, hel, _, _⟩
  · simp at hcs
    obtain ⟨rfl, rfl, rfl⟩ := hcs
    exact ⟨[], rfl, by omega, fun h => by simp at h⟩
  · simp at hcs
    obtain ⟨rfl, rfl, rfl⟩ := hcs
    have hm' : cap ≤ 9223372036854775807 := hm
    have each : ∀ i, i < len → ∃ s : Stp, (∀ j, j < 5 → W.cell? (a.add (i * 5 + j)) = [Value.int .i64 s.wh, .int .i64 s.c, .int .i64 s.o, .int .i64 s.u, .int .i64 s.now][j]?) ∧ s.ok := fun i hi => by
      have hi' := hel i hi
      rw [cellsHold, List.getElem?_eq_getElem (show i < elems.length by omega)] at hi'
      cases hc : W.cells? base (a.add (i * 5)) 5 with
      | none => rw [hc] at hi'; simp at hi'
      | some cs =>
        rw [hc] at hi'
        obtain ⟨_, hl5, hcell⟩ := World.cells?_some hc
        obtain ⟨s, rfl, hs⟩ := open_hold hl5 hi'
        refine ⟨s, fun j hj => ?_, hs⟩
        rw [← Addr.add_add]
        exact hcell j hj
    obtain ⟨xs, hxl, hxs⟩ := list_of each
    refine ⟨xs, hxl, by omega, fun hp => ?_⟩
    obtain ⟨b, off, spot⟩ := a
    have hc0 := (hxs 0 hp).1 0 (by omega)
    have hspot : spot = none := by simpa [Addr.add] using World.cell?_spot hc0
    subst hspot
    have hadd : ∀ i, (⟨b, off, none⟩ : Addr).add i = ⟨b, off + i, none⟩ := fun i => by unfold Addr.add; split <;> simp_all
    rw [hadd] at hc0
    refine ⟨b, off, rfl, World.block_lt_of_cell? _ _ hc0, fun j hj => ?_⟩
    obtain ⟨hcells, hs⟩ := hxs j hj
    refine ⟨fun i hi => ?_, hs⟩
    have q := (congrArg W.cell? (hadd (j * 5 + i))).symm.trans (hcells i hi)
    rw [Nat.add_assoc]
    exact q
end

set_option maxRecDepth 100000 in
theorem plays_long (ao : Option Addr) (n c : Nat) (w : World) (hn : 150 < n) (hm : n ≤ 9223372036854775807) :
    Calls Tryd.prog 8 #[.slice ao n c] w fun e w' => e = .returned (.bool true) ∧ w' = w := by
  go_enter Tryd.func8, Tryd.ntmps8
  go_wp2_with fail
  go_ret
  exact ⟨rfl, rfl⟩
end Go.Proofs.YtbebfliimjjohaaDoor.Lease
