/-
  The steps among the arguments, opened.
-/
import Derived.Test.YtbebfliimjjohaaDoorNetRel
import Derived.Test.YtbebfliimjjohaaDoorOpen
namespace Go.Proofs.YtbebfliimjjohaaDoor.Net
open Go.ChangeShapes Go.WideShapes Go.ChangeAt Go.RowKit
open Wire (there field_int Sees)

theorem cellsGo : Tryd.prog.cellsOf 55 = 5 := by kernel_rfl
theorem cellsGram : Tryd.prog.cellsOf 52 = 2 := by kernel_rfl

theorem list5 {α : Type} {cs : List α} (h : cs.length = 5) : ∃ c0 c1 c2 c3 c4, cs = [c0, c1, c2, c3, c4] := by
  match cs, h with
  | [c0, c1, c2, c3, c4], _ => exact ⟨c0, c1, c2, c3, c4, rfl⟩

/-- What is there for each is there in a list. -/
theorem list_of {α : Type} {n : Nat} {P : Nat → α → Prop} (h : ∀ i, i < n → ∃ x, P i x) : ∃ xs : List α, xs.length = n ∧ ∀ j (hj : j < xs.length), P j xs[j] := by
  induction n with
  | zero => exact ⟨[], rfl, fun j hj => by simp at hj⟩
  | succ n ih =>
    obtain ⟨xs, hl, hx⟩ := ih fun i hi => h i (by omega)
    obtain ⟨y, hy⟩ := h n (by omega)
    refine ⟨xs ++ [y], by simp [hl], fun j hj => ?_⟩
    by_cases hjl : j < xs.length
    · rw [List.getElem_append_left hjl]; exact hx j hjl
    · have e : j = xs.length := by simp at hj; omega
      subst e
      rw [List.getElem_append_right (by omega)]
      simpa [hl] using hy

section
variable {H : Type} {enc : TypeId × Value → H} {W : World} {base : Nat} {held : Bool}

/-- A slice of bytes that came in. -/
theorem open_bytes {fuel : Nat} {c : Value} {x : DataW H × List MemPlace} (h : DataW.trod enc Tryd.prog W base (fun _ => true) held fuel 33 [c] = some x) :
    ∃ (sa : Option Addr) (sc : Nat) (bs : List Int), c = .slice sa bs.length sc ∧ Src W (.slice sa bs.length sc) bs := by
  rcases open_ints Tryd.underlying33 Tryd.underlying5 (by kernel_rfl) h with ⟨hcs, _⟩ | ⟨x, len, cap, zs, hcs, _, hl, hm, hz, _, hcell, hwz⟩
  · simp at hcs
    subst hcs
    exact ⟨none, 0, [], rfl, ⟨none, 0, rfl, by simp, by omega, by simp, fun h => by simp at h⟩, fun n c e => by injection e with _ _ e; exact e.symm⟩
  · simp at hcs hz
    subst hcs
    have e : (zs.take len).length = len := by rw [List.length_take]; omega
    have hm' : cap ≤ 9223372036854775807 := hm
    refine ⟨some x, cap, zs.take len, by rw [e], ⟨some x, cap, rfl, by omega, hm', fun n hn => ?_, fun hp => ?_⟩, fun n c e => by cases e⟩
    · have := bounds_u8 (hwz n (List.mem_of_mem_take hn))
      omega
    · obtain ⟨b, off, spot⟩ := x
      have hc := hcell 0 (by omega)
      have hspot : spot = none := by simpa [Addr.add] using World.cell?_spot hc
      subst hspot
      have hadd : ∀ i, (⟨b, off, none⟩ : Addr).add i = ⟨b, off + i, none⟩ := fun i => by unfold Addr.add; split <;> simp_all
      rw [hadd] at hc
      refine ⟨b, off, rfl, World.block_lt_of_cell? _ _ hc, fun j hj => ?_⟩
      have h1 := hcell j (by omega)
      rw [hadd] at h1
      rw [h1]
      simp only [List.getD_eq_getElem?_getD, List.getElem?_take]
      rw [if_pos (by omega)]

set_option maxRecDepth 100000 in
theorem open_go {fuel : Nat} {cs : List Value} {y : DataW H × List MemPlace} (hl : cs.length = 5) (h : DataW.trod enc Tryd.prog W base (fun _ => true) held fuel 55 cs = some y) :
    ∃ x : Stp, cs = [.int .i64 x.wh, .int .i64 x.k, .int .i64 x.at_, .int .i64 x.to, .slice x.sa x.bs.length x.sc] ∧ Src W (.slice x.sa x.bs.length x.sc) x.bs := by
  obtain ⟨c0, c1, c2, c3, c4, rfl⟩ := list5 hl
  obtain ⟨xs, n, _, _, _, hlen, hfs⟩ := DataW.trod_struct Tryd.underlying55 h
  have hl4 : xs.length = 4 := hlen
  have f0 : DataW.trod enc Tryd.prog W base (fun _ => true) held n 3 [c0] = xs[0]? := hfs 0 _ rfl
  have f1 : DataW.trod enc Tryd.prog W base (fun _ => true) held n 3 [c1] = xs[1]? := hfs 1 _ rfl
  have f2 : DataW.trod enc Tryd.prog W base (fun _ => true) held n 3 [c2] = xs[2]? := hfs 2 _ rfl
  have f3 : DataW.trod enc Tryd.prog W base (fun _ => true) held n 52 [c3, c4] = xs[3]? := hfs 3 _ rfl
  obtain ⟨y3, hy3⟩ := there hl4 (show 3 < 4 by omega)
  rw [hy3] at f3
  obtain ⟨zs, m, _, _, _, hlen2, hgs⟩ := DataW.trod_struct Tryd.underlying52 f3
  have hl2 : zs.length = 2 := hlen2
  have g0 : DataW.trod enc Tryd.prog W base (fun _ => true) held m 3 [c3] = zs[0]? := hgs 0 _ rfl
  have g1 : DataW.trod enc Tryd.prog W base (fun _ => true) held m 33 [c4] = zs[1]? := hgs 1 _ rfl
  obtain ⟨wh, rfl⟩ := field_int hl4 (by omega) f0
  obtain ⟨k, rfl⟩ := field_int hl4 (by omega) f1
  obtain ⟨a, rfl⟩ := field_int hl4 (by omega) f2
  obtain ⟨to, rfl⟩ := field_int hl2 (by omega) g0
  obtain ⟨y4, hy4⟩ := there hl2 (show 1 < 2 by omega)
  rw [hy4] at g1
  obtain ⟨sa, sc, bs, rfl, hs⟩ := open_bytes g1
  exact ⟨⟨wh, k, a, to, sa, sc, bs⟩, rfl, hs⟩

/-- The play's list of steps. -/
theorem open_steps {fuel : Nat} {ao : Option Addr} {len cap : Nat} {x : DataW H × List MemPlace} (h : DataW.trod enc Tryd.prog W base (fun _ => true) held fuel 46 [.slice ao len cap] = some x) :
    ∃ xs : List Stp, xs.length = len ∧ len ≤ 9223372036854775807 ∧ Goes W ao xs := by
  rcases DataW.trod_slice Tryd.underlying46 h with ⟨hcs, _⟩ | ⟨a, len', cap', elems, rest, n, _, hcs, _, hb, hl, hm, hlen, hel, _, _⟩
  · simp at hcs
    obtain ⟨rfl, rfl, rfl⟩ := hcs
    exact ⟨[], rfl, by omega, fun h => by simp at h⟩
  · simp at hcs
    obtain ⟨rfl, rfl, rfl⟩ := hcs
    have hm' : cap ≤ 9223372036854775807 := hm
    have each : ∀ i, i < len → ∃ s : Stp, (∀ j, j < 5 → W.cell? (a.add (i * 5 + j)) = [Value.int .i64 s.wh, .int .i64 s.k, .int .i64 s.at_, .int .i64 s.to, .slice s.sa s.bs.length s.sc][j]?) ∧ Src W (.slice s.sa s.bs.length s.sc) s.bs := fun i hi => by
      have hi' := hel i hi
      rw [cellsGo, List.getElem?_eq_getElem (show i < elems.length by omega)] at hi'
      cases hc : W.cells? base (a.add (i * 5)) 5 with
      | none => rw [hc] at hi'; simp at hi'
      | some cs =>
        rw [hc] at hi'
        obtain ⟨_, hl5, hcell⟩ := World.cells?_some hc
        obtain ⟨s, rfl, hs⟩ := open_go hl5 hi'
        refine ⟨s, fun j hj => ?_, hs⟩
        rw [← Addr.add_add]
        exact hcell j hj
    obtain ⟨xs, hxl, hxs⟩ := list_of each
    refine ⟨xs, hxl, by omega, fun hp => ?_⟩
    obtain ⟨b, off, spot⟩ := a
    have hc0 := (hxs 0 hp).1 0 (by omega)
    have hspot : spot = none := by simpa [Addr.add] using World.cell?_spot hc0
    subst hspot
    have hadd : ∀ i, (⟨b, off, none⟩ : Addr).add i = ⟨b, off + i, none⟩ := fun i => by unfold Addr.add; split <;> simp_all
    rw [hadd] at hc0
    refine ⟨b, off, rfl, World.block_lt_of_cell? _ _ hc0, fun j hj => ?_⟩
    obtain ⟨hcells, hs⟩ := hxs j hj
    have q := fun i (hi : i < 5) => (congrArg W.cell? (hadd (j * 5 + i))).symm.trans (hcells i hi)
    refine ⟨?_, ?_, ?_, ?_, ?_, hs⟩
    · simpa [Nat.add_assoc] using q 0 (by omega)
    · simpa [Nat.add_assoc] using q 1 (by omega)
    · simpa [Nat.add_assoc] using q 2 (by omega)
    · simpa [Nat.add_assoc] using q 3 (by omega)
    · simpa [Nat.add_assoc] using q 4 (by omega)
end

set_option maxRecDepth 100000 in
theorem plays_long (ao : Option Addr) (n c : Nat) (w : World) (hn : 300 < n) (hm : n ≤ 9223372036854775807) :
    Calls Tryd.prog 6 #[.slice ao n c] w fun e w' => e = .returned (.bool true) ∧ w' = w := by
  go_enter Tryd.func6, Tryd.ntmps6
  go_wp2_with fail
  go_ret
  exact ⟨rfl, rfl⟩
end Go.Proofs.YtbebfliimjjohaaDoor.Net
