/-
  The steps of a disk among the arguments, opened.
-/
import Derived.Test.YtbebfliimjjohaaDoorWalSt
import Derived.Test.YtbebfliimjjohaaDoorOpen
namespace Go.Proofs.YtbebfliimjjohaaDoor.Wal
open Go.ChangeShapes Go.WideShapes Go.ChangeAt Go.RowKit
open Wire (there field_int)

theorem cellsPut : Tryd.prog.cellsOf 79 = 9 := by kernel_rfl

theorem list9 {α : Type} {cs : List α} (h : cs.length = 9) : ∃ c0 c1 c2 c3 c4 c5 c6 c7 c8, cs = [c0, c1, c2, c3, c4, c5, c6, c7, c8] := by
  match cs, h with
  | [c0, c1, c2, c3, c4, c5, c6, c7, c8], _ => exact ⟨c0, c1, c2, c3, c4, c5, c6, c7, c8, rfl⟩

/-- What is there for each is there in a list. -/
theorem list_of {α : Type} {n : Nat} {P : Nat → α → Prop} (h : ∀ i, i < n → ∃ x, P i x) : ∃ xs : List α, xs.length = n ∧ ∀ j (hj : j < xs.length), P j xs[j] := by
  induction n with
  | zero => exact ⟨[], rfl, fun j hj => by simp at hj⟩
  | succ n ih =>
    obtain ⟨xs, hl, hx⟩ := ih fun i hi => h i (by omega)
    obtain ⟨y, hy⟩ := h n (by omega)
    refine ⟨xs ++ [y], by simp [hl], fun j hj => ?_⟩
    by_cases hjl : j < xs.length
    · rw [List.getElem_append_left hjl]; exact hx j hjl
    · have e : j = xs.length := by simp at hj; omega
      subst e
      rw [List.getElem_append_right (by omega)]
      simpa [hl] using hy

section
variable {H : Type} {enc : TypeId × Value → H} {W : World} {base : Nat} {held : Bool}

theorem field_max {n : Nat} {c : Value} {xs : List (DataW H × List MemPlace)} {i k : Nat} (hl : xs.length = k) (hi : i < k) (h : DataW.trod enc Tryd.prog W base (fun _ => true) held n 3 [c] = xs[i]?) : ∃ x : Int, c = .int .i64 x ∧ x ≤ 9223372036854775807 := by
  obtain ⟨y, hy⟩ := there hl hi
  rw [hy] at h
  obtain ⟨x, hx, _, hw⟩ := DataW.trod_int Tryd.underlying3 h
  refine ⟨x, by simpa using hx, ?_⟩
  simp only [Lit.wf, IntKind.min, IntKind.max, IntKind.signed, IntKind.bits, Bool.and_eq_true, decide_eq_true_eq, if_true] at hw
  have h2 := hw.2
  simp at h2
  omega

set_option maxRecDepth 100000 in
theorem open_put {fuel : Nat} {cs : List Value} {y : DataW H × List MemPlace} (hl : cs.length = 9) (h : DataW.trod enc Tryd.prog W base (fun _ => true) held fuel 79 cs = some y) :
    ∃ x : Stp, cs = [.int .i64 x.wh, .int .i64 x.n, .int .i64 x.torn, .int .i64 x.r.c, .int .i64 x.r.n, .int .i64 x.r.o, .int .i64 x.r.v, .string x.r.d, .int .i64 x.r.e] ∧ x.r.d.size ≤ 9223372036854775807 ∧ x.n ≤ 9223372036854775807 := by
  obtain ⟨c0, c1, c2, c3, c4, c5, c6, c7, c8, rfl⟩ := list9 hl
  obtain ⟨xs, n, _, _, _, hlen, hfs⟩ := DataW.trod_struct Tryd.underlying79 h
  have hl4 : xs.length = 4 := hlen
  have f0 : DataW.trod enc Tryd.prog W base (fun _ => true) held n 3 [c0] = xs[0]? := hfs 0 _ rfl
  have f1 : DataW.trod enc Tryd.prog W base (fun _ => true) held n 3 [c1] = xs[1]? := hfs 1 _ rfl
  have f2 : DataW.trod enc Tryd.prog W base (fun _ => true) held n 3 [c2] = xs[2]? := hfs 2 _ rfl
  have f3 : DataW.trod enc Tryd.prog W base (fun _ => true) held n 76 [c3, c4, c5, c6, c7, c8] = xs[3]? := hfs 3 _ rfl
  obtain ⟨y3, hy3⟩ := there hl4 (show 3 < 4 by omega)
  rw [hy3] at f3
  obtain ⟨zs, m, _, _, _, hlen2, hgs⟩ := DataW.trod_struct Tryd.underlying76 f3
  have hl6 : zs.length = 6 := hlen2
  have g0 : DataW.trod enc Tryd.prog W base (fun _ => true) held m 3 [c3] = zs[0]? := hgs 0 _ rfl
  have g1 : DataW.trod enc Tryd.prog W base (fun _ => true) held m 3 [c4] = zs[1]? := hgs 1 _ rfl
  have g2 : DataW.trod enc Tryd.prog W base (fun _ => true) held m 3 [c5] = zs[2]? := hgs 2 _ rfl
  have g3 : DataW.trod enc Tryd.prog W base (fun _ => true) held m 3 [c6] = zs[3]? := hgs 3 _ rfl
  have g4 : DataW.trod enc Tryd.prog W base (fun _ => true) held m 9 [c7] = zs[4]? := hgs 4 _ rfl
  have g5 : DataW.trod enc Tryd.prog W base (fun _ => true) held m 3 [c8] = zs[5]? := hgs 5 _ rfl
  obtain ⟨wh, rfl⟩ := field_int hl4 (by omega) f0
  obtain ⟨k, rfl, hk⟩ := field_max hl4 (by omega) f1
  obtain ⟨a, rfl⟩ := field_int hl4 (by omega) f2
  obtain ⟨rc, rfl⟩ := field_int hl6 (by omega) g0
  obtain ⟨rn, rfl⟩ := field_int hl6 (by omega) g1
  obtain ⟨ro, rfl⟩ := field_int hl6 (by omega) g2
  obtain ⟨rv, rfl⟩ := field_int hl6 (by omega) g3
  obtain ⟨re, rfl⟩ := field_int hl6 (by omega) g5
  obtain ⟨y4, hy4⟩ := there hl6 (show 4 < 6 by omega)
  rw [hy4] at g4
  obtain ⟨dd, hd, _, hds⟩ := DataW.trod_string Tryd.underlying9 g4
  obtain rfl : c7 = .string dd := by simpa using hd
  exact ⟨⟨wh, k, a, ⟨rc, rn, ro, rv, dd, re⟩⟩, rfl, hds, hk⟩

/-- The play's list of steps. -/
theorem open_steps {fuel : Nat} {ao : Option Addr} {len cap : Nat} {x : DataW H × List MemPlace} (h : DataW.trod enc Tryd.prog W base (fun _ => true) held fuel 62 [.slice ao len cap] = some x) :
    ∃ xs : List Stp, xs.length = len ∧ len ≤ 9223372036854775807 ∧ Puts W ao xs := by
  rcases DataW.trod_slice Tryd.underlying62 h with ⟨hcs, _⟩ | ⟨a, len', cap', elems, rest, n, _, hcs, _, hb, hl, hm, hlen, hel, _, _⟩
  · simp at hcs
    obtain ⟨rfl, rfl, rfl⟩ := hcs
    exact ⟨[], rfl, by omega, fun h => by simp at h⟩
  · simp at hcs
    obtain ⟨rfl, rfl, rfl⟩ := hcs
    have hm' : cap ≤ 9223372036854775807 := hm
    have each : ∀ i, i < len → ∃ s : Stp, (∀ j, j < 9 → W.cell? (a.add (i * 9 + j)) = [Value.int .i64 s.wh, .int .i64 s.n, .int .i64 s.torn, .int .i64 s.r.c, .int .i64 s.r.n, .int .i64 s.r.o, .int .i64 s.r.v, .string s.r.d, .int .i64 s.r.e][j]?) ∧ s.r.d.size ≤ 9223372036854775807 ∧ s.n ≤ 9223372036854775807 := fun i hi => by
      have hi' := hel i hi
      rw [cellsPut, List.getElem?_eq_getElem (show i < elems.length by omega)] at hi'
      cases hc : W.cells? base (a.add (i * 9)) 9 with
      | none => rw [hc] at hi'; simp at hi'
      | some cs =>
        rw [hc] at hi'
        obtain ⟨_, hl9, hcell⟩ := World.cells?_some hc
        obtain ⟨s, rfl, hs⟩ := open_put hl9 hi'
        refine ⟨s, fun j hj => ?_, hs⟩
        rw [← Addr.add_add]
        exact hcell j hj
    obtain ⟨xs, hxl, hxs⟩ := list_of each
    refine ⟨xs, hxl, by omega, fun hp => ?_⟩
    obtain ⟨b, off, spot⟩ := a
    have hc0 := (hxs 0 hp).1 0 (by omega)
    have hspot : spot = none := by simpa [Addr.add] using World.cell?_spot hc0
    subst hspot
    have hadd : ∀ i, (⟨b, off, none⟩ : Addr).add i = ⟨b, off + i, none⟩ := fun i => by unfold Addr.add; split <;> simp_all
    rw [hadd] at hc0
    refine ⟨b, off, rfl, World.block_lt_of_cell? _ _ hc0, fun j hj => ?_⟩
    obtain ⟨hcells, hs⟩ := hxs j hj
    refine ⟨fun i hi => ?_, hs⟩
    have q := (congrArg W.cell? (hadd (j * 9 + i))).symm.trans (hcells i hi)
    rw [Nat.add_assoc]
    exact q
end

set_option maxRecDepth 100000 in
theorem plays_long (ao : Option Addr) (n c : Nat) (fill : Int) (w : World) (hn : 100 < n) (hm : n ≤ 9223372036854775807) :
    Calls Tryd.prog 7 #[.slice ao n c, .int .i64 fill] w fun e w' => e = .returned (.bool true) ∧ w' = w := by
  go_enter Tryd.func7, Tryd.ntmps7
  go_wp2_with fail
  go_ret
  exact ⟨rfl, rfl⟩
end Go.Proofs.YtbebfliimjjohaaDoor.Wal
