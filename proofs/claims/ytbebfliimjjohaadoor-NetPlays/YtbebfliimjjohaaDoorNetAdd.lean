/-
  What net.Net's has and add do, over the turned program.
-/
import Derived.Test.YtbebfliimjjohaaDoorNetBase
import Derived.Test.YtbebfliimjjohaaDoorRefe
namespace Go.Proofs.YtbebfliimjjohaaDoor.Net
open Go.RowKit
open Wire (Has bcell)

/-- Is there a k-th one of n? -/
def hasB (k : Int) (n : Nat) : Bool := decide (0 ≤ k ∧ k < (n : Int))
theorem hasB_true {k : Int} {n : Nat} (h0 : 0 ≤ k) (h1 : k < (n : Int)) : hasB k n = true := by simp [hasB, h0, h1]
theorem hasB_low {k : Int} {n : Nat} (h0 : k < 0) : hasB k n = false := by simp [hasB]; omega
theorem hasB_high {k : Int} {n : Nat} (h0 : (n : Int) ≤ k) : hasB k n = false := by simp [hasB]; omega

theorem row_shape {w : World} {B : Nat} {e : TypeId} {s n : Nat} {v : Value} {xs : List Value} (h : w.ownsRow B e s v n xs) : ∃ ao c, v = .slice ao n c ∧ n ≤ c ∧ (ao = none → n = 0 ∧ c = 0) := by
  rcases h.2 with ⟨rfl, rfl⟩ | ⟨g, cap, cur, rfl, _, _, hn, _⟩
  · exact ⟨none, 0, rfl, Nat.le_refl _, fun _ => ⟨rfl, rfl⟩⟩
  · exact ⟨_, cap, rfl, hn, fun h => by cases h⟩

set_option maxRecDepth 100000 in
theorem has_any (q : Nat) (ao : Option Addr) (n c : Nat) (k : Int) (w : World) (_hn : n ≤ 200) (hc : w.cell? ⟨q, 0, none⟩ = some (.slice ao n c)) :
    Calls Tryd.prog 71 #[.pointer (some ⟨q, 0, none⟩), .int .i64 k] w fun e w' => e = .returned (.bool (hasB k n)) ∧ w' = w := by
  by_cases h0 : 0 ≤ k
  · by_cases h1 : k < (n : Int)
    · rw [hasB_true h0 h1]
      go_enter Tryd.func71, Tryd.ntmps71
      go_wp2
      go_ret
      exact ⟨rfl, rfl⟩
    · rw [hasB_high (by omega)]
      have h2 : decide (k < (n : Int)) = false := decide_eq_false h1
      go_enter Tryd.func71, Tryd.ntmps71
      go_wp2
      go_ret
      exact ⟨rfl, rfl⟩
  · rw [hasB_low (by omega)]
    have h2 : decide (0 ≤ k) = false := decide_eq_false h0
    go_enter Tryd.func71, Tryd.ntmps71
    go_wp2
    go_ret
    exact ⟨rfl, rfl⟩

set_option maxHeartbeats 2000000 in
set_option maxRecDepth 100000 in
theorem add_full (B q : Nat) (ps : List (Int × ByteArray)) (lost to : Int) (s : ByteArray) (w : World) (h : NetIs w B q ps lost) (hl : ps.length = 200) (h0 : 0 ≤ lost) (h1 : lost ≤ 1000000) :
    Calls Tryd.prog 70 #[.pointer (some ⟨q, 0, none⟩), .agg #[.int .i64 to, .string s]] w fun e w' => e = .returned (.tuple #[]) ∧ NetIs w' B q ps (lost + 1) ∧ Only B 149 q w w' := by
  obtain ⟨⟨v, hv, hrow⟩, hlost, hfr, hlt, hle, _⟩ := h
  obtain ⟨ao, c, rfl, hnc, _⟩ := row_shape hrow
  have hf1 := hfr 1
  rw [hl] at hv hrow
  have hqs : q < w.heap.size := by omega
  go_enter Tryd.func70, Tryd.ntmps70
  go_wp2_with fail
  refine bodyPost_ret (v := .tuple #[]) (by simp [results, Tryd.results70]) rfl ⟨rfl, ?_, ((Only.refl _ _ _ _).setCell _).alloc _⟩
  refine ⟨⟨.slice ao 200 c, ?_, ?_⟩, ?_, fun i => ?_, hlt, by simp; omega, by omega⟩
  · rw [World.cell?_alloc_lt _ _ ⟨q, 0, none⟩ (by simp; omega), World.cell?_setCell_other _ _ _ _ (by simp), hv]
  · rw [hl]
    exact (ownsRow_setCell_below hrow (a := ⟨q, 1, none⟩) hlt _).alloc _
  · rw [World.cell?_alloc_lt _ _ ⟨q, 1, none⟩ (by simp; omega), World.cell?_setCell_same _ _ _ hlost]
  · rw [World.frozen?_alloc_old _ _ _ (by simp; omega)]
    simpa using hfr i

theorem pair_new (w : World) (x y : Value) (o : Obj) : ∀ j u, [x, y][j]? = some u → ((w.alloc o).alloc (.cells #[x, y] 149)).drew.cell? ((⟨w.heap.size + 1, 0, none⟩ : Addr).add j) = some u := by
  intro j u hj
  match j, hj with
  | 0, hj => simp at hj; subst hj; simp [Addr.add]
  | 1, hj => simp at hj; subst hj; simp [Addr.add]
  | n + 2, hj => simp at hj

theorem pair_one (to : Int) (s : ByteArray) : ∀ u ∈ [Value.int .i64 to, Value.string s], u.oneCell' = true := by intro u hu; simp at hu; rcases hu with rfl | rfl <;> rfl

/-- What lies in a block below B is as it was behind an append onto a row from B on. -/
theorem app_block {w w1 : World} {o1 o2 : Obj} {B q : Nat} {e : TypeId} {sz n : Nat} {v : Value} {xs : List Value} (ho : w.ownsRow B e sz v n xs) (hg : ((w.alloc o1).alloc o2).drew.grownBy w1 v.ownBlock) (hq : q < w.heap.size) (hB : q < B) : w1.heap[q]? = w.heap[q]? := by
  rw [hg.block q (by simp; omega) (fun h => by have := (ho.lt q h.symm).1; omega)]
  show ((w.alloc o1).alloc o2).heap[q]? = _
  rw [Below.heap_alloc _ _ _ (by simp; omega), Below.heap_alloc _ _ _ hq]
theorem app_cell {w w1 : World} {o1 o2 : Obj} {B q i : Nat} {e : TypeId} {sz n : Nat} {v x : Value} {xs : List Value} (ho : w.ownsRow B e sz v n xs) (hg : ((w.alloc o1).alloc o2).drew.grownBy w1 v.ownBlock) (hq : q < w.heap.size) (hB : q < B) (hc : w.cell? ⟨q, i, none⟩ = some x) : w1.cell? ⟨q, i, none⟩ = some x :=
  (World.cell?_of_block (app_block ho hg hq hB)).trans hc
theorem app_free {w w1 : World} {o1 o2 : Obj} {B q i : Nat} {e : TypeId} {sz n : Nat} {v : Value} {xs : List Value} (ho : w.ownsRow B e sz v n xs) (hg : ((w.alloc o1).alloc o2).drew.grownBy w1 v.ownBlock) (hq : q < w.heap.size) (hB : q < B) (hc : w.frozen? ⟨q, i, none⟩ = false) : w1.frozen? ⟨q, i, none⟩ = false :=
  (World.frozen?_of_block (app_block ho hg hq hB)).trans hc

theorem add_fin {w w1 : World} {o1 o2 : Obj} {B q : Nat} {ps : List (Int × ByteArray)} {lost to : Int} {s : ByteArray} {v v1 u : Value} (ho : w.ownsRow B 149 2 v ps.length (pcells ps)) (h1 : w1.ownsRow B 149 2 v1 (ps.length + 1) (pcells ps ++ [.int .i64 to, .string s]))
    (hg : ((w.alloc o1).alloc o2).drew.grownBy w1 v.ownBlock) (hq : q < w.heap.size) (hB : q < B) (hle : B ≤ w.heap.size) (hlost : w.cell? ⟨q, 1, none⟩ = some (.int .i64 lost)) (hfr : ∀ i, w.frozen? ⟨q, i, none⟩ = false) (hc : w1.cell? ⟨q, 0, none⟩ = some u) (hl : ps.length < 200) :
    NetIs (w1.setCell ⟨q, 0, none⟩ v1) B q (ps ++ [(to, s)]) lost ∧ Only B 149 q w (w1.setCell ⟨q, 0, none⟩ v1) := by
  have hsz := hg.size
  simp at hsz
  refine ⟨⟨⟨v1, World.cell?_setCell_same _ _ _ hc, ?_⟩, ?_, fun i => ?_, hB, by simp; omega, by simp; omega⟩, ?_⟩
  · rw [List.length_append, pcells_snoc]
    exact ownsRow_setCell_below h1 (a := ⟨q, 0, none⟩) hB _
  · rw [World.cell?_setCell_other _ _ _ _ (by simp)]
    exact app_cell ho hg hq hB hlost
  · simpa using app_free ho hg hq hB (hfr i)
  · have h2 : ((w.alloc o1).alloc o2).drew.ownsRow B 149 2 v ps.length (pcells ps) := (ho.alloc o1).alloc o2
    exact Only.setCell (Only.grown ((((Only.refl _ _ _ _).alloc o1).alloc o2).drew) h2 hg) _

set_option maxHeartbeats 2000000 in
set_option maxRecDepth 100000 in
theorem add_room (B q : Nat) (ps : List (Int × ByteArray)) (lost to : Int) (s : ByteArray) (w : World) (h : NetIs w B q ps lost) (hl : ps.length < 200) :
    Calls Tryd.prog 70 #[.pointer (some ⟨q, 0, none⟩), .agg #[.int .i64 to, .string s]] w fun e w' => e = .returned (.tuple #[]) ∧ NetIs w' B q (ps ++ [(to, s)]) lost ∧ Only B 149 q w w' := by
  obtain ⟨⟨v, hv, hrow⟩, hlost, hfr, hlt, hle, _⟩ := h
  obtain ⟨ao, c, rfl, hnc, _⟩ := row_shape hrow
  have hf0 := hfr 0
  have hqs : q < w.heap.size := by omega
  obtain ⟨i0, hi, hz0, hz1, hz2⟩ := info_parts info_packet
  have hown0 := hrow
  have e3 : ps.length + 1 ≤ maxLen := by unfold maxLen; omega
  have e4 : (ps.length + 1) * 24 ≤ 140737488355328 := by omega
  have e5 : ∀ o1 o2, B ≤ ((w.alloc o1).alloc o2).drew.heap.size := fun o1 o2 => by simp; omega
  go_enter Tryd.func70, Tryd.ntmps70
  go_wp2_with fail
  go_region_law (refine Wire.step_own rfl (wp_append_own _ (.tmp 21) (.tmp 23) 47 rfl B 149 i0 (.agg #[.int .i64 0, .string ⟨#[]⟩]) 2 24 Tryd.underlying47 hi hz0 hz1 hz2 rfl (by decide) _ _ _ (by simp [Act.eval]) ((hrow.alloc _).alloc _) ⟨w.heap.size + 1, 0, none⟩ 1 1 [.int .i64 to, .string s] (by simp [Act.eval]) rfl (pair_new _ _ _ _) (pair_one _ _) e3 e4 (e5 _ _) ?_); intro v1 w1 hown hg _; have hq1 : w1.cell? ⟨q, 0, none⟩ = some (.slice ao ps.length c) := app_cell hown0 hg hqs hlt hv; have hqf : w1.frozen? ⟨q, 0, none⟩ = false := app_free hown0 hg hqs hlt hf0; obtain ⟨ao1, c1, hv1, _, _⟩ := row_shape hown; rw [hv1] at hown; rw [hv1])
  all_goals
    have F := add_fin hown0 hown hg hqs hlt hle hlost hfr hq1 hl
    go_wp2
    go_end0
    exact ⟨rfl, F⟩
end Go.Proofs.YtbebfliimjjohaaDoor.Net
