/-
  What net.Net's Spoil does, over the turned program.
-/
import Derived.Test.YtbebfliimjjohaaDoorNetTake
namespace Go.Proofs.YtbebfliimjjohaaDoor.Net
open Go.RowKit
open Wire (Has bcell Sees conv_sees)
open Num (strOf ints)

set_option maxHeartbeats 1000000 in
set_option maxRecDepth 100000 in
theorem spoil_none (B q : Nat) (ps : List (Int × ByteArray)) (lost k at_ what : Int) (w : World) (h : NetIs w B q ps lost) (hk : hasB k ps.length = false) :
    Calls Tryd.prog 26 #[.pointer (some ⟨q, 0, none⟩), .int .i64 k, .int .i64 at_, .int .u8 what] w fun e w' => e = .returned (.iface 22 (.int .i64 2)) ∧ w' = w := by
  obtain ⟨⟨v, hv, hrow⟩, _, _, hlt, hle, hlen⟩ := h
  obtain ⟨ao, c, rfl, _, _⟩ := row_shape hrow
  go_enter Tryd.func26, Tryd.ntmps26
  go_wp2_with (go_at_call 71; refine (has_any q ao ps.length c k _ hlen hv).mono ?_; rintro e w' ⟨rfl, rfl⟩)
  go_ret
  exact ⟨rfl, rfl⟩

set_option maxHeartbeats 1000000 in
set_option maxRecDepth 100000 in
theorem spoil_off (B q : Nat) (ps : List (Int × ByteArray)) (lost at_ what : Int) (k : Nat) (w : World) (h : NetIs w B q ps lost) (hk : k < ps.length) (hsz : ps[k].2.size ≤ 300) (ha : at_ < 0 ∨ (ps[k].2.size : Int) ≤ at_) :
    Calls Tryd.prog 26 #[.pointer (some ⟨q, 0, none⟩), .int .i64 k, .int .i64 at_, .int .u8 what] w fun e w' => e = .returned (.iface 22 (.int .i64 2)) ∧ w' = w := by
  have hlen := h.len
  obtain ⟨g, c, hv, hrow, hnc, hgB, hgs, hc0, hc1⟩ := h.at k hk
  have hhas : hasB (k : Int) ps.length = true := hasB_true (by omega) (by omega)
  have hkI : (k : Int) < (ps.length : Int) := by omega
  generalize hp : ps[k] = p at *
  obtain ⟨to, s⟩ := p
  dsimp only at hc0 hc1 hsz ha
  clear hp
  by_cases h0 : at_ < 0
  · go_enter Tryd.func26, Tryd.ntmps26
    go_wp2_with (go_at_call 71; refine (has_any q _ ps.length c k _ hlen hv).mono ?_; rintro e w' ⟨rfl, rfl⟩)
    go_ret
    exact ⟨rfl, rfl⟩
  · have h1 : (s.size : Int) ≤ at_ := by omega
    have h2 : decide (at_ < 0) = false := decide_eq_false h0
    clear ha
    go_enter Tryd.func26, Tryd.ntmps26
    go_wp2_with (go_at_call 71; refine (has_any q _ ps.length c k _ hlen hv).mono ?_; rintro e w' ⟨rfl, rfl⟩)
    go_ret
    exact ⟨rfl, rfl⟩

theorem ints_at (s : ByteArray) (a : Nat) (h : a < s.data.size) : (ints s).getD a 0 = ((s.data[a]).toNat : Int) := by
  unfold Num.ints
  rw [List.getD_eq_getElem?_getD, List.getElem?_map, Array.getElem?_toList, Array.getElem?_eq_getElem h]
  rfl
theorem bytesRow_size (s : ByteArray) (cp : Nat) : s.size ≤ (bytesRow s cp).size := by
  unfold bytesRow
  rw [Array.size_append, Array.size_map]
  exact Nat.le_add_right _ _

theorem spoil_mid {w : World} {B q g n c k a cp : Nat} {ps : List (Int × ByteArray)} {s : ByteArray} {z : Int} (hrow : w.ownsRow B 149 2 (.slice (some ⟨g, 0, none⟩) n c) n (pcells ps)) (hqs : q < w.heap.size) (hgs : g < w.heap.size) (_hle : B ≤ w.heap.size) (_hgB : B ≤ g) (_hlt : q < B) (_hk : k < n)
    (hc1 : w.cell? ⟨g, k * 2 + 1, none⟩ = some (.string s)) :
    (∀ i, ((w.alloc (.cells (bytesRow s cp) 5 ((bytesRow s cp).size, (bytesRow s cp).size + 1))).setCell ⟨w.heap.size, a, none⟩ (.int .u8 z)).drew.cell? ⟨q, i, none⟩ = w.cell? ⟨q, i, none⟩) ∧ (∀ i, ((w.alloc (.cells (bytesRow s cp) 5 ((bytesRow s cp).size, (bytesRow s cp).size + 1))).setCell ⟨w.heap.size, a, none⟩ (.int .u8 z)).drew.frozen? ⟨q, i, none⟩ = w.frozen? ⟨q, i, none⟩) ∧
    (((w.alloc (.cells (bytesRow s cp) 5 ((bytesRow s cp).size, (bytesRow s cp).size + 1))).setCell ⟨w.heap.size, a, none⟩ (.int .u8 z)).drew.cell? ⟨g, k * 2 + 1, none⟩ = some (.string s)) ∧
    (((w.alloc (.cells (bytesRow s cp) 5 ((bytesRow s cp).size, (bytesRow s cp).size + 1))).setCell ⟨w.heap.size, a, none⟩ (.int .u8 z)).drew.frozen? ⟨g, k * 2 + 1, none⟩ = false) ∧
    ((convert 33 9 (.slice (some ⟨w.heap.size, 0, none⟩) s.size cp)).run Tryd.prog ((w.alloc (.cells (bytesRow s cp) 5 ((bytesRow s cp).size, (bytesRow s cp).size + 1))).setCell ⟨w.heap.size, a, none⟩ (.int .u8 z)).drew.drew = .ok (.string (strOf ((ints s).set a z))) ((w.alloc (.cells (bytesRow s cp) 5 ((bytesRow s cp).size, (bytesRow s cp).size + 1))).setCell ⟨w.heap.size, a, none⟩ (.int .u8 z)).drew.drew) ∧
    (((w.alloc (.cells (bytesRow s cp) 5 ((bytesRow s cp).size, (bytesRow s cp).size + 1))).setCell ⟨w.heap.size, a, none⟩ (.int .u8 z)).drew.ownsRow B 149 2 (.slice (some ⟨g, 0, none⟩) n c) n (pcells ps)) ∧
    Only B 149 q w ((w.alloc (.cells (bytesRow s cp) 5 ((bytesRow s cp).size, (bytesRow s cp).size + 1))).setCell ⟨w.heap.size, a, none⟩ (.int .u8 z)).drew ∧
    w.heap.size < ((w.alloc (.cells (bytesRow s cp) 5 ((bytesRow s cp).size, (bytesRow s cp).size + 1))).setCell ⟨w.heap.size, a, none⟩ (.int .u8 z)).drew.heap.size := by
  have hold : ∀ b i, b < w.heap.size → ((w.alloc (.cells (bytesRow s cp) 5 ((bytesRow s cp).size, (bytesRow s cp).size + 1))).setCell ⟨w.heap.size, a, none⟩ (.int .u8 z)).drew.cell? ⟨b, i, none⟩ = w.cell? ⟨b, i, none⟩ := fun b i hb => by
    rw [Wire.cell_drew, World.cell?_setCell_other _ _ _ _ (by intro e; injection e with e; omega), World.cell?_alloc_lt _ _ ⟨b, i, none⟩ hb]
  refine ⟨fun i => hold _ _ hqs, fun i => ?_, (hold _ _ hgs).trans hc1, ?_, ?_, ?_, ?_, by simp⟩
  · show (World.setCell _ _ _).frozen? ⟨q, i, none⟩ = _
    rw [World.frozen?_setCell, World.frozen?_alloc_old _ _ _ (by show q ≠ _; omega)]
  · show (World.setCell _ _ _).frozen? ⟨g, k * 2 + 1, none⟩ = false
    rw [World.frozen?_setCell, World.frozen?_alloc_old _ _ _ (by show g ≠ _; omega)]
    exact hrow.frozenAt _
  · have hl : ((ints s).set a z).length = s.size := by rw [List.length_set, Num.ints_length]
    have h9 := Wire.conv_cells (w := ((w.alloc (.cells (bytesRow s cp) 5 ((bytesRow s cp).size, (bytesRow s cp).size + 1))).setCell ⟨w.heap.size, a, none⟩ (.int .u8 z)).drew.drew) ⟨w.heap.size, 0, none⟩ ((ints s).set a z) cp (fun j v hj => by
      have hjl : j < s.size := by
        have := (List.getElem?_eq_some_iff.1 hj).1
        rw [List.length_map, hl] at this
        exact this
      rw [add_off, Nat.zero_add, Wire.cell_drew, Wire.cell_drew]
      have hcj : (w.alloc (.cells (bytesRow s cp) 5 ((bytesRow s cp).size, (bytesRow s cp).size + 1))).cell? ⟨w.heap.size, j, none⟩ = some (.int .u8 ((ints s).getD j 0)) := by
        rw [World.cell?_alloc_mark, bytesRow_at s _ j hjl, ints_at s j hjl]
      rw [List.getElem?_map, List.getElem?_set] at hj
      by_cases e : a = j
      · subst e
        rw [World.cell?_setCell_same _ _ _ hcj]
        rw [if_pos rfl, if_pos (by rw [Num.ints_length]; exact hjl)] at hj
        simpa using hj
      · rw [World.cell?_setCell_other _ _ _ _ (by intro h; injection h with _ h; exact e h), hcj]
        rw [if_neg e, List.getElem?_eq_getElem (by rw [Num.ints_length]; exact hjl)] at hj
        rw [List.getD_eq_getElem?_getD, List.getElem?_eq_getElem (by rw [Num.ints_length]; exact hjl)]
        simpa using hj)
    rw [hl] at h9
    exact h9
  · exact ownsRow_setCell_other (hrow.alloc _) (a := ⟨w.heap.size, a, none⟩) (by simp [Value.ownBlock]; omega) _
  · exact (((Only.refl _ _ _ _).alloc _).setNew (Nat.le_refl _) _).drew

theorem pcells_set : ∀ (ps : List (Int × ByteArray)) (k : Nat) (to : Int) (s st : ByteArray) (hk : k < ps.length), ps[k] = (to, s) → pcells (ps.set k (to, st)) = (pcells ps).set (k * 2 + 1) (.string st)
  | p :: ps, 0, to, s, st, _, h => by
    have h' : p = (to, s) := h
    subst h'
    simp [pcells]
  | p :: ps, k + 1, to, s, st, hk, h => by
    have ih := pcells_set ps k to s st (by simpa using hk) (by simpa using h)
    have e : ∀ qs, pcells (p :: qs) = .int .i64 p.1 :: .string p.2 :: pcells qs := fun qs => by simp [pcells]
    rw [List.set_cons_succ, e, e, ih, show (k + 1) * 2 + 1 = (k * 2 + 1) + 1 + 1 by omega]
    simp

theorem spoil_fin {w Y : World} {B q g c k : Nat} {ps : List (Int × ByteArray)} {lost to : Int} {s st : ByteArray} {hk : k < ps.length} (h : NetIs w B q ps lost) (hpk : ps[k] = (to, s)) (hrY : Y.ownsRow B 149 2 (.slice (some ⟨g, 0, none⟩) ps.length c) ps.length (pcells ps)) (hOY : Only B 149 q w Y)
    (yq : ∀ i, Y.cell? ⟨q, i, none⟩ = w.cell? ⟨q, i, none⟩) (yfq : ∀ i, Y.frozen? ⟨q, i, none⟩ = w.frozen? ⟨q, i, none⟩) (hu : w.cell? ⟨q, 0, none⟩ = some (.slice (some ⟨g, 0, none⟩) ps.length c)) (hgB : B ≤ g) (hlY : w.heap.size < Y.heap.size) :
    NetIs (Y.setCell ⟨g, k * 2 + 1, none⟩ (.string st)).drew B q (ps.set k (to, st)) lost ∧ Only B 149 q w (Y.setCell ⟨g, k * 2 + 1, none⟩ (.string st)).drew := by
  obtain ⟨_, hlost, hfr, hlt, hle, hlen⟩ := h
  have hst := hrY.stored (k * 2 + 1) (.string st)
  have hoth : ∀ i, (Y.setCell ⟨g, k * 2 + 1, none⟩ (.string st)).drew.cell? ⟨q, i, none⟩ = w.cell? ⟨q, i, none⟩ := fun i => by
    rw [Wire.cell_drew, World.cell?_setCell_other _ _ _ _ (by intro e; injection e with e; omega), yq]
  refine ⟨⟨⟨_, (hoth 0).trans hu, ?_⟩, (hoth 1).trans hlost, fun i => ?_, hlt, by simp; omega, by simpa using hlen⟩, (Only.grown hOY hrY hst.2).drew⟩
  · rw [List.length_set, pcells_set ps k to s st hk hpk]
    exact hst.1
  · show (World.setCell _ _ _).frozen? ⟨q, i, none⟩ = false
    rw [World.frozen?_setCell, yfq, hfr]

set_option maxHeartbeats 2000000 in
set_option maxRecDepth 100000 in
theorem spoil_yes (B q : Nat) (ps : List (Int × ByteArray)) (lost what : Int) (k a : Nat) (w : World) (h : NetIs w B q ps lost) (hk : k < ps.length) (hsz : ps[k].2.size ≤ 300) (ha : a < ps[k].2.size) :
    Calls Tryd.prog 26 #[.pointer (some ⟨q, 0, none⟩), .int .i64 k, .int .i64 a, .int .u8 what] w fun e w' => e = .returned .nilIface ∧ NetIs w' B q (ps.set k (ps[k].1, strOf ((ints ps[k].2).set a (bits .xor .u8 ((ints ps[k].2).getD a 0) what)))) lost ∧ Only B 149 q w w' := by
  have hlen := h.len
  have hlt := h.lt
  have hle := h.le
  obtain ⟨g, c, hv, hrow, hnc, hgB, hgs, hc0, hc1⟩ := h.at k hk
  have hhas : hasB (k : Int) ps.length = true := hasB_true (by omega) (by omega)
  have hkI : (k : Int) < (ps.length : Int) := by omega
  have hqs : q < w.heap.size := by omega
  generalize hp : ps[k] = p at *
  obtain ⟨to, s⟩ := p
  dsimp only at hc0 hc1 hsz ha ⊢
  have hpk : ps[k] = (to, s) := hp
  clear hp
  have haI : (a : Int) < (s.size : Int) := by omega
  have hd0 : decide ((a : Int) < 0) = false := decide_eq_false (by omega)
  have hby := fun W => run_bytes_of_string (P := Tryd.prog) W 9 33 5 s Tryd.underlying9 Tryd.underlying33 Tryd.underlying5
  have hcl : (w.alloc (.cells (bytesRow s (grownCap w s.size 0 5)) 5 ((bytesRow s (grownCap w s.size 0 5)).size, (bytesRow s (grownCap w s.size 0 5)).size + 1))).cell? ⟨w.heap.size, a, none⟩ = some (.int .u8 ((ints s).getD a 0)) := by
    rw [World.cell?_alloc_mark, bytesRow_at s _ a ha, ints_at s a ha]
  have hfl : (w.alloc (.cells (bytesRow s (grownCap w s.size 0 5)) 5 ((bytesRow s (grownCap w s.size 0 5)).size, (bytesRow s (grownCap w s.size 0 5)).size + 1))).frozen? ⟨w.heap.size, a, none⟩ = false := by
    rw [World.frozen?_alloc_mark, decide_eq_false (by have := bytesRow_size s (grownCap w s.size 0 5); omega)]
    rfl
  have hcap := grownCap_ge w s.size 0 5
  obtain ⟨y, hy⟩ : ∃ y, (ints s).getD a 0 = y := ⟨_, rfl⟩
  rw [hy] at hcl ⊢
  go_enter Tryd.func26, Tryd.ntmps26
  go_wp2_with (go_at_call 71; refine (has_any q _ ps.length c k _ hlen hv).mono ?_; rintro e w' ⟨rfl, hw⟩; have hw := hw.symm; subst hw)
  have F := spoil_mid (w := w) (B := B) (q := q) (g := g) (a := a) (z := bits .xor .u8 y what) (s := s) (cp := grownCap w s.size 0 5) hrow hqs hgs hle hgB hlt (by omega) hc1
  generalize ((w.alloc (.cells (bytesRow s (grownCap w s.size 0 5)) 5 ((bytesRow s (grownCap w s.size 0 5)).size, (bytesRow s (grownCap w s.size 0 5)).size + 1))).setCell ⟨w.heap.size, a, none⟩ (.int .u8 (bits .xor .u8 y what))).drew = Y at *
  obtain ⟨yq, yfq, y1, yf, hcv, hrY, hOY, hlY⟩ := F
  have y0 := (yq 0).trans hv
  clear hcl hfl hby
  generalize hst : strOf ((ints s).set a (bits .xor .u8 y what)) = st at *
  go_region
  all_goals go_wp2
  all_goals go_ret
  exact ⟨rfl, by rw [hst]; exact spoil_fin h hpk hrY hOY yq yfq hv hgB hlY⟩
end Go.Proofs.YtbebfliimjjohaaDoor.Net
