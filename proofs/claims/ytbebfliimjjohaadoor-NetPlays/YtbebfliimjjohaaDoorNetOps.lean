/-
  What net.Net's Send, Twice, Many and Lost do, over the turned program.
-/
import Derived.Test.YtbebfliimjjohaaDoorNetAdd
namespace Go.Proofs.YtbebfliimjjohaaDoor.Net
open Go.RowKit
open Wire (Has bcell Sees conv_sees)
open Num (strOf)

/-- What is under way, and how many are lost, behind one more. -/
def put (ps : List (Int × ByteArray)) (lost : Int) (p : Int × ByteArray) : List (Int × ByteArray) × Int := if ps.length < 200 then (ps ++ [p], lost) else (ps, lost + 1)

theorem add_any (B q : Nat) (ps : List (Int × ByteArray)) (lost to : Int) (s : ByteArray) (w : World) (h : NetIs w B q ps lost) (h0 : 0 ≤ lost) (h1 : lost ≤ 1000000) :
    Calls Tryd.prog 70 #[.pointer (some ⟨q, 0, none⟩), .agg #[.int .i64 to, .string s]] w fun e w' => e = .returned (.tuple #[]) ∧ NetIs w' B q (put ps lost (to, s)).1 (put ps lost (to, s)).2 ∧ Only B 149 q w w' := by
  by_cases hl : ps.length < 200
  · have e : put ps lost (to, s) = (ps ++ [(to, s)], lost) := by simp [put, hl]
    rw [e]
    exact add_room B q ps lost to s w h hl
  · have e : put ps lost (to, s) = (ps, lost + 1) := by simp [put, hl]
    rw [e]
    exact add_full B q ps lost to s w h (by have := h.len; omega) h0 h1

theorem NetIs.other {w w' : World} {B q : Nat} {ps : List (Int × ByteArray)} {lost : Int} (h : NetIs w B q ps lost) (hb : Below w.heap.size w w') : NetIs w' B q ps lost := by
  obtain ⟨⟨v, hv, hrow⟩, hlost, hfr, hlt, hle, hlen⟩ := h
  obtain ⟨hc, hf⟩ := bcell hb
  have hqs : q < w.heap.size := by omega
  refine ⟨⟨v, (hc _ _ hqs).trans hv, hrow.1, ?_⟩, (hc _ _ hqs).trans hlost, fun i => (hf _ _ hqs).trans (hfr i), hlt, by have := hb.size; omega, hlen⟩
  rcases hrow.2 with h | ⟨g, cap, cur, h1, h2, h3, h4⟩
  · exact .inl h
  · exact .inr ⟨g, cap, cur, h1, h2, (hb.block g (Array.getElem?_eq_some_iff.1 h3).1).trans h3, h4⟩

set_option maxHeartbeats 1000000 in
set_option maxRecDepth 100000 in
theorem send_any (B q C : Nat) (ps : List (Int × ByteArray)) (lost to : Int) (sv : Value) (bs : List Int) (w : World) (h : NetIs w B q ps lost) (h0 : 0 ≤ lost) (h1 : lost ≤ 1000000) (hs : Sees w C sv bs) (hC : C ≤ w.heap.size) :
    Calls Tryd.prog 23 #[.pointer (some ⟨q, 0, none⟩), .agg #[.int .i64 to, sv]] w fun e w' => e = .returned (.tuple #[]) ∧ NetIs w' B q (put ps lost (to, strOf bs)).1 (put ps lost (to, strOf bs)).2 ∧ Only B 149 q w w' := by
  have hcv := fun o => conv_sees (hs.below ((Below.refl _ _).alloc hC o) (Nat.le_refl _))
  have hN := fun o => h.other ((Below.refl _ _).alloc (Nat.le_refl _) o)
  obtain ⟨ao, c, rfl, _⟩ := hs
  go_enter Tryd.func23, Tryd.ntmps23
  go_wp2_with fail
  refine (add_any B q ps lost to _ _ (hN _) h0 h1).mono ?_
  rintro e w' ⟨rfl, hn, ho⟩
  go_wp2
  go_end0
  exact ⟨rfl, hn, ((Only.refl _ _ _ _).alloc _).trans ho⟩

set_option maxRecDepth 100000 in
theorem many_any (B q : Nat) (ps : List (Int × ByteArray)) (lost : Int) (w : World) (h : NetIs w B q ps lost) :
    Calls Tryd.prog 27 #[.pointer (some ⟨q, 0, none⟩)] w fun e w' => e = .returned (.int .i64 ps.length) ∧ w' = w := by
  obtain ⟨⟨v, hv, hrow⟩, _, _, _, _, hlen⟩ := h
  obtain ⟨ao, c, rfl, _, _⟩ := row_shape hrow
  go_enter Tryd.func27, Tryd.ntmps27
  go_wp2
  go_ret
  exact ⟨rfl, rfl⟩

set_option maxRecDepth 100000 in
theorem lost_any (B q : Nat) (ps : List (Int × ByteArray)) (lost : Int) (w : World) (h : NetIs w B q ps lost) :
    Calls Tryd.prog 28 #[.pointer (some ⟨q, 0, none⟩)] w fun e w' => e = .returned (.int .i64 lost) ∧ w' = w := by
  obtain ⟨_, hlost, _, _, _, _⟩ := h
  go_enter Tryd.func28, Tryd.ntmps28
  go_wp2
  go_ret
  exact ⟨rfl, rfl⟩

/-- The k-th packet's cells. -/
theorem NetIs.at {w : World} {B q : Nat} {ps : List (Int × ByteArray)} {lost : Int} (h : NetIs w B q ps lost) (k : Nat) (hk : k < ps.length) :
    ∃ g c, w.cell? ⟨q, 0, none⟩ = some (.slice (some ⟨g, 0, none⟩) ps.length c) ∧ w.ownsRow B 149 2 (.slice (some ⟨g, 0, none⟩) ps.length c) ps.length (pcells ps) ∧ ps.length ≤ c ∧ B ≤ g ∧ g < w.heap.size ∧
      w.cell? ⟨g, k * 2, none⟩ = some (.int .i64 ps[k].1) ∧ w.cell? ⟨g, k * 2 + 1, none⟩ = some (.string ps[k].2) := by
  obtain ⟨⟨v, hv, hrow⟩, _, _, _, _, _⟩ := h
  have hlt := hrow.lt
  rcases hrow.2 with ⟨_, h0⟩ | ⟨g, cap, cur, rfl, hB, hh, hn, _⟩
  · omega
  · have hp := pcells_get ps k hk
    refine ⟨g, cap, hv, hrow, hn, hB, (hlt g rfl).2, ?_, ?_⟩
    · rw [hrow.cellAt _ (by omega)]; exact hp.1
    · rw [hrow.cellAt _ (by omega)]; exact hp.2

set_option maxHeartbeats 1000000 in
set_option maxRecDepth 100000 in
theorem twice_no (B q : Nat) (ps : List (Int × ByteArray)) (lost k : Int) (w : World) (h : NetIs w B q ps lost) (hk : hasB k ps.length = false) :
    Calls Tryd.prog 25 #[.pointer (some ⟨q, 0, none⟩), .int .i64 k] w fun e w' => e = .returned (.iface 22 (.int .i64 2)) ∧ w' = w := by
  obtain ⟨⟨v, hv, hrow⟩, _, _, _, _, hlen⟩ := h
  obtain ⟨ao, c, rfl, _, _⟩ := row_shape hrow
  go_enter Tryd.func25, Tryd.ntmps25
  go_wp2_with (go_at_call 71; refine (has_any q ao ps.length c k _ hlen hv).mono ?_; rintro e w' ⟨rfl, rfl⟩)
  go_ret
  exact ⟨rfl, rfl⟩

set_option maxHeartbeats 1000000 in
set_option maxRecDepth 100000 in
theorem twice_yes (B q : Nat) (ps : List (Int × ByteArray)) (lost : Int) (k : Nat) (w : World) (h : NetIs w B q ps lost) (h0 : 0 ≤ lost) (h1 : lost ≤ 1000000) (hk : k < ps.length) :
    Calls Tryd.prog 25 #[.pointer (some ⟨q, 0, none⟩), .int .i64 k] w fun e w' => e = .returned .nilIface ∧ NetIs w' B q (put ps lost ps[k]).1 (put ps lost ps[k]).2 ∧ Only B 149 q w w' := by
  have hlen := h.len
  obtain ⟨g, c, hv, hrow, hnc, hgB, hgs, hc0, hc1⟩ := h.at k hk
  have hhas : hasB (k : Int) ps.length = true := hasB_true (by omega) (by omega)
  have hkI : (k : Int) < (ps.length : Int) := by omega
  generalize hp : ps[k] = p at *
  obtain ⟨to, s⟩ := p
  dsimp only at hc0 hc1
  clear hp
  go_enter Tryd.func25, Tryd.ntmps25
  go_wp2_with (first | (go_at_call 71; refine (has_any q _ ps.length c k _ hlen hv).mono ?_; rintro e w' ⟨rfl, rfl⟩) | (go_at_call 70; refine (add_any B q ps lost to s _ h h0 h1).mono ?_; rintro e w' ⟨rfl, hn, ho⟩))
  go_ret
  exact ⟨rfl, hn, ho⟩
end Go.Proofs.YtbebfliimjjohaaDoor.Net
