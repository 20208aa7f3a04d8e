/-
  That tenurelaw.WireEncodes is true at every message, over the turned program.
-/
import Derived.Test.YtbebfliimjjohaaDoorLaw
namespace Go.Proofs.YtbebfliimjjohaaDoor.Wire
open Go.RowKit
open Num (inB nb numB body ints M okB leaseN)

theorem box_stays {w w1 w2 : World} {o : Obj} (hb1 : Below (w.alloc o).heap.size (w.alloc o) w1) (hb2 : Below w1.heap.size w1 w2) : ∀ j, w2.cell? ⟨w.heap.size, j, none⟩ = (w.alloc o).cell? ⟨w.heap.size, j, none⟩ := by
  intro j
  have hz1 := hb1.size
  simp at hz1
  rw [(bcell hb2).1 _ _ (by omega), (bcell hb1).1 _ _ (by simp)]

theorem below3 {w w1 w2 w3 : World} {o : Obj} (hb1 : Below (w.alloc o).heap.size (w.alloc o) w1) (hb2 : Below w1.heap.size w1 w2) (hb3 : Below w2.heap.size w2 w3) : Below w.heap.size w w3 ∧ w.heap.size < w3.heap.size := by
  have hz1 := hb1.size
  have hz2 := hb2.size
  have hz3 := hb3.size
  simp at hz1
  exact ⟨((((Below.refl _ _).alloc (Nat.le_refl _) _).trans (hb1.mono (by simp))).trans (hb2.mono (by omega))).trans (hb3.mono (by omega)), by omega⟩

set_option maxHeartbeats 2000000 in
set_option maxRecDepth 100000 in
theorem encodes (m : M) (w : World) (hg : Bare.Laid w) (hm : m.d.size ≤ maxLen) :
    Calls Tryd.prog 4 #[M.agg m] w fun e w' => e = .returned (.bool true) ∧ Below w.heap.size w w' := by
  unfold maxLen at hm
  have tl := fun w => told_any m w
  have hpos := hg.size
  by_cases h200 : 200 < m.d.size
  · clear tl
    obtain ⟨k, c, n, e, s, o, v, l, d⟩ := m
    unfold M.agg
    dsimp only at *
    go_enter Tryd.func4, Tryd.ntmps4
    go_wp2_with fail
    go_ret
    exact ⟨rfl, (Below.refl _ _).alloc (Nat.le_refl _) _⟩
  · cases hok : okB m with
    | true =>
      have rf := fun w => refe_ok m w hok
      have en := fun w => enc_ok m w (by omega) hok
      obtain ⟨bs, hbs⟩ : ∃ bs, m.bytes = bs := ⟨_, rfl⟩
      rw [hbs] at rf en
      clear hbs hok
      obtain ⟨k, c, n, e, s, o, v, l, d⟩ := m
      unfold M.agg at *
      dsimp only at *
      go_enter Tryd.func4, Tryd.ntmps4
      go_wp2_with (first
        | (go_at_call 18; refine (tl _).mono ?_; rintro e w1 ⟨rfl, hb1⟩)
        | (go_at_call 17; refine (rf _).mono ?_; rintro e w2 ⟨v2, rfl, hw2, hb2⟩; have hc2 := box_stays hb1 hb2)
        | (go_at_call 19; refine (en _).mono ?_; rintro e w3 ⟨v3, rfl, hw3, hb3⟩; have hcv2 := conv_has (hw2.below hb3 (Nat.le_refl _)); have hcv3 := conv_has hw3)
        | (go_at_call 14; refine (Bare.bare_nil _ _).mono ?_; rintro e w4 ⟨rfl, rfl⟩))
      go_ret
      exact ⟨rfl, (below3 hb1 hb2 hb3).1⟩
    | false =>
      have hcn := fun w => conv_nil w 0
      have rf := fun w => refe_bad m w (by omega) hok
      have en := fun w => enc_bad m w (by omega) hok
      clear hok
      obtain ⟨k, c, n, e, s, o, v, l, d⟩ := m
      unfold M.agg at *
      dsimp only at *
      go_enter Tryd.func4, Tryd.ntmps4
      go_wp2_with (first
        | (go_at_call 18; refine (tl _).mono ?_; rintro e w1 ⟨rfl, hb1⟩)
        | (go_at_call 17; refine (rf _).mono ?_; rintro e w2 ⟨rfl, hb2⟩; have hc2 := box_stays hb1 hb2)
        | (go_at_call 19; refine (en _).mono ?_; rintro e w3 ⟨rfl, hb3⟩; have hbb := below3 hb1 hb2 hb3; have hl3 := hg.below hbb.1 hpos)
        | (go_at_call 14; refine (Bare.bare_errno _ _ _ hl3).mono ?_; rintro e w4 ⟨rfl, hb4⟩))
      go_ret
      exact ⟨rfl, hbb.1.trans (hb4.mono (by omega))⟩
end Go.Proofs.YtbebfliimjjohaaDoor.Wire
