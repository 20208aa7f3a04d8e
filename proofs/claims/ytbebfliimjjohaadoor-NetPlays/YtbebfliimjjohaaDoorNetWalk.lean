/-
  That tenurelaw.NetPlays is true at all steps, over the turned program.
-/
import Derived.Test.YtbebfliimjjohaaDoorNetGone
namespace Go.Proofs.YtbebfliimjjohaaDoor.Net
open Go.RowKit
open Wire (Has bcell Sees conv_sees)
open Num (strOf ints)

set_option maxHeartbeats 8000000 in
set_option maxRecDepth 100000 in
theorem plays (ao : Option Addr) (c : Nat) (xs : List Stp) (w : World) (hn : xs.length ≤ 300) (hx : Goes w ao xs) (hg : Bare.Laid w) :
    Calls Tryd.prog 6 #[.slice ao xs.length c] w fun e w' => e = .returned (.bool true) ∧ Below w.heap.size w w' := by
  have hmf : ∀ (fn : Fn) (first cap : Array Value) (w : World), (Instr.makeFunc fn first cap).run Tryd.prog w = .ok (.func fn first cap) w := fun _ _ _ _ => rfl
  have hpos := hg.size
  have hst0 := start_rel w
  go_enter Tryd.func6, Tryd.ntmps6
  go_wp2_with fail
  go_loopw [7] (fun i wr => ∃ j : Nat, j ≤ xs.length ∧ i = .int .i64 j ∧ Rel w j wr) (fun i _ => xs.length - (intOf i).toNat)
  case atStart => exact ⟨0, by omega, rfl, hst0⟩
  case round =>
    obtain ⟨j, hj, rfl, hrel⟩ := hrel
    clear hst0
    by_cases hlt : j < xs.length
    · obtain ⟨gs, l, hS, hbl, hl0, hl1⟩ := hrel
      obtain ⟨b, off, rfl, hb, hcells⟩ := hx (by omega)
      obtain ⟨h0, h1, h2, h3, h4, hsrc⟩ := hcells j hlt
      clear hcells hx
      generalize xs[j] = x at *
      obtain ⟨wh, k, at_, to, sa, sc, bs⟩ := x
      dsimp only at h0 h1 h2 h3 h4 hsrc
      have hb2 : b < wr.heap.size := by have := hbl.size; omega
      have c0 := ((bcell hbl).1 _ _ hb).trans h0
      have c1 := ((bcell hbl).1 _ _ hb).trans h1
      have c2 := ((bcell hbl).1 _ _ hb).trans h2
      have c3 := ((bcell hbl).1 _ _ hb).trans h3
      have c4 := ((bcell hbl).1 _ _ hb).trans h4
      have hsee := hsrc.1
      have hsw := src_wr hsrc hbl
      have hlen63 : bs.length ≤ 9223372036854775807 := by obtain ⟨_, c, _, h2, h3, _⟩ := hsee; omega
      clear h0 h1 h2 h3 h4 hsrc
      have hN := hS.size
      obtain ⟨gv, hgv, hgrow⟩ := hS.gram.row
      obtain ⟨ga, gc, rfl, hgc, _⟩ := row_shape hgrow
      have hglen := hS.gram.len
      have hq1 : w.heap.size + 1 < wr.heap.size := by omega
      have hq2 : w.heap.size + 1 + 1 < wr.heap.size := by omega
      have hbx := fun o => ((Below.refl wr.heap.size wr).alloc (Nat.le_refl _) o)
      have hSx := fun o => hS.other (hbx o)
      have hBx := Box.made wr wh k at_ to (.slice sa bs.length sc)
      have hgr : Bare.Laid wr := hg.below hbl hpos
      by_cases hl : 100 < (bs.length : Int)
      · go_wp2_with fail
        exact ⟨⟨j + 1, by omega, by go_num, gs, l, hSx _, hbl.trans ((hbx _).mono (by omega)), hl0, by omega⟩, by simp [intOf]; omega⟩
      · have hl' : bs.length ≤ 100 := by omega
        by_cases w0 : wh = 0
        · subst w0
          by_cases hk0 : k < 0
          ·
            as_aux_lemma =>
              go_wp2_with fail
              refine (c_gsend _ _ _ _ to gs _ bs _ (hSx _) hl0 (by omega) (hsw.below (hbx _)) hl').mono ?_
              rintro e w1 ⟨rfl, gs', l', hS1, hput, hF1⟩
              have hF0 := Fr.of_below (N := w.heap.size) (by omega) (hbx (.cells #[.int .i64 0, .int .i64 k, .int .i64 at_, .int .i64 to, .slice sa bs.length sc] 55))
              have hB1 := (hBx.fr (by omega) hF1).cells
              obtain ⟨d0, d1, d2, d3, d4⟩ := hB1
              have hb1 := hbl.trans (hF0.trans hF1).below
              have hsee1 := hsee.below hb1 (Nat.le_refl _)
              have hpb := put_le (ps := gs.map pk) (l := l) (p := (to, strOf bs))
              have Hput : Hid ((gs'.map pk, l') = put (gs.map pk) l (to, strOf bs)) := hput
              rw [← hput] at hpb
              dsimp only at hpb
              clear hput hSx hbx hBx hgr hsw hsee c0 c1 c2 c3 c4 hgv hgrow hS hF0
              go_wp2_with fail
              refine (c_nsend _ w.heap.size (gs.map pk) l l' to gs' _ bs _ hS1 hl0 (by omega) hsee1 (by have := hb1.size; omega)).mono ?_
              rintro e wy ⟨rfl, hSy, hF2⟩
              rw [← Hput.out] at hSy
              dsimp only at hSy
              have hby := hb1.trans hF2.below
              clear hS1 hF1 hF2 hsee1 d0 d1 d2 d3 d4 Hput hb1
              go_wp2_with fail
              obtain ⟨tv, htv, htrow⟩ := hSy.gram.row
              obtain ⟨ta, tc, rfl, htc, _⟩ := row_shape htrow
              have htl := hSy.cell
              have htn := hSy.gram.len
              have e1 : ((gs'.length : Int) != (gs'.length : Int)) = false := by simp
              have e2 : ((l' : Int) != l') = false := by simp
              have hfin := fun n => Rel.next (j := j) n hSy hby (by omega) (by omega)
              go_quiet ((first | (go_at_call 27; exact Calls.quiet_of_same (c_many _ _ _ _ _ (hSy.drewN _))) | (go_at_call 28; exact Calls.quiet_of_same (c_lost _ _ _ _ _ _ (hSy.drewN _)))))
              go_wp2_with fail
              exact ⟨⟨j + 1, by omega, by go_num, hfin _⟩, by simp [intOf]; omega⟩
          · by_cases hk1 : (gs.length : Int) ≤ k
            ·
              as_aux_lemma =>
                go_wp2_with fail
                refine (c_gsend _ _ _ _ to gs _ bs _ (hSx _) hl0 (by omega) (hsw.below (hbx _)) hl').mono ?_
                rintro e w1 ⟨rfl, gs', l', hS1, hput, hF1⟩
                have hF0 := Fr.of_below (N := w.heap.size) (by omega) (hbx (.cells #[.int .i64 0, .int .i64 k, .int .i64 at_, .int .i64 to, .slice sa bs.length sc] 55))
                have hB1 := (hBx.fr (by omega) hF1).cells
                obtain ⟨d0, d1, d2, d3, d4⟩ := hB1
                have hb1 := hbl.trans (hF0.trans hF1).below
                have hsee1 := hsee.below hb1 (Nat.le_refl _)
                have hpb := put_le (ps := gs.map pk) (l := l) (p := (to, strOf bs))
                have Hput : Hid ((gs'.map pk, l') = put (gs.map pk) l (to, strOf bs)) := hput
                rw [← hput] at hpb
                dsimp only at hpb
                clear hput hSx hbx hBx hgr hsw hsee c0 c1 c2 c3 c4 hgv hgrow hS hF0
                go_wp2_with fail
                refine (c_nsend _ w.heap.size (gs.map pk) l l' to gs' _ bs _ hS1 hl0 (by omega) hsee1 (by have := hb1.size; omega)).mono ?_
                rintro e wy ⟨rfl, hSy, hF2⟩
                rw [← Hput.out] at hSy
                dsimp only at hSy
                have hby := hb1.trans hF2.below
                clear hS1 hF1 hF2 hsee1 d0 d1 d2 d3 d4 Hput hb1
                go_wp2_with fail
                obtain ⟨tv, htv, htrow⟩ := hSy.gram.row
                obtain ⟨ta, tc, rfl, htc, _⟩ := row_shape htrow
                have htl := hSy.cell
                have htn := hSy.gram.len
                have e1 : ((gs'.length : Int) != (gs'.length : Int)) = false := by simp
                have e2 : ((l' : Int) != l') = false := by simp
                have hfin := fun n => Rel.next (j := j) n hSy hby (by omega) (by omega)
                go_quiet ((first | (go_at_call 27; exact Calls.quiet_of_same (c_many _ _ _ _ _ (hSy.drewN _))) | (go_at_call 28; exact Calls.quiet_of_same (c_lost _ _ _ _ _ _ (hSy.drewN _)))))
                go_wp2_with fail
                exact ⟨⟨j + 1, by omega, by go_num, hfin _⟩, by simp [intOf]; omega⟩
            ·
              as_aux_lemma =>
                go_wp2_with fail
                refine (c_gsend _ _ _ _ to gs _ bs _ (hSx _) hl0 (by omega) (hsw.below (hbx _)) hl').mono ?_
                rintro e w1 ⟨rfl, gs', l', hS1, hput, hF1⟩
                have hF0 := Fr.of_below (N := w.heap.size) (by omega) (hbx (.cells #[.int .i64 0, .int .i64 k, .int .i64 at_, .int .i64 to, .slice sa bs.length sc] 55))
                have hB1 := (hBx.fr (by omega) hF1).cells
                obtain ⟨d0, d1, d2, d3, d4⟩ := hB1
                have hb1 := hbl.trans (hF0.trans hF1).below
                have hsee1 := hsee.below hb1 (Nat.le_refl _)
                have hpb := put_le (ps := gs.map pk) (l := l) (p := (to, strOf bs))
                have Hput : Hid ((gs'.map pk, l') = put (gs.map pk) l (to, strOf bs)) := hput
                rw [← hput] at hpb
                dsimp only at hpb
                clear hput hSx hbx hBx hgr hsw hsee c0 c1 c2 c3 c4 hgv hgrow hS hF0
                go_wp2_with fail
                refine (c_nsend _ w.heap.size (gs.map pk) l l' to gs' _ bs _ hS1 hl0 (by omega) hsee1 (by have := hb1.size; omega)).mono ?_
                rintro e wy ⟨rfl, hSy, hF2⟩
                rw [← Hput.out] at hSy
                dsimp only at hSy
                have hby := hb1.trans hF2.below
                clear hS1 hF1 hF2 hsee1 d0 d1 d2 d3 d4 Hput hb1
                go_wp2_with fail
                obtain ⟨tv, htv, htrow⟩ := hSy.gram.row
                obtain ⟨ta, tc, rfl, htc, _⟩ := row_shape htrow
                have htl := hSy.cell
                have htn := hSy.gram.len
                have e1 : ((gs'.length : Int) != (gs'.length : Int)) = false := by simp
                have e2 : ((l' : Int) != l') = false := by simp
                have hfin := fun n => Rel.next (j := j) n hSy hby (by omega) (by omega)
                go_quiet ((first | (go_at_call 27; exact Calls.quiet_of_same (c_many _ _ _ _ _ (hSy.drewN _))) | (go_at_call 28; exact Calls.quiet_of_same (c_lost _ _ _ _ _ _ (hSy.drewN _)))))
                go_wp2_with fail
                exact ⟨⟨j + 1, by omega, by go_num, hfin _⟩, by simp [intOf]; omega⟩
        · have w0b : (wh == 0) = false := by simp [w0]
          by_cases w1 : wh = 1
          · subst w1
            by_cases hk0 : k < 0
            ·
              as_aux_lemma =>
                have hkb : hasB k (gs.map pk).length = false := hasB_low hk0
                have hcn := fun w => Wire.conv_nil w 0
                go_wp2_with fail
                have hbq : Below wr.heap.size wr ((wr.alloc (.cells #[.int .i64 1, .int .i64 k, .int .i64 at_, .int .i64 to, .slice sa bs.length sc] 55)).alloc (.cells #[.int .i64 0, .slice none 0 0] 52)) := ((Below.refl _ _).alloc (Nat.le_refl _) _).alloc (by simp) _
                have hqc : ∀ i, ((wr.alloc (.cells #[.int .i64 1, .int .i64 k, .int .i64 at_, .int .i64 to, .slice sa bs.length sc] 55)).alloc (.cells #[.int .i64 0, .slice none 0 0] 52)).cell? ⟨wr.heap.size + 1, i, none⟩ = #[Value.int .i64 0, .slice none 0 0][i]? := fun i => cell_made (by simp)
                have hzz : ((wr.alloc (.cells #[.int .i64 1, .int .i64 k, .int .i64 at_, .int .i64 to, .slice sa bs.length sc] 55)).alloc (.cells #[.int .i64 0, .slice none 0 0] 52)).heap.size = wr.heap.size + 1 + 1 := by simp
                generalize ((wr.alloc (.cells #[.int .i64 1, .int .i64 k, .int .i64 at_, .int .i64 to, .slice sa bs.length sc] 55)).alloc (.cells #[.int .i64 0, .slice none 0 0] 52)) = wq at *
                refine (take_no _ _ _ l k _ (hS.other hbq).net hkb).mono ?_
                rintro e w1 ⟨rfl, hb1⟩
                have hS1 := (hS.other hbq).other hb1
                have hs1 := hb1.size
                have hbq1 := hbq.trans (hb1.mono (by omega))
                have hg1 : Bare.Laid w1 := hgr.below hbq1 (by omega)
                have f0 : w1.cell? ⟨wr.heap.size + 1, 0, none⟩ = some (.int .i64 0) := (hb1.cell (p := ⟨wr.heap.size + 1, 0, none⟩) (by dsimp only; omega)).trans (hqc 0)
                have f1 : w1.cell? ⟨wr.heap.size + 1, 1, none⟩ = some (.slice none 0 0) := (hb1.cell (p := ⟨wr.heap.size + 1, 1, none⟩) (by dsimp only; omega)).trans (hqc 1)
                clear hqc hSx hbx hBx hgr hsw hsee c0 c1 c2 c3 c4 hgv hgrow
                go_wp2_with fail
                have hb2 : Below w1.heap.size w1 (w1.alloc (.cells #[.int .i64 0, .slice none 0 0] 52)) := (Below.refl _ _).alloc (Nat.le_refl _) _
                have hqc : ∀ i, (w1.alloc (.cells #[.int .i64 0, .slice none 0 0] 52)).cell? ⟨w1.heap.size, i, none⟩ = #[Value.int .i64 0, .slice none 0 0][i]? := fun i => cell_made rfl
                have hz2 : (w1.alloc (.cells #[.int .i64 0, .slice none 0 0] 52)).heap.size = w1.heap.size + 1 := by simp
                generalize w1.alloc (.cells #[.int .i64 0, .slice none 0 0] 52) = w2 at *
                refine (Bare.bare_errno 2 2 _ (hg1.below hb2 (by omega))).mono ?_
                rintro e wy ⟨rfl, hb3⟩
                have hSy := (hS1.other hb2).other hb3
                have hby := (hbl.trans (hbq1.mono (by omega))).trans ((hb2.trans (hb3.mono (by omega))).mono (by omega))
                have k0 : wy.cell? ⟨wr.heap.size + 1, 0, none⟩ = some (.int .i64 0) := (hb3.cell (p := ⟨wr.heap.size + 1, 0, none⟩) (by dsimp only; omega)).trans ((hb2.cell (p := ⟨wr.heap.size + 1, 0, none⟩) (by dsimp only; omega)).trans f0)
                have k1 : wy.cell? ⟨wr.heap.size + 1, 1, none⟩ = some (.slice none 0 0) := (hb3.cell (p := ⟨wr.heap.size + 1, 1, none⟩) (by dsimp only; omega)).trans ((hb2.cell (p := ⟨wr.heap.size + 1, 1, none⟩) (by dsimp only; omega)).trans f1)
                have k2 : wy.cell? ⟨w1.heap.size, 0, none⟩ = some (.int .i64 0) := (hb3.cell (p := ⟨w1.heap.size, 0, none⟩) (by dsimp only; omega)).trans (hqc 0)
                have k3 : wy.cell? ⟨w1.heap.size, 1, none⟩ = some (.slice none 0 0) := (hb3.cell (p := ⟨w1.heap.size, 1, none⟩) (by dsimp only; omega)).trans (hqc 1)
                clear hqc f0 f1 hb1 hb2 hb3 hbq hbq1 hS hS1 hg1
                go_wp2_with fail
                clear k0 k1 k2 k3 hcn
                obtain ⟨tv, htv, htrow⟩ := hSy.gram.row
                obtain ⟨ta, tc, rfl, htc, _⟩ := row_shape htrow
                have htl := hSy.cell
                have htn := hSy.gram.len
                have e1 : ((gs.length : Int) != (gs.length : Int)) = false := by simp
                have e2 : ((l : Int) != l) = false := by simp
                have hfin := fun n => Rel.next (j := j) n hSy hby (by omega) (by omega)
                go_quiet ((first | (go_at_call 27; exact Calls.quiet_of_same (c_many _ _ _ _ _ (hSy.drewN _))) | (go_at_call 28; exact Calls.quiet_of_same (c_lost _ _ _ _ _ _ (hSy.drewN _)))))
                go_wp2_with fail
                exact ⟨⟨j + 1, by omega, by go_num, hfin _⟩, by simp [intOf]; omega⟩
            · by_cases hk1 : (gs.length : Int) ≤ k
              ·
                as_aux_lemma =>
                  have hkb : hasB k (gs.map pk).length = false := hasB_high (by rw [List.length_map]; exact hk1)
                  have hcn := fun w => Wire.conv_nil w 0
                  go_wp2_with fail
                  have hbq : Below wr.heap.size wr ((wr.alloc (.cells #[.int .i64 1, .int .i64 k, .int .i64 at_, .int .i64 to, .slice sa bs.length sc] 55)).alloc (.cells #[.int .i64 0, .slice none 0 0] 52)) := ((Below.refl _ _).alloc (Nat.le_refl _) _).alloc (by simp) _
                  have hqc : ∀ i, ((wr.alloc (.cells #[.int .i64 1, .int .i64 k, .int .i64 at_, .int .i64 to, .slice sa bs.length sc] 55)).alloc (.cells #[.int .i64 0, .slice none 0 0] 52)).cell? ⟨wr.heap.size + 1, i, none⟩ = #[Value.int .i64 0, .slice none 0 0][i]? := fun i => cell_made (by simp)
                  have hzz : ((wr.alloc (.cells #[.int .i64 1, .int .i64 k, .int .i64 at_, .int .i64 to, .slice sa bs.length sc] 55)).alloc (.cells #[.int .i64 0, .slice none 0 0] 52)).heap.size = wr.heap.size + 1 + 1 := by simp
                  generalize ((wr.alloc (.cells #[.int .i64 1, .int .i64 k, .int .i64 at_, .int .i64 to, .slice sa bs.length sc] 55)).alloc (.cells #[.int .i64 0, .slice none 0 0] 52)) = wq at *
                  refine (take_no _ _ _ l k _ (hS.other hbq).net hkb).mono ?_
                  rintro e w1 ⟨rfl, hb1⟩
                  have hS1 := (hS.other hbq).other hb1
                  have hs1 := hb1.size
                  have hbq1 := hbq.trans (hb1.mono (by omega))
                  have hg1 : Bare.Laid w1 := hgr.below hbq1 (by omega)
                  have f0 : w1.cell? ⟨wr.heap.size + 1, 0, none⟩ = some (.int .i64 0) := (hb1.cell (p := ⟨wr.heap.size + 1, 0, none⟩) (by dsimp only; omega)).trans (hqc 0)
                  have f1 : w1.cell? ⟨wr.heap.size + 1, 1, none⟩ = some (.slice none 0 0) := (hb1.cell (p := ⟨wr.heap.size + 1, 1, none⟩) (by dsimp only; omega)).trans (hqc 1)
                  clear hqc hSx hbx hBx hgr hsw hsee c0 c1 c2 c3 c4 hgv hgrow
                  go_wp2_with fail
                  have hb2 : Below w1.heap.size w1 (w1.alloc (.cells #[.int .i64 0, .slice none 0 0] 52)) := (Below.refl _ _).alloc (Nat.le_refl _) _
                  have hqc : ∀ i, (w1.alloc (.cells #[.int .i64 0, .slice none 0 0] 52)).cell? ⟨w1.heap.size, i, none⟩ = #[Value.int .i64 0, .slice none 0 0][i]? := fun i => cell_made rfl
                  have hz2 : (w1.alloc (.cells #[.int .i64 0, .slice none 0 0] 52)).heap.size = w1.heap.size + 1 := by simp
                  generalize w1.alloc (.cells #[.int .i64 0, .slice none 0 0] 52) = w2 at *
                  refine (Bare.bare_errno 2 2 _ (hg1.below hb2 (by omega))).mono ?_
                  rintro e wy ⟨rfl, hb3⟩
                  have hSy := (hS1.other hb2).other hb3
                  have hby := (hbl.trans (hbq1.mono (by omega))).trans ((hb2.trans (hb3.mono (by omega))).mono (by omega))
                  have k0 : wy.cell? ⟨wr.heap.size + 1, 0, none⟩ = some (.int .i64 0) := (hb3.cell (p := ⟨wr.heap.size + 1, 0, none⟩) (by dsimp only; omega)).trans ((hb2.cell (p := ⟨wr.heap.size + 1, 0, none⟩) (by dsimp only; omega)).trans f0)
                  have k1 : wy.cell? ⟨wr.heap.size + 1, 1, none⟩ = some (.slice none 0 0) := (hb3.cell (p := ⟨wr.heap.size + 1, 1, none⟩) (by dsimp only; omega)).trans ((hb2.cell (p := ⟨wr.heap.size + 1, 1, none⟩) (by dsimp only; omega)).trans f1)
                  have k2 : wy.cell? ⟨w1.heap.size, 0, none⟩ = some (.int .i64 0) := (hb3.cell (p := ⟨w1.heap.size, 0, none⟩) (by dsimp only; omega)).trans (hqc 0)
                  have k3 : wy.cell? ⟨w1.heap.size, 1, none⟩ = some (.slice none 0 0) := (hb3.cell (p := ⟨w1.heap.size, 1, none⟩) (by dsimp only; omega)).trans (hqc 1)
                  clear hqc f0 f1 hb1 hb2 hb3 hbq hbq1 hS hS1 hg1
                  go_wp2_with fail
                  clear k0 k1 k2 k3 hcn
                  obtain ⟨tv, htv, htrow⟩ := hSy.gram.row
                  obtain ⟨ta, tc, rfl, htc, _⟩ := row_shape htrow
                  have htl := hSy.cell
                  have htn := hSy.gram.len
                  have e1 : ((gs.length : Int) != (gs.length : Int)) = false := by simp
                  have e2 : ((l : Int) != l) = false := by simp
                  have hfin := fun n => Rel.next (j := j) n hSy hby (by omega) (by omega)
                  go_quiet ((first | (go_at_call 27; exact Calls.quiet_of_same (c_many _ _ _ _ _ (hSy.drewN _))) | (go_at_call 28; exact Calls.quiet_of_same (c_lost _ _ _ _ _ _ (hSy.drewN _)))))
                  go_wp2_with fail
                  exact ⟨⟨j + 1, by omega, by go_num, hfin _⟩, by simp [intOf]; omega⟩
              ·
                as_aux_lemma =>
                  obtain ⟨kn, rfl⟩ := Int.eq_ofNat_of_zero_le (show 0 ≤ k by omega)
                  have hkn : kn < gs.length := by omega
                  have hknI : (kn : Int) < (gs.length : Int) := by omega
                  obtain ⟨g, gc', hgv', hgrow', hnc, hgB, hgs, e0, e1⟩ := hS.gram.at kn hkn
                  rw [hgv] at hgv'
                  injection hgv' with hgv'
                  injection hgv' with hga _ hgc'
                  subst hga hgc'
                  have hpkn : (gs.map pk)[kn]'(by rw [List.length_map]; exact hkn) = pk gs[kn] := List.getElem_map _
                  obtain ⟨hhas, hgby, hgbl⟩ := hS.gram.bytes gs[kn] (List.getElem_mem _)
                  generalize hgk : gs[kn] = gk at *
                  obtain ⟨gto, gsv, gbs⟩ := gk
                  have HGK : Hid (gs[kn] = (gto, gsv, gbs)) := hgk
                  clear hgk hgrow'
                  dsimp only at e0 e1 hhas hgby hgbl
                  have hsrcg := has_sees hhas hgby
                  obtain ⟨gsa, gsc, rfl, hgsc, _⟩ := row_shape hhas.row
                  have hkp : kn < (gs.map pk).length := by rw [List.length_map]; exact hkn
                  have HPK : Hid ((gs.map pk)[kn] = (gto, strOf gbs)) := hpkn
                  clear hpkn
                  have hgs1 : g < wr.heap.size + 1 := by omega
                  have hq0 : w.heap.size < wr.heap.size := by omega
                  go_wp2_with fail
                  have hbz := hbl.trans (((Below.refl wr.heap.size wr).alloc (Nat.le_refl _) (.cells #[.int .i64 1, .int .i64 kn, .int .i64 at_, .int .i64 to, .slice sa bs.length sc] 55)).alloc (by simp) (.cells #[.int .i64 gto, .slice gsa gbs.length gsc] 52) |>.mono (Nat.le_of_lt hq0))
                  have hbz2 := ((Below.refl wr.heap.size wr).alloc (Nat.le_refl _) (.cells #[.int .i64 1, .int .i64 kn, .int .i64 at_, .int .i64 to, .slice sa bs.length sc] 55)).alloc (by simp) (.cells #[.int .i64 gto, .slice gsa gbs.length gsc] 52)
                  have hSz := hS.other hbz2
                  have hgz := hgr.below hbz2 (by omega)
                  have hBz := hBx.fr (N := w.heap.size) (by omega) (Fr.of_below (by simp; omega) ((Below.refl _ _).alloc (Nat.le_refl _) (.cells #[.int .i64 gto, .slice gsa gbs.length gsc] 52)))
                  have hgvz := (hbz2.cell (p := ⟨w.heap.size + 1, 0, none⟩) (by dsimp only; omega)).trans hgv
                  have hgbox : ((wr.alloc (.cells #[.int .i64 1, .int .i64 kn, .int .i64 at_, .int .i64 to, .slice sa bs.length sc] 55)).alloc (.cells #[.int .i64 gto, .slice gsa gbs.length gsc] 52)).heap[wr.heap.size + 1]? = some (.cells #[.int .i64 gto, .slice gsa gbs.length gsc] 52) := by
                    have := heap_alloc_new (wr.alloc (.cells #[.int .i64 1, .int .i64 kn, .int .i64 at_, .int .i64 to, .slice sa bs.length sc] 55)) (.cells #[.int .i64 gto, .slice gsa gbs.length gsc] 52)
                    simpa using this
                  have hz1 : wr.heap.size + 1 < ((wr.alloc (.cells #[.int .i64 1, .int .i64 kn, .int .i64 at_, .int .i64 to, .slice sa bs.length sc] 55)).alloc (.cells #[.int .i64 gto, .slice gsa gbs.length gsc] 52)).heap.size := by simp
                  generalize (wr.alloc (.cells #[.int .i64 1, .int .i64 kn, .int .i64 at_, .int .i64 to, .slice sa bs.length sc] 55)).alloc (.cells #[.int .i64 gto, .slice gsa gbs.length gsc] 52) = wz at *
                  clear hSx hbx hgr hsw hsee c0 c1 c2 c3 c4 hgv hgrow hS hBx hbz2 e0 e1
                  obtain ⟨d0, d1, d2, d3, d4⟩ := hBz.cells
                  clear d0 d2 d3 d4
                  have hz3 : g < wz.heap.size := by omega
                  obtain ⟨i0, hi, hy0, hy1, hy2⟩ := info_parts info_gram
                  obtain ⟨zv, hzv, hzrow⟩ := hSz.gram.row
                  rw [hgvz] at hzv
                  injection hzv with hzv
                  subst hzv
                  have honeT : ∀ u ∈ gcells (gs.take kn), u.oneCell' = true := fun u hu => gcells_one hSz.gram u (by rw [← gcells_take] at hu; exact List.mem_of_mem_take hu)
                  have honeD : ∀ u ∈ gcells (gs.drop (kn + 1)), u.oneCell' = true := fun u hu => gcells_one hSz.gram u (by rw [← gcells_drop] at hu; exact List.mem_of_mem_drop hu)
                  have hupto := row_upto (k := kn) hzrow
                  rw [gcells_take] at hupto
                  obtain ⟨ad2, had2, hfrom⟩ : ∃ ad2 : Addr, (if gc = kn + 1 then some (⟨g, 0, none⟩ : Addr) else some ⟨g, (kn + 1) * 2, none⟩) = some ad2 ∧ ∀ j u, (gcells (gs.drop (kn + 1)))[j]? = some u → wz.cell? (ad2.add j) = some u := by
                    by_cases hcap : gc = kn + 1
                    · refine ⟨⟨g, 0, none⟩, by rw [if_pos hcap], fun j u hj => ?_⟩
                      rw [List.drop_of_length_le (by omega)] at hj
                      simp [gcells] at hj
                    · refine ⟨⟨g, (kn + 1) * 2, none⟩, by rw [if_neg hcap], ?_⟩
                      have := row_from (k := kn + 1) hzrow
                      rw [gcells_drop] at this
                      exact this
                  have hw1 := wrap_succ kn (by omega)
                  have hnat : ((kn : Int) + 1).toNat = kn + 1 := by omega
                  have hd1 : 0 ≤ (kn : Int) := by omega
                  have hd5 : 0 ≤ (kn : Int) + 1 := by omega
                  have hd2 : (kn : Int) ≤ (gc : Int) := by omega
                  have hd3 : (kn : Int) + 1 ≤ (gs.length : Int) := by omega
                  have hd4 : (gs.length : Int) ≤ (gc : Int) := by omega
                  refine Gen.start (S := fun w' => w'.cell? ⟨w.heap.size + 1, 0, none⟩ = some (.slice (some ⟨g, 0, none⟩) gs.length gc) ∧ w'.cell? ⟨wr.heap.size, 1, none⟩ = some (.int .i64 kn)) (by kernel_rfl) ⟨hgvz, d1⟩ (fun hHeld => ?_)
                  refine Gen.take (i := 1) (k := 4) (v := ?_) rfl rfl (by kernel_rfl) (by kernel_rfl) (by kernel_rfl) (by kernel_rfl) (by kernel_rfl) (by kernel_rfl) (fun _ _ _ h => h) (Or.inl ⟨by rfl, ?_⟩) hHeld ?_
                  rotate_left
                  · intro w' hSw
                    go_simp
                    try with_reducible rfl
                  simp only [Act.put, List.setIfInBounds_toArray, List.set_cons_zero, List.set_cons_succ]
                  refine Gen.take (i := 2) (k := 3) (v := ?_) rfl rfl (by kernel_rfl) (by kernel_rfl) (by kernel_rfl) (by kernel_rfl) (by kernel_rfl) (by kernel_rfl) (fun _ _ _ h => h) (Or.inl ⟨by rfl, ?_⟩) hHeld ?_
                  rotate_left
                  · intro w' hSw
                    go_simp
                    try with_reducible rfl
                  simp only [Act.put, List.setIfInBounds_toArray, List.set_cons_zero, List.set_cons_succ]
                  refine Gen.take (i := 3) (k := 4) (v := ?_) rfl rfl (by kernel_rfl) (by kernel_rfl) (by kernel_rfl) (by kernel_rfl) (by kernel_rfl) (by kernel_rfl) (fun _ _ _ h => h) (Or.inl ⟨by rfl, ?_⟩) hHeld ?_
                  rotate_left
                  · intro w' hSw
                    go_simp
                    try with_reducible rfl
                  simp only [Act.put, List.setIfInBounds_toArray, List.set_cons_zero, List.set_cons_succ]
                  refine Gen.take (i := 4) (k := 5) (v := ?_) rfl rfl (by kernel_rfl) (by kernel_rfl) (by kernel_rfl) (by kernel_rfl) (by kernel_rfl) (by kernel_rfl) (fun _ _ _ h => h) (Or.inl ⟨by rfl, ?_⟩) hHeld ?_
                  rotate_left
                  · intro w' hSw
                    go_simp
                    try with_reducible rfl
                  simp only [Act.put, List.setIfInBounds_toArray, List.set_cons_zero, List.set_cons_succ]
                  refine Gen.take (i := 6) (k := 10) (v := ?_) rfl rfl (by kernel_rfl) (by kernel_rfl) (by kernel_rfl) (by kernel_rfl) (by kernel_rfl) (by kernel_rfl) (fun _ _ _ h => h) (Or.inl ⟨by rfl, ?_⟩) hHeld ?_
                  rotate_left
                  · intro w' hSw
                    go_simp
                    try with_reducible rfl
                  simp only [Act.put, List.setIfInBounds_toArray, List.set_cons_zero, List.set_cons_succ]
                  refine Gen.take (i := 7) (k := 8) (v := ?_) rfl rfl (by kernel_rfl) (by kernel_rfl) (by kernel_rfl) (by kernel_rfl) (by kernel_rfl) (by kernel_rfl) (fun _ _ _ h => h) (Or.inl ⟨by rfl, ?_⟩) hHeld ?_
                  rotate_left
                  · intro w' hSw
                    go_simp
                    try with_reducible rfl
                  simp only [Act.put, List.setIfInBounds_toArray, List.set_cons_zero, List.set_cons_succ]
                  refine Gen.take (i := 8) (k := 9) (v := ?_) rfl rfl (by kernel_rfl) (by kernel_rfl) (by kernel_rfl) (by kernel_rfl) (by kernel_rfl) (by kernel_rfl) (fun _ _ _ h => h) (Or.inl ⟨by rfl, ?_⟩) hHeld ?_
                  rotate_left
                  · intro w' hSw
                    go_simp
                    try with_reducible rfl
                  simp only [Act.put, List.setIfInBounds_toArray, List.set_cons_zero, List.set_cons_succ]
                  refine Gen.take (i := 9) (k := 10) (v := ?_) rfl rfl (by kernel_rfl) (by kernel_rfl) (by kernel_rfl) (by kernel_rfl) (by kernel_rfl) (by kernel_rfl) (fun _ _ _ h => h) (Or.inl ⟨by rfl, ?_⟩) hHeld ?_
                  rotate_left
                  · intro w' hSw
                    go_simp
                    try with_reducible rfl
                  simp only [Act.put, List.setIfInBounds_toArray, List.set_cons_zero, List.set_cons_succ]
                  refine Gen.take (i := 10) (k := 11) (v := ?_) rfl rfl (by kernel_rfl) (by kernel_rfl) (by kernel_rfl) (by kernel_rfl) (by kernel_rfl) (by kernel_rfl) (fun _ _ _ h => h) (Or.inl ⟨by rfl, ?_⟩) hHeld ?_
                  rotate_left
                  · intro w' hSw
                    go_simp
                    try with_reducible rfl
                  simp only [Act.put, List.setIfInBounds_toArray, List.set_cons_zero, List.set_cons_succ]
                  have hrow0 : (wz.alloc (.cells #[] 52)).drew.ownsRow wz.heap.size 52 2 (.slice (some ⟨wz.heap.size, 0, none⟩) 0 0) 0 [] := by
                    have h := World.ownsRow_lit (base := wz.heap.size) (e := 52) (size := 2) wz #[] 0 (Nat.le_refl _) (by decide) rfl
                    exact h
                  have hsrc1 : ∀ j u, (gcells (gs.take kn))[j]? = some u → (wz.alloc (.cells #[] 52)).drew.cell? ((⟨g, 0, none⟩ : Addr).add j) = some u := fun j u hj => by
                    have h := hupto j u hj
                    show (wz.alloc _).cell? _ = _
                    rw [World.cell?_alloc_lt _ _ _ (World.block_lt_of_cell? _ _ h)]
                    exact h
                  have hl1 : (gcells (gs.take kn)).length = kn * 2 := by rw [gcells_length, List.length_take]; omega
                  have hl2 : (gcells (gs.drop (kn + 1))).length = (gs.length - (kn + 1)) * 2 := by rw [gcells_length, List.length_drop]
                  have e5 : 0 + kn ≤ maxLen := by unfold maxLen; omega
                  have e6 : (0 + kn) * 32 ≤ 140737488355328 := by omega
                  have e7 : kn + (gs.length - (kn + 1)) ≤ maxLen := by unfold maxLen; omega
                  have e8 : (kn + (gs.length - (kn + 1))) * 32 ≤ 140737488355328 := by omega
                  refine Gen.one (i := 0) (by kernel_rfl) rfl rfl (fun K hK => ?_)
                  go_simp
                  refine hK.out _ _ ⟨(World.cell?_alloc_lt wz _ ⟨w.heap.size + 1, 0, none⟩ (by dsimp only; omega)).trans hgvz, (World.cell?_alloc_lt wz _ ⟨wr.heap.size, 1, none⟩ (by dsimp only; omega)).trans d1⟩ (fun hHeld => ?_)
                  clear hK K
                  try simp only [Act.put, List.setIfInBounds_toArray, List.set_cons_zero, List.set_cons_succ]
                  refine Gen.one (i := 5) (by kernel_rfl) rfl rfl (fun K hK => ?_)
                  refine wp_append_own _ (.tmp 64) (.tmp 68) 50 rfl wz.heap.size 52 i0 (.agg #[.int .i64 0, .slice none 0 0]) 2 32 Tryd.underlying50 hi hy0 hy1 hy2 rfl (by decide) _ _ _ (by rfl) hrow0 ⟨g, 0, none⟩ kn gc (gcells (gs.take kn)) (by rfl) hl1 hsrc1 honeT e5 e6 (by simp) ?_
                  intro v1 w1 hown1 hg1 _
                  simp only [Nat.zero_add, List.nil_append] at hown1
                  obtain ⟨ao1, c1, rfl, _, _⟩ := row_shape hown1
                  have hb1 : Below wz.heap.size wz w1 := (((Below.refl _ _).alloc (Nat.le_refl _) _).drew).grown hg1 (by simp) (fun k hk => by simp [Value.ownBlock] at hk; omega)
                  refine hK.out _ _ ⟨(hb1.cell (p := ⟨w.heap.size + 1, 0, none⟩) (by dsimp only; omega)).trans hgvz, (hb1.cell (p := ⟨wr.heap.size, 1, none⟩) (by dsimp only; omega)).trans d1⟩ (fun hHeld => ?_)
                  clear hK K
                  try simp only [Act.put, List.setIfInBounds_toArray, List.set_cons_zero, List.set_cons_succ]
                  refine Gen.one (i := 11) (by kernel_rfl) rfl rfl (fun K hK => ?_)
                  refine wp_append_own _ (.tmp 69) (.tmp 74) 50 rfl wz.heap.size 52 i0 (.agg #[.int .i64 0, .slice none 0 0]) 2 32 Tryd.underlying50 hi hy0 hy1 hy2 rfl (by decide) _ _ _ (by rfl) hown1 ad2 (gs.length - (kn + 1)) (gc - (kn + 1)) (gcells (gs.drop (kn + 1))) (by rfl) hl2 (fun j u hj => by have h := hfrom j u hj; exact (hb1.cell (World.block_lt_of_cell? _ _ h)).trans h) honeD e7 e8 hb1.size ?_
                  intro v2 w2 hown2 hg2 _
                  obtain ⟨ao2, c2, rfl, _, _⟩ := row_shape hown2
                  have hb2 : Below wz.heap.size wz w2 := hb1.grown hg2 hb1.size (fun k hk => (hown1.lt k hk).1)
                  rw [← gcells_erase, show kn + (gs.length - (kn + 1)) = gs.length - 1 by omega] at hown2
                  have m1 := (hb2.cell (p := ⟨w.heap.size + 1, 0, none⟩) (by dsimp only; omega)).trans hgvz
                  have m2 := (hb2.cell (p := ⟨wr.heap.size, 1, none⟩) (by dsimp only; omega)).trans d1
                  have m3 : w2.frozen? ⟨w.heap.size + 1, 0, none⟩ = false := (hSz.other hb2).gram.free 0
                  refine hK.out _ _ ⟨m1, m2⟩ (fun hHeld => ?_)
                  clear hK K
                  try simp only [Act.put, List.setIfInBounds_toArray, List.set_cons_zero, List.set_cons_succ]
                  refine Gen.last (i := 12) (by kernel_rfl) rfl rfl (by kernel_rfl) (by kernel_rfl) (fun K hK => ?_)
                  go_simp
                  refine hK.out _ _ ?_
                  clear hK K hHeld had2 hfrom hupto honeT honeD hsrc1 hrow0 hl1 hl2
                  rw [show kn + (gs.length - (kn + 1)) = gs.length - 1 by omega]
                  obtain ⟨hSe, hOe⟩ := gram_erased hSz hkn hb2 hown2 m1
                  have hFe := Fr.of_only (N := w.heap.size) (by omega) (by decide) (by omega) (by omega) hOe
                  have hhz := (hSz.gram.bytes _ (List.getElem_mem hkn)).1
                  rw [HGK.out] at hhz
                  dsimp only at hhz
                  have hhe := hOe.has (by decide) (by omega) hhz
                  have hgbe : (w2.setCell ⟨w.heap.size + 1, 0, none⟩ (.slice ao2 (gs.length - 1) c2)).heap[wr.heap.size + 1]? = some (.cells #[.int .i64 gto, .slice gsa gbs.length gsc] 52) := by
                    rw [Below.heap_setCell _ _ _ _ (by dsimp only; omega), hb2.block _ hz1]
                    exact hgbox
                  obtain ⟨d0, d1', d2, d3, d4⟩ := (hBz.fr (by omega) hFe).cells
                  have hze : wr.heap.size + 1 < (w2.setCell ⟨w.heap.size + 1, 0, none⟩ (.slice ao2 (gs.length - 1) c2)).heap.size := by have := hb2.size; simp; omega
                  have hbe := hbz.trans hFe.below
                  generalize w2.setCell ⟨w.heap.size + 1, 0, none⟩ (.slice ao2 (gs.length - 1) c2) = we at *
                  clear hSz hown2 hown1 hg1 hg2 hb1 hb2 m1 m2 m3 hOe hFe hhz hbz hgvz d1 d0 d2 d3 d4 hBz hgbox hw1 hnat hzrow hz1 hz3
                  go_wp2_with fail
                  have ct := c_take w.heap.size (gs.map pk) l l (gs.eraseIdx kn) kn we hSe hkp (by rw [HPK.out]; show (strOf gbs).size ≤ 300; rw [Num.strOf_size]; omega)
                  rw [HPK.out] at ct
                  dsimp only at ct
                  refine ct.mono ?_
                  rintro e w3 ⟨sv, rfl, hsv, hS3, hF3, hO3⟩
                  rw [← pk_erase] at hS3
                  rw [Num.ints_strOf gbs hgby] at hsv
                  have hgb3 : w3.heap[wr.heap.size + 1]? = some (.cells #[.int .i64 gto, .slice gsa gbs.length gsc] 52) := by
                    rw [hO3.block _ hze (by omega) (.inr fun c f h => by rw [hgbe] at h; injection h with h; injection h with _ h _; cases h)]
                    exact hgbe
                  have hh3 := hO3.has (by decide) (by omega) hhe
                  have hb3 := hbe.trans hF3.below
                  have hz3 : wr.heap.size + 1 < w3.heap.size := Nat.lt_of_lt_of_le hze hO3.size
                  have hsv' := hsv
                  obtain ⟨ao3, c3, rfl, _, _, _, _⟩ := hsv'
                  clear ct hSe hgbe hhe hbe hO3 hF3 hze d1'
                  go_wp2_with fail
                  have hcv1 := conv_sees (hsv.below ((Below.refl _ _).alloc (Nat.le_refl _) (.cells #[.int .i64 gto, .slice ao3 gbs.length c3] 52)) (Nat.le_refl _))
                  have hcv2 := Wire.conv_has (show Has (w3.alloc (.cells #[.int .i64 gto, .slice ao3 gbs.length c3] 52)) _ _ _ from hh3.alloc _)
                  have hSy := hS3.other ((Below.refl _ _).alloc (Nat.le_refl _) (.cells #[.int .i64 gto, .slice ao3 gbs.length c3] 52))
                  have hby := hb3.trans (((Below.refl w3.heap.size w3).alloc (Nat.le_refl _) (.cells #[.int .i64 gto, .slice ao3 gbs.length c3] 52)).mono (by omega))
                  have hqc : ∀ i, (w3.alloc (.cells #[.int .i64 gto, .slice ao3 gbs.length c3] 52)).cell? ⟨w3.heap.size, i, none⟩ = #[Value.int .i64 gto, .slice ao3 gbs.length c3][i]? := fun i => cell_made rfl
                  have hqg : ∀ i, (w3.alloc (.cells #[.int .i64 gto, .slice ao3 gbs.length c3] 52)).cell? ⟨wr.heap.size + 1, i, none⟩ = #[Value.int .i64 gto, .slice gsa gbs.length gsc][i]? := fun i => by
                    rw [World.cell?_alloc_lt _ _ ⟨wr.heap.size + 1, i, none⟩ hz3, cell_of_row _ _ _ _ _ _ hgb3]
                  generalize w3.alloc (.cells #[.int .i64 gto, .slice ao3 gbs.length c3] 52) = wy at *
                  have k0 : wy.cell? ⟨wr.heap.size + 1, 0, none⟩ = some (.int .i64 gto) := hqg 0
                  have k1 : wy.cell? ⟨wr.heap.size + 1, 1, none⟩ = some (.slice gsa gbs.length gsc) := hqg 1
                  have k2 : wy.cell? ⟨w3.heap.size, 0, none⟩ = some (.int .i64 gto) := hqc 0
                  have k3 : wy.cell? ⟨w3.heap.size, 1, none⟩ = some (.slice ao3 gbs.length c3) := hqc 1
                  have ne1 : (gto != gto) = false := bne_self_eq_false gto
                  obtain ⟨st, hst⟩ : ∃ st, strOf gbs = st := ⟨_, rfl⟩
                  rw [hst] at hcv1 hcv2
                  clear hqc hqg hS3 hb3 hh3 hsv hgb3
                  refine (Bare.bare_nil 0 _).mono ?_
                  rintro e wv ⟨rfl, rfl⟩
                  go_wp2_with fail
                  clear k0 k1 k2 k3 hcv1 hcv2 hst ne1
                  generalize gs.eraseIdx kn = gs' at *
                  obtain ⟨tv, htv, htrow⟩ := hSy.gram.row
                  obtain ⟨ta, tc, rfl, htc, _⟩ := row_shape htrow
                  have htl := hSy.cell
                  have htn := hSy.gram.len
                  have e1 : ((gs'.length : Int) != (gs'.length : Int)) = false := by simp
                  have e2 : ((l : Int) != l) = false := by simp
                  have hfin := fun n => Rel.next (j := j) n hSy hby (by omega) (by omega)
                  go_quiet ((first | (go_at_call 27; exact Calls.quiet_of_same (c_many _ _ _ _ _ (hSy.drewN _))) | (go_at_call 28; exact Calls.quiet_of_same (c_lost _ _ _ _ _ _ (hSy.drewN _)))))
                  go_wp2_with fail
                  exact ⟨⟨j + 1, by omega, by go_num, hfin _⟩, by simp [intOf]; omega⟩
          · have w1b : (wh == 1) = false := by simp [w1]
            by_cases w2 : wh = 2
            · subst w2
              by_cases hk0 : k < 0
              ·
                as_aux_lemma =>
                  have hkb : hasB k (gs.map pk).length = false := hasB_low hk0
                  go_wp2_with fail
                  refine (twice_no _ _ _ l k _ (hSx _).net hkb).mono ?_
                  rintro e w1 ⟨rfl, rfl⟩
                  have hgx := hgr.below (hbx (.cells #[.int .i64 2, .int .i64 k, .int .i64 at_, .int .i64 to, .slice sa bs.length sc] 55)) (by omega)
                  have hSy0 := hSx (.cells #[.int .i64 2, .int .i64 k, .int .i64 at_, .int .i64 to, .slice sa bs.length sc] 55)
                  have hby0 := hbl.trans ((hbx (.cells #[.int .i64 2, .int .i64 k, .int .i64 at_, .int .i64 to, .slice sa bs.length sc] 55)).mono (Nat.le_of_lt (by omega)))
                  generalize wr.alloc (.cells #[.int .i64 2, .int .i64 k, .int .i64 at_, .int .i64 to, .slice sa bs.length sc] 55) = wz at *
                  clear hSx hbx hBx hgr hsw hsee c0 c1 c2 c3 c4 hgv hgrow hS
                  go_wp2_with fail
                  refine (Bare.bare_errno 2 2 _ hgx).mono ?_
                  rintro e wy ⟨rfl, hbz⟩
                  have hSy := hSy0.other hbz
                  have hby := hby0.trans (hbz.mono (by have := hby0.size; omega))
                  clear hSy0 hbz hby0 hgx
                  go_wp2_with fail
                  obtain ⟨tv, htv, htrow⟩ := hSy.gram.row
                  obtain ⟨ta, tc, rfl, htc, _⟩ := row_shape htrow
                  have htl := hSy.cell
                  have htn := hSy.gram.len
                  have e1 : ((gs.length : Int) != (gs.length : Int)) = false := by simp
                  have e2 : ((l : Int) != l) = false := by simp
                  have hfin := fun n => Rel.next (j := j) n hSy hby (by omega) (by omega)
                  go_quiet ((first | (go_at_call 27; exact Calls.quiet_of_same (c_many _ _ _ _ _ (hSy.drewN _))) | (go_at_call 28; exact Calls.quiet_of_same (c_lost _ _ _ _ _ _ (hSy.drewN _)))))
                  go_wp2_with fail
                  exact ⟨⟨j + 1, by omega, by go_num, hfin _⟩, by simp [intOf]; omega⟩
              · by_cases hk1 : (gs.length : Int) ≤ k
                ·
                  as_aux_lemma =>
                    have hkb : hasB k (gs.map pk).length = false := hasB_high (by rw [List.length_map]; exact hk1)
                    go_wp2_with fail
                    refine (twice_no _ _ _ l k _ (hSx _).net hkb).mono ?_
                    rintro e w1 ⟨rfl, rfl⟩
                    have hgx := hgr.below (hbx (.cells #[.int .i64 2, .int .i64 k, .int .i64 at_, .int .i64 to, .slice sa bs.length sc] 55)) (by omega)
                    have hSy0 := hSx (.cells #[.int .i64 2, .int .i64 k, .int .i64 at_, .int .i64 to, .slice sa bs.length sc] 55)
                    have hby0 := hbl.trans ((hbx (.cells #[.int .i64 2, .int .i64 k, .int .i64 at_, .int .i64 to, .slice sa bs.length sc] 55)).mono (Nat.le_of_lt (by omega)))
                    generalize wr.alloc (.cells #[.int .i64 2, .int .i64 k, .int .i64 at_, .int .i64 to, .slice sa bs.length sc] 55) = wz at *
                    clear hSx hbx hBx hgr hsw hsee c0 c1 c2 c3 c4 hgv hgrow hS
                    go_wp2_with fail
                    refine (Bare.bare_errno 2 2 _ hgx).mono ?_
                    rintro e wy ⟨rfl, hbz⟩
                    have hSy := hSy0.other hbz
                    have hby := hby0.trans (hbz.mono (by have := hby0.size; omega))
                    clear hSy0 hbz hby0 hgx
                    go_wp2_with fail
                    obtain ⟨tv, htv, htrow⟩ := hSy.gram.row
                    obtain ⟨ta, tc, rfl, htc, _⟩ := row_shape htrow
                    have htl := hSy.cell
                    have htn := hSy.gram.len
                    have e1 : ((gs.length : Int) != (gs.length : Int)) = false := by simp
                    have e2 : ((l : Int) != l) = false := by simp
                    have hfin := fun n => Rel.next (j := j) n hSy hby (by omega) (by omega)
                    go_quiet ((first | (go_at_call 27; exact Calls.quiet_of_same (c_many _ _ _ _ _ (hSy.drewN _))) | (go_at_call 28; exact Calls.quiet_of_same (c_lost _ _ _ _ _ _ (hSy.drewN _)))))
                    go_wp2_with fail
                    exact ⟨⟨j + 1, by omega, by go_num, hfin _⟩, by simp [intOf]; omega⟩
                ·
                  as_aux_lemma =>
                    obtain ⟨kn, rfl⟩ := Int.eq_ofNat_of_zero_le (show 0 ≤ k by omega)
                    have hkn : kn < gs.length := by omega
                    have hknI : (kn : Int) < (gs.length : Int) := by omega
                    obtain ⟨g, gc', hgv', hgrow', hnc, hgB, hgs, e0, e1⟩ := hS.gram.at kn hkn
                    rw [hgv] at hgv'
                    injection hgv' with hgv'
                    injection hgv' with hga _ hgc'
                    subst hga hgc'
                    have hpkn : (gs.map pk)[kn]'(by rw [List.length_map]; exact hkn) = pk gs[kn] := List.getElem_map _
                    obtain ⟨hhas, hgby, hgbl⟩ := hS.gram.bytes gs[kn] (List.getElem_mem _)
                    generalize hgk : gs[kn] = gk at *
                    obtain ⟨gto, gsv, gbs⟩ := gk
                    have HGK : Hid (gs[kn] = (gto, gsv, gbs)) := hgk
                    clear hgk hgrow'
                    dsimp only at e0 e1 hhas hgby hgbl
                    have hsrcg := has_sees hhas hgby
                    obtain ⟨gsa, gsc, rfl, hgsc, _⟩ := row_shape hhas.row
                    have hkp : kn < (gs.map pk).length := by rw [List.length_map]; exact hkn
                    have HPK : Hid ((gs.map pk)[kn] = (gto, strOf gbs)) := hpkn
                    clear hpkn
                    go_wp2_with fail
                    refine (c_gsend _ _ _ _ gto gs _ gbs _ (hSx _) hl0 (by omega) (hsrcg.below (hbx _)) hgbl).mono ?_
                    rintro e w1 ⟨rfl, gs', l', hS1, hput, hF1⟩
                    have hF0 := Fr.of_below (N := w.heap.size) (by omega) (hbx (.cells #[.int .i64 2, .int .i64 kn, .int .i64 at_, .int .i64 to, .slice sa bs.length sc] 55))
                    have hB1 := (hBx.fr (by omega) hF1).cells
                    obtain ⟨d0, d1, d2, d3, d4⟩ := hB1
                    have hb1 := hbl.trans (hF0.trans hF1).below
                    have hpb := put_le (ps := gs.map pk) (l := l) (p := (gto, strOf gbs))
                    have Hput : Hid ((gs'.map pk, l') = put (gs.map pk) l (gto, strOf gbs)) := hput
                    rw [← hput] at hpb
                    dsimp only at hpb
                    clear hput hSx hbx hBx hsw hsee c0 c1 c2 c3 c4 hgv hgrow hS hF0 e0 e1 hhas hsrcg
                    go_wp2_with fail
                    refine (c_twice _ (gs.map pk) l l' gs' kn _ hS1 hl0 (by omega) hkp).mono ?_
                    rintro e wy ⟨rfl, hSy, hF2⟩
                    rw [HPK.out, ← Hput.out] at hSy
                    dsimp only at hSy
                    have hby := hb1.trans hF2.below
                    clear hS1 hF1 hF2 d0 d1 d2 d3 d4 Hput hb1
                    go_wp2_with fail
                    refine (Bare.bare_nil 0 _).mono ?_
                    rintro e wv ⟨rfl, rfl⟩
                    go_wp2_with fail
                    obtain ⟨tv, htv, htrow⟩ := hSy.gram.row
                    obtain ⟨ta, tc, rfl, htc, _⟩ := row_shape htrow
                    have htl := hSy.cell
                    have htn := hSy.gram.len
                    have e1 : ((gs'.length : Int) != (gs'.length : Int)) = false := by simp
                    have e2 : ((l' : Int) != l') = false := by simp
                    have hfin := fun n => Rel.next (j := j) n hSy hby (by omega) (by omega)
                    go_quiet ((first | (go_at_call 27; exact Calls.quiet_of_same (c_many _ _ _ _ _ (hSy.drewN _))) | (go_at_call 28; exact Calls.quiet_of_same (c_lost _ _ _ _ _ _ (hSy.drewN _)))))
                    go_wp2_with fail
                    exact ⟨⟨j + 1, by omega, by go_num, hfin _⟩, by simp [intOf]; omega⟩
            · have w2b : (wh == 2) = false := by simp [w2]
              by_cases w3 : wh = 3
              · subst w3
                by_cases hk0 : k < 0
                ·
                  as_aux_lemma =>
                    have hkb : hasB k (gs.map pk).length = false := hasB_low hk0
                    go_wp2_with fail
                    have hSz := hSx (.cells #[.int .i64 3, .int .i64 k, .int .i64 at_, .int .i64 to, .slice sa bs.length sc] 55)
                    have hbz := hbl.trans ((hbx (.cells #[.int .i64 3, .int .i64 k, .int .i64 at_, .int .i64 to, .slice sa bs.length sc] 55)).mono (Nat.le_of_lt (by omega)))
                    have hgz := hgr.below (hbx (.cells #[.int .i64 3, .int .i64 k, .int .i64 at_, .int .i64 to, .slice sa bs.length sc] 55)) (by omega)
                    have hz1 : wr.heap.size < (wr.alloc (.cells #[.int .i64 3, .int .i64 k, .int .i64 at_, .int .i64 to, .slice sa bs.length sc] 55)).heap.size := by simp
                    have hz2 : w.heap.size + 1 < (wr.alloc (.cells #[.int .i64 3, .int .i64 k, .int .i64 at_, .int .i64 to, .slice sa bs.length sc] 55)).heap.size := by simp; omega
                    have hgvz := ((hbx (.cells #[.int .i64 3, .int .i64 k, .int .i64 at_, .int .i64 to, .slice sa bs.length sc] 55)).cell (p := ⟨w.heap.size + 1, 0, none⟩) (by dsimp only; omega)).trans hgv
                    generalize wr.alloc (.cells #[.int .i64 3, .int .i64 k, .int .i64 at_, .int .i64 to, .slice sa bs.length sc] 55) = wz at *
                    clear hSx hbx hgr hsw hsee c0 c1 c2 c3 c4 hgv hgrow hS
                    obtain ⟨d0, d1, d2, d3, d4⟩ := hBx.cells
                    go_quiet (fail)
                    go_wp2_with fail
                    refine (spoil_none _ _ _ l k at_ _ _ (hSz.drewN _).net hkb).mono ?_
                    rintro e w1 ⟨rfl, rfl⟩
                    go_wp2_with fail
                    refine (Bare.bare_errno 2 2 _ (hgz.below (below_drewN (Below.refl _ _) _) (by omega))).mono ?_
                    rintro e wy ⟨rfl, hb3⟩
                    have hSy := (hSz.drewN _).other hb3
                    have hby := (below_drewN hbz _).trans (hb3.mono (by simp; omega))
                    clear hSz hbz hgz hgvz hb3 d0 d1 d2 d3 d4 hBx
                    go_wp2_with fail
                    obtain ⟨tv, htv, htrow⟩ := hSy.gram.row
                    obtain ⟨ta, tc, rfl, htc, _⟩ := row_shape htrow
                    have htl := hSy.cell
                    have htn := hSy.gram.len
                    have e1 : ((gs.length : Int) != (gs.length : Int)) = false := by simp
                    have e2 : ((l : Int) != l) = false := by simp
                    have hfin := fun n => Rel.next (j := j) n hSy hby (by omega) (by omega)
                    go_quiet ((first | (go_at_call 27; exact Calls.quiet_of_same (c_many _ _ _ _ _ (hSy.drewN _))) | (go_at_call 28; exact Calls.quiet_of_same (c_lost _ _ _ _ _ _ (hSy.drewN _)))))
                    go_wp2_with fail
                    exact ⟨⟨j + 1, by omega, by go_num, hfin _⟩, by simp [intOf]; omega⟩
                · by_cases hk1 : (gs.length : Int) ≤ k
                  ·
                    as_aux_lemma =>
                      have hkb : hasB k (gs.map pk).length = false := hasB_high (by rw [List.length_map]; exact hk1)
                      go_wp2_with fail
                      have hSz := hSx (.cells #[.int .i64 3, .int .i64 k, .int .i64 at_, .int .i64 to, .slice sa bs.length sc] 55)
                      have hbz := hbl.trans ((hbx (.cells #[.int .i64 3, .int .i64 k, .int .i64 at_, .int .i64 to, .slice sa bs.length sc] 55)).mono (Nat.le_of_lt (by omega)))
                      have hgz := hgr.below (hbx (.cells #[.int .i64 3, .int .i64 k, .int .i64 at_, .int .i64 to, .slice sa bs.length sc] 55)) (by omega)
                      have hz1 : wr.heap.size < (wr.alloc (.cells #[.int .i64 3, .int .i64 k, .int .i64 at_, .int .i64 to, .slice sa bs.length sc] 55)).heap.size := by simp
                      have hz2 : w.heap.size + 1 < (wr.alloc (.cells #[.int .i64 3, .int .i64 k, .int .i64 at_, .int .i64 to, .slice sa bs.length sc] 55)).heap.size := by simp; omega
                      have hgvz := ((hbx (.cells #[.int .i64 3, .int .i64 k, .int .i64 at_, .int .i64 to, .slice sa bs.length sc] 55)).cell (p := ⟨w.heap.size + 1, 0, none⟩) (by dsimp only; omega)).trans hgv
                      generalize wr.alloc (.cells #[.int .i64 3, .int .i64 k, .int .i64 at_, .int .i64 to, .slice sa bs.length sc] 55) = wz at *
                      clear hSx hbx hgr hsw hsee c0 c1 c2 c3 c4 hgv hgrow hS
                      obtain ⟨d0, d1, d2, d3, d4⟩ := hBx.cells
                      go_quiet (fail)
                      go_wp2_with fail
                      refine (spoil_none _ _ _ l k at_ _ _ (hSz.drewN _).net hkb).mono ?_
                      rintro e w1 ⟨rfl, rfl⟩
                      go_wp2_with fail
                      refine (Bare.bare_errno 2 2 _ (hgz.below (below_drewN (Below.refl _ _) _) (by omega))).mono ?_
                      rintro e wy ⟨rfl, hb3⟩
                      have hSy := (hSz.drewN _).other hb3
                      have hby := (below_drewN hbz _).trans (hb3.mono (by simp; omega))
                      clear hSz hbz hgz hgvz hb3 d0 d1 d2 d3 d4 hBx
                      go_wp2_with fail
                      obtain ⟨tv, htv, htrow⟩ := hSy.gram.row
                      obtain ⟨ta, tc, rfl, htc, _⟩ := row_shape htrow
                      have htl := hSy.cell
                      have htn := hSy.gram.len
                      have e1 : ((gs.length : Int) != (gs.length : Int)) = false := by simp
                      have e2 : ((l : Int) != l) = false := by simp
                      have hfin := fun n => Rel.next (j := j) n hSy hby (by omega) (by omega)
                      go_quiet ((first | (go_at_call 27; exact Calls.quiet_of_same (c_many _ _ _ _ _ (hSy.drewN _))) | (go_at_call 28; exact Calls.quiet_of_same (c_lost _ _ _ _ _ _ (hSy.drewN _)))))
                      go_wp2_with fail
                      exact ⟨⟨j + 1, by omega, by go_num, hfin _⟩, by simp [intOf]; omega⟩
                  ·
                    as_aux_lemma =>
                      obtain ⟨kn, rfl⟩ := Int.eq_ofNat_of_zero_le (show 0 ≤ k by omega)
                      have hkn : kn < gs.length := by omega
                      have hknI : (kn : Int) < (gs.length : Int) := by omega
                      obtain ⟨g, gc', hgv', hgrow', hnc, hgB, hgs, e0, e1⟩ := hS.gram.at kn hkn
                      rw [hgv] at hgv'
                      injection hgv' with hgv'
                      injection hgv' with hga _ hgc'
                      subst hga hgc'
                      have hpkn : (gs.map pk)[kn]'(by rw [List.length_map]; exact hkn) = pk gs[kn] := List.getElem_map _
                      obtain ⟨hhas, hgby, hgbl⟩ := hS.gram.bytes gs[kn] (List.getElem_mem _)
                      generalize hgk : gs[kn] = gk at *
                      obtain ⟨gto, gsv, gbs⟩ := gk
                      have HGK : Hid (gs[kn] = (gto, gsv, gbs)) := hgk
                      clear hgk hgrow'
                      dsimp only at e0 e1 hhas hgby hgbl
                      have hsrcg := has_sees hhas hgby
                      obtain ⟨gsa, gsc, rfl, hgsc, _⟩ := row_shape hhas.row
                      have hkp : kn < (gs.map pk).length := by rw [List.length_map]; exact hkn
                      have HPK : Hid ((gs.map pk)[kn] = (gto, strOf gbs)) := hpkn
                      clear hpkn
                      have hszk : ((gs.map pk)[kn]).2.size = gbs.length := by rw [HPK.out]; exact Num.strOf_size gbs
                      by_cases ha0 : at_ < 0
                      · go_wp2_with fail
                        have hSz := hSx (.cells #[.int .i64 3, .int .i64 kn, .int .i64 at_, .int .i64 to, .slice sa bs.length sc] 55)
                        have hbz := hbl.trans ((hbx (.cells #[.int .i64 3, .int .i64 kn, .int .i64 at_, .int .i64 to, .slice sa bs.length sc] 55)).mono (Nat.le_of_lt (by omega)))
                        have hgz := hgr.below (hbx (.cells #[.int .i64 3, .int .i64 kn, .int .i64 at_, .int .i64 to, .slice sa bs.length sc] 55)) (by omega)
                        have hz1 : wr.heap.size < (wr.alloc (.cells #[.int .i64 3, .int .i64 kn, .int .i64 at_, .int .i64 to, .slice sa bs.length sc] 55)).heap.size := by simp
                        have hz2 : w.heap.size + 1 < (wr.alloc (.cells #[.int .i64 3, .int .i64 kn, .int .i64 at_, .int .i64 to, .slice sa bs.length sc] 55)).heap.size := by simp; omega
                        have hgvz := ((hbx (.cells #[.int .i64 3, .int .i64 kn, .int .i64 at_, .int .i64 to, .slice sa bs.length sc] 55)).cell (p := ⟨w.heap.size + 1, 0, none⟩) (by dsimp only; omega)).trans hgv
                        generalize wr.alloc (.cells #[.int .i64 3, .int .i64 kn, .int .i64 at_, .int .i64 to, .slice sa bs.length sc] 55) = wz at *
                        clear hSx hbx hgr hsw hsee c0 c1 c2 c3 c4 hgv hgrow hS
                        obtain ⟨d0, d1, d2, d3, d4⟩ := hBx.cells
                        go_quiet (fail)
                        go_wp2_with fail
                        refine (spoil_off _ _ _ l at_ _ kn _ (hSz.drewN _).net hkp (by omega) (.inl ha0)).mono ?_
                        rintro e w1 ⟨rfl, rfl⟩
                        go_wp2_with fail
                        refine (Bare.bare_errno 2 2 _ (hgz.below (below_drewN (Below.refl _ _) _) (by omega))).mono ?_
                        rintro e wy ⟨rfl, hb3⟩
                        have hSy := (hSz.drewN _).other hb3
                        have hby := (below_drewN hbz _).trans (hb3.mono (by simp; omega))
                        clear hSz hbz hgz hgvz hb3 d0 d1 d2 d3 d4 hBx e0 e1 hhas hsrcg
                        go_wp2_with fail
                        obtain ⟨tv, htv, htrow⟩ := hSy.gram.row
                        obtain ⟨ta, tc, rfl, htc, _⟩ := row_shape htrow
                        have htl := hSy.cell
                        have htn := hSy.gram.len
                        have e1 : ((gs.length : Int) != (gs.length : Int)) = false := by simp
                        have e2 : ((l : Int) != l) = false := by simp
                        have hfin := fun n => Rel.next (j := j) n hSy hby (by omega) (by omega)
                        go_quiet ((first | (go_at_call 27; exact Calls.quiet_of_same (c_many _ _ _ _ _ (hSy.drewN _))) | (go_at_call 28; exact Calls.quiet_of_same (c_lost _ _ _ _ _ _ (hSy.drewN _)))))
                        go_wp2_with fail
                        exact ⟨⟨j + 1, by omega, by go_num, hfin _⟩, by simp [intOf]; omega⟩
                      · by_cases ha1 : (gbs.length : Int) ≤ at_
                        · go_wp2_with fail
                          have z1 := ((hbx (.cells #[.int .i64 3, .int .i64 kn, .int .i64 at_, .int .i64 to, .slice sa bs.length sc] 55)).cell (p := ⟨g, kn * 2 + 1, none⟩) (by dsimp only; omega)).trans e1
                          have hSz := hSx (.cells #[.int .i64 3, .int .i64 kn, .int .i64 at_, .int .i64 to, .slice sa bs.length sc] 55)
                          have hbz := hbl.trans ((hbx (.cells #[.int .i64 3, .int .i64 kn, .int .i64 at_, .int .i64 to, .slice sa bs.length sc] 55)).mono (Nat.le_of_lt (by omega)))
                          have hgz := hgr.below (hbx (.cells #[.int .i64 3, .int .i64 kn, .int .i64 at_, .int .i64 to, .slice sa bs.length sc] 55)) (by omega)
                          have hz1 : wr.heap.size < (wr.alloc (.cells #[.int .i64 3, .int .i64 kn, .int .i64 at_, .int .i64 to, .slice sa bs.length sc] 55)).heap.size := by simp
                          have hz2 : w.heap.size + 1 < (wr.alloc (.cells #[.int .i64 3, .int .i64 kn, .int .i64 at_, .int .i64 to, .slice sa bs.length sc] 55)).heap.size := by simp; omega
                          have hgvz := ((hbx (.cells #[.int .i64 3, .int .i64 kn, .int .i64 at_, .int .i64 to, .slice sa bs.length sc] 55)).cell (p := ⟨w.heap.size + 1, 0, none⟩) (by dsimp only; omega)).trans hgv
                          generalize wr.alloc (.cells #[.int .i64 3, .int .i64 kn, .int .i64 at_, .int .i64 to, .slice sa bs.length sc] 55) = wz at *
                          clear hSx hbx hgr hsw hsee c0 c1 c2 c3 c4 hgv hgrow hS
                          obtain ⟨d0, d1, d2, d3, d4⟩ := hBx.cells
                          have hd : decide (at_ < 0) = false := decide_eq_false (by omega)
                          go_quiet (fail)
                          go_wp2_with fail
                          refine (spoil_off _ _ _ l at_ _ kn _ (hSz.drewN _).net hkp (by omega) (.inr (by omega))).mono ?_
                          rintro e w1 ⟨rfl, rfl⟩
                          go_wp2_with fail
                          refine (Bare.bare_errno 2 2 _ (hgz.below (below_drewN (Below.refl _ _) _) (by omega))).mono ?_
                          rintro e wy ⟨rfl, hb3⟩
                          have hSy := (hSz.drewN _).other hb3
                          have hby := (below_drewN hbz _).trans (hb3.mono (by simp; omega))
                          clear hSz hbz hgz hgvz hb3 d0 d1 d2 d3 d4 hBx e0 e1 hhas hsrcg z1
                          go_wp2_with fail
                          obtain ⟨tv, htv, htrow⟩ := hSy.gram.row
                          obtain ⟨ta, tc, rfl, htc, _⟩ := row_shape htrow
                          have htl := hSy.cell
                          have htn := hSy.gram.len
                          have e1 : ((gs.length : Int) != (gs.length : Int)) = false := by simp
                          have e2 : ((l : Int) != l) = false := by simp
                          have hfin := fun n => Rel.next (j := j) n hSy hby (by omega) (by omega)
                          go_quiet ((first | (go_at_call 27; exact Calls.quiet_of_same (c_many _ _ _ _ _ (hSy.drewN _))) | (go_at_call 28; exact Calls.quiet_of_same (c_lost _ _ _ _ _ _ (hSy.drewN _)))))
                          go_wp2_with fail
                          exact ⟨⟨j + 1, by omega, by go_num, hfin _⟩, by simp [intOf]; omega⟩
                        · obtain ⟨an, rfl⟩ := Int.eq_ofNat_of_zero_le (show 0 ≤ at_ by omega)
                          have han : an < gbs.length := by omega
                          have hanI : (an : Int) < (gbs.length : Int) := by omega
                          go_wp2_with fail
                          have z1 := ((hbx (.cells #[.int .i64 3, .int .i64 kn, .int .i64 an, .int .i64 to, .slice sa bs.length sc] 55)).cell (p := ⟨g, kn * 2 + 1, none⟩) (by dsimp only; omega)).trans e1
                          have hSz := hSx (.cells #[.int .i64 3, .int .i64 kn, .int .i64 an, .int .i64 to, .slice sa bs.length sc] 55)
                          have hbz := hbl.trans ((hbx (.cells #[.int .i64 3, .int .i64 kn, .int .i64 an, .int .i64 to, .slice sa bs.length sc] 55)).mono (Nat.le_of_lt (by omega)))
                          have hgz := hgr.below (hbx (.cells #[.int .i64 3, .int .i64 kn, .int .i64 an, .int .i64 to, .slice sa bs.length sc] 55)) (by omega)
                          have hz1 : wr.heap.size < (wr.alloc (.cells #[.int .i64 3, .int .i64 kn, .int .i64 an, .int .i64 to, .slice sa bs.length sc] 55)).heap.size := by simp
                          have hz2 : w.heap.size + 1 < (wr.alloc (.cells #[.int .i64 3, .int .i64 kn, .int .i64 an, .int .i64 to, .slice sa bs.length sc] 55)).heap.size := by simp; omega
                          have hgvz := ((hbx (.cells #[.int .i64 3, .int .i64 kn, .int .i64 an, .int .i64 to, .slice sa bs.length sc] 55)).cell (p := ⟨w.heap.size + 1, 0, none⟩) (by dsimp only; omega)).trans hgv
                          generalize wr.alloc (.cells #[.int .i64 3, .int .i64 kn, .int .i64 an, .int .i64 to, .slice sa bs.length sc] 55) = wz at *
                          clear hSx hbx hgr hsw hsee c0 c1 c2 c3 c4 hgv hgrow hS
                          obtain ⟨d0, d1, d2, d3, d4⟩ := hBx.cells
                          have hd : decide ((an : Int) < 0) = false := decide_eq_false (by omega)
                          have hz3 : g < wz.heap.size := by omega
                          go_quiet (fail)
                          replace hgvz : (wz.drewN nq).cell? ⟨w.heap.size + 1, 0, none⟩ = _ := hgvz
                          replace z1 : (wz.drewN nq).cell? ⟨g, kn * 2 + 1, none⟩ = _ := z1
                          replace d1 : (wz.drewN nq).cell? ⟨wr.heap.size, 1, none⟩ = _ := d1
                          replace d2 : (wz.drewN nq).cell? ⟨wr.heap.size, 2, none⟩ = _ := d2
                          replace d3 : (wz.drewN nq).cell? ⟨wr.heap.size, 3, none⟩ = _ := d3
                          replace hz1 : wr.heap.size < (wz.drewN nq).heap.size := hz1
                          replace hz2 : w.heap.size + 1 < (wz.drewN nq).heap.size := hz2
                          replace hz3 : g < (wz.drewN nq).heap.size := hz3
                          replace hSz := hSz.drewN nq
                          replace hbz := below_drewN hbz nq
                          replace hgz : Bare.Laid (wz.drewN nq) := hgz
                          replace hBx : Box (wz.drewN nq) _ _ _ _ _ _ := hBx
                          clear d0 d4
                          generalize wz.drewN nq = wd at *
                          obtain ⟨j0, hj0, hy0, hy1, hy2⟩ := info_parts Wire.info_byte
                          have hrow0 : (wd.alloc (.cells #[] 5)).ownsRow wd.heap.size 5 1 (.slice (some ⟨wd.heap.size, 0, none⟩) 0 0) 0 [] := by simpa using World.ownsRow_lit (base := wd.heap.size) (e := 5) (size := 1) wd #[] 0 (Nat.le_refl _) (by decide) rfl
                          have hgd := (hSz.gram.bytes _ (List.getElem_mem hkn)).1
                          rw [HGK.out] at hgd
                          dsimp only at hgd
                          obtain ⟨g2, cap2, he2, hg2B, hg2s, hg2c⟩ := hgd.parts (by omega)
                          injection he2 with he2 _ he3
                          subst he2 he3
                          have hnews : ∀ j u, (gbs.map (Value.int .u8))[j]? = some u → (wd.alloc (.cells #[] 5)).cell? ((⟨g2, 0, none⟩ : Addr).add j) = some u := fun j u h => by
                            have := hg2c j u h
                            rw [World.cell?_alloc_lt _ _ _ (World.block_lt_of_cell? _ _ this)]
                            exact this
                          have e3 : 0 + gbs.length ≤ maxLen := by unfold maxLen; omega
                          have e4 : (0 + gbs.length) * 1 ≤ 140737488355328 := by omega
                          clear hg2c hgd e0 e1 hhas hsrcg
                          go_wp2_with (at_builtin; refine wpList_append_own _ rfl _ _ 33 rfl wd.heap.size 5 j0 (.int .u8 0) 1 1 Tryd.underlying33 hj0 hy0 hy1 hy2 rfl (by decide) _ _ _ rfl hrow0 ⟨g2, 0, none⟩ _ _ (gbs.map (Value.int .u8)) rfl ?r2 hnews (ints_oneCell _ _) e3 e4 ?r5 ?_)
                          intro v1 w1 hown1 hg1 _
                          have hH1 : Has w1 wd.heap.size v1 gbs := by first | exact hown1 | simpa using hown1
                          obtain ⟨g1, c1, rfl, hg1B, hg1s, hg1c⟩ := hH1.parts (by omega)
                          have hb1 : Below wd.heap.size wd w1 := ((Below.refl _ _).alloc (Nat.le_refl _) _).grown hg1 (by simp) (fun k hk => by simp [Value.ownBlock] at hk; omega)
                          have p1 : w1.cell? ⟨g1, an, none⟩ = some (.int .u8 (gbs.getD an 0)) := by
                            rw [hH1.row.cellAt an (by omega), List.getElem?_map, List.getD_eq_getElem?_getD, List.getElem?_eq_getElem han]
                            rfl
                          have pf : w1.frozen? ⟨g1, an, none⟩ = false := hH1.row.frozenAt an
                          have q1 := (hb1.cell (p := ⟨w.heap.size + 1, 0, none⟩) (by dsimp only; omega)).trans hgvz
                          have q2 := (hb1.cell (p := ⟨wr.heap.size, 1, none⟩) (by dsimp only; omega)).trans d1
                          have q3 := (hb1.cell (p := ⟨wr.heap.size, 2, none⟩) (by dsimp only; omega)).trans d2
                          have q4 := (hb1.cell (p := ⟨g, kn * 2 + 1, none⟩) (by dsimp only; omega)).trans z1
                          have q5 : w1.frozen? ⟨g, kn * 2 + 1, none⟩ = false := by
                            obtain ⟨v, hv, hrow⟩ := (hSz.other hb1).gram.row
                            rw [q1] at hv
                            injection hv with hv
                            subst hv
                            exact hrow.frozenAt _
                          have n1 : ¬ w.heap.size + 1 = g1 := by omega
                          have n2 : ¬ wr.heap.size = g1 := by omega
                          have n3 : ¬ g = g1 := by omega
                          have hy : 0 ≤ gbs.getD an 0 ∧ gbs.getD an 0 < 256 := by
                            rw [List.getD_eq_getElem?_getD, List.getElem?_eq_getElem han]
                            exact hgby _ (List.getElem_mem _)
                          obtain ⟨y, hyy⟩ : ∃ y, gbs.getD an 0 = y := ⟨_, rfl⟩
                          rw [hyy] at p1 hy
                          have HYY : Hid (gbs.getD an 0 = y) := hyy
                          clear hyy hg1 hown1 hg1c d1 d2 z1 hnews hrow0
                          go_wp2_with fail
                          obtain ⟨hSs, hFs⟩ := gram_spoilt (an := an) hSz hkn HGK.out hgvz hb1 hH1 (xor_byte y (to % 256)) hg1B
                          refine (c_spoil _ (gs.map pk) l l _ _ kn an _ hSs hkp (by omega) (by omega)).mono ?_
                          rintro e wy ⟨rfl, hSy, hFy⟩
                          rw [HPK.out] at hSy
                          dsimp only at hSy
                          rw [Num.ints_strOf gbs hgby, HYY.out] at hSy
                          have hpe : (gs.map pk).set kn (gto, strOf (gbs.set an (bits .xor .u8 y (to % 256)))) = (gs.set kn (gto, .slice (some ⟨g1, 0, none⟩) gbs.length c1, gbs.set an (bits .xor .u8 y (to % 256)))).map pk := by rw [pk_set]; rfl
                          rw [hpe] at hSy
                          have hby := hbz.trans (hFs.trans hFy).below
                          generalize gs.set kn (gto, .slice (some ⟨g1, 0, none⟩) gbs.length c1, gbs.set an (bits .xor .u8 y (to % 256))) = gs' at *
                          clear hpe hSs hFs hFy hSz hgvz hb1 hH1 q1 q2 q3 q4 q5 p1 pf hbz hgz hBx HYY
                          go_wp2_with fail
                          refine (Bare.bare_nil 0 _).mono ?_
                          rintro e wv ⟨rfl, rfl⟩
                          go_wp2_with fail
                          obtain ⟨tv, htv, htrow⟩ := hSy.gram.row
                          obtain ⟨ta, tc, rfl, htc, _⟩ := row_shape htrow
                          have htl := hSy.cell
                          have htn := hSy.gram.len
                          have e1 : ((gs'.length : Int) != (gs'.length : Int)) = false := by simp
                          have e2 : ((l : Int) != l) = false := by simp
                          have hfin := fun n => Rel.next (j := j) n hSy hby (by omega) (by omega)
                          go_quiet ((first | (go_at_call 27; exact Calls.quiet_of_same (c_many _ _ _ _ _ (hSy.drewN _))) | (go_at_call 28; exact Calls.quiet_of_same (c_lost _ _ _ _ _ _ (hSy.drewN _)))))
                          go_wp2_with fail
                          exact ⟨⟨j + 1, by omega, by go_num, hfin _⟩, by simp [intOf]; omega⟩
              · have w3b : (wh == 3) = false := by simp [w3]
                by_cases hk0 : k < 0
                ·
                  as_aux_lemma =>
                    go_wp2_with fail
                    have hSy := hSx (.cells #[.int .i64 wh, .int .i64 k, .int .i64 at_, .int .i64 to, .slice sa bs.length sc] 55)
                    have hby := hbl.trans ((hbx (.cells #[.int .i64 wh, .int .i64 k, .int .i64 at_, .int .i64 to, .slice sa bs.length sc] 55)).mono (Nat.le_of_lt (by omega)))
                    generalize wr.alloc (.cells #[.int .i64 wh, .int .i64 k, .int .i64 at_, .int .i64 to, .slice sa bs.length sc] 55) = wy at *
                    clear hSx hbx hBx hgr hsw hsee c0 c1 c2 c3 c4 hgv hgrow hS
                    obtain ⟨tv, htv, htrow⟩ := hSy.gram.row
                    obtain ⟨ta, tc, rfl, htc, _⟩ := row_shape htrow
                    have htl := hSy.cell
                    have htn := hSy.gram.len
                    have e1 : ((gs.length : Int) != (gs.length : Int)) = false := by simp
                    have e2 : ((l : Int) != l) = false := by simp
                    have hfin := fun n => Rel.next (j := j) n hSy hby (by omega) (by omega)
                    go_quiet ((first | (go_at_call 27; exact Calls.quiet_of_same (c_many _ _ _ _ _ (hSy.drewN _))) | (go_at_call 28; exact Calls.quiet_of_same (c_lost _ _ _ _ _ _ (hSy.drewN _)))))
                    go_wp2_with fail
                    exact ⟨⟨j + 1, by omega, by go_num, hfin _⟩, by simp [intOf]; omega⟩
                · by_cases hk1 : (gs.length : Int) ≤ k
                  ·
                    as_aux_lemma =>
                      go_wp2_with fail
                      have hSy := hSx (.cells #[.int .i64 wh, .int .i64 k, .int .i64 at_, .int .i64 to, .slice sa bs.length sc] 55)
                      have hby := hbl.trans ((hbx (.cells #[.int .i64 wh, .int .i64 k, .int .i64 at_, .int .i64 to, .slice sa bs.length sc] 55)).mono (Nat.le_of_lt (by omega)))
                      generalize wr.alloc (.cells #[.int .i64 wh, .int .i64 k, .int .i64 at_, .int .i64 to, .slice sa bs.length sc] 55) = wy at *
                      clear hSx hbx hBx hgr hsw hsee c0 c1 c2 c3 c4 hgv hgrow hS
                      obtain ⟨tv, htv, htrow⟩ := hSy.gram.row
                      obtain ⟨ta, tc, rfl, htc, _⟩ := row_shape htrow
                      have htl := hSy.cell
                      have htn := hSy.gram.len
                      have e1 : ((gs.length : Int) != (gs.length : Int)) = false := by simp
                      have e2 : ((l : Int) != l) = false := by simp
                      have hfin := fun n => Rel.next (j := j) n hSy hby (by omega) (by omega)
                      go_quiet ((first | (go_at_call 27; exact Calls.quiet_of_same (c_many _ _ _ _ _ (hSy.drewN _))) | (go_at_call 28; exact Calls.quiet_of_same (c_lost _ _ _ _ _ _ (hSy.drewN _)))))
                      go_wp2_with fail
                      exact ⟨⟨j + 1, by omega, by go_num, hfin _⟩, by simp [intOf]; omega⟩
                  ·
                    as_aux_lemma =>
                      go_wp2_with fail
                      have hSy := hSx (.cells #[.int .i64 wh, .int .i64 k, .int .i64 at_, .int .i64 to, .slice sa bs.length sc] 55)
                      have hby := hbl.trans ((hbx (.cells #[.int .i64 wh, .int .i64 k, .int .i64 at_, .int .i64 to, .slice sa bs.length sc] 55)).mono (Nat.le_of_lt (by omega)))
                      generalize wr.alloc (.cells #[.int .i64 wh, .int .i64 k, .int .i64 at_, .int .i64 to, .slice sa bs.length sc] 55) = wy at *
                      clear hSx hbx hBx hgr hsw hsee c0 c1 c2 c3 c4 hgv hgrow hS
                      obtain ⟨tv, htv, htrow⟩ := hSy.gram.row
                      obtain ⟨ta, tc, rfl, htc, _⟩ := row_shape htrow
                      have htl := hSy.cell
                      have htn := hSy.gram.len
                      have e1 : ((gs.length : Int) != (gs.length : Int)) = false := by simp
                      have e2 : ((l : Int) != l) = false := by simp
                      have hfin := fun n => Rel.next (j := j) n hSy hby (by omega) (by omega)
                      go_quiet ((first | (go_at_call 27; exact Calls.quiet_of_same (c_many _ _ _ _ _ (hSy.drewN _))) | (go_at_call 28; exact Calls.quiet_of_same (c_lost _ _ _ _ _ _ (hSy.drewN _)))))
                      go_wp2_with fail
                      exact ⟨⟨j + 1, by omega, by go_num, hfin _⟩, by simp [intOf]; omega⟩
    · go_wp2_with fail
      go_ret
      obtain ⟨gs, l, hS, hbl, hl0, hl1⟩ := hrel
      exact ⟨rfl, hbl⟩
end Go.Proofs.YtbebfliimjjohaaDoor.Net
