/-
  The law's play on a table of leases.
-/
import Derived.Test.YtbebfliimjjohaaDoorLeaseSt
namespace Go.Proofs.YtbebfliimjjohaaDoor.Lease
open Go.RowKit Go.Maps
open Num (inB)

set_option maxHeartbeats 4000000 in
set_option maxRecDepth 100000 in
theorem plays (ao : Option Addr) (cap : Nat) (xs : List Stp) (w : World) (hlen : xs.length ≤ 150) (hgo : Steps w ao xs) (hgr : Bare.Laid w) :
    Calls Tryd.prog 8 #[.slice ao xs.length cap] w fun e w' => e = .returned (.bool true) ∧ Below w.heap.size w w' := by
  go_enter Tryd.func8, Tryd.ntmps8
  go_wp2_with fail
  refine (new_any _).mono ?_
  rintro e w1 ⟨rfl, hT, hb1, hs1⟩
  go_wp2_with fail
  refine (rnew_any _).mono ?_
  rintro e w2 ⟨rfl, hR, hb2, hs2⟩
  have hS0 : St w (w.heap.size + 1) w.heap.size (w1.heap.size + 3) w1.heap.size (w1.heap.size + 1) (w1.heap.size + 2) (.map []) (.map []) (.map []) (.map []) (fun _ => 0) (fun _ => 0) 0 w2 :=
    ⟨hT.below hb2, hR, Same.empty, VolIs.empty, VolIs.empty, fun _ => by omega, hb1.trans (hb2.mono hb1.size), by omega, by omega⟩
  have hrel0 := hS0.rel
  generalize w.heap.size + 1 = t at *
  generalize w1.heap.size + 3 = r at *
  generalize w1.heap.size + 1 = b at *
  generalize w1.heap.size + 2 = d at *
  generalize w1.heap.size = a at *
  clear hT hR hb1 hb2 hs1 hs2 hS0
  go_wp2_with fail
  go_loopw [5] (fun i wr => ∃ j : Nat, j ≤ xs.length ∧ i = .int .i64 j ∧ Rel w t w.heap.size r a b d j wr) (fun i _ => xs.length - (intOf i).toNat)
  case atStart => exact ⟨0, by omega, rfl, hrel0⟩
  case round =>
    obtain ⟨j, hj, rfl, hrl⟩ := hrel
    clear hrel0
    by_cases hjl : j < xs.length
    · obtain ⟨bo, off, rfl, hbo, hx⟩ := hgo (by omega)
      obtain ⟨hcells, hcw, how⟩ := hx j hjl
      clear hx hgo
      obtain ⟨D, E, Dv, Ds, v, s, hS⟩ := hrl
      have c0 := (hS.below.cell (p := ⟨bo, off + j * 5 + 0, none⟩) hbo).trans (hcells 0 (by omega))
      have c1 := (hS.below.cell (p := ⟨bo, off + j * 5 + 1, none⟩) hbo).trans (hcells 1 (by omega))
      have c2 := (hS.below.cell (p := ⟨bo, off + j * 5 + 2, none⟩) hbo).trans (hcells 2 (by omega))
      have c3 := (hS.below.cell (p := ⟨bo, off + j * 5 + 3, none⟩) hbo).trans (hcells 3 (by omega))
      have c4 := (hS.below.cell (p := ⟨bo, off + j * 5 + 4, none⟩) hbo).trans (hcells 4 (by omega))
      simp only [List.getElem?_cons_zero, List.getElem?_cons_succ, Nat.add_zero] at c0 c1 c2 c3 c4
      generalize xs[j] = x at *
      obtain ⟨wh, c, o, u, now⟩ := x
      dsimp only at c0 c1 c2 c3 c4 hcw how
      clear hcells
      have hj' : (j : Int) < xs.length := by omega
      have hgz := hgr.below hS.below hgr.size
      have hbx := (Below.refl wr.heap.size wr).alloc (Nat.le_refl _) (.cells #[.int .i64 wh, .int .i64 c, .int .i64 o, .int .i64 u, .int .i64 now] 93)
      have hSz := hS.other hbx
      have hB := PB.made wr wh c o u now
      have hne := box_ne hS rfl
      have hgz2 := hgz.below hbx (by have := hgz.size; omega)
      clear hbx
      go_upto_block 2 with fail
      clear c0 c1 c2 c3 c4 hS hgz
      generalize wr.alloc (.cells #[.int .i64 wh, .int .i64 c, .int .i64 o, .int .i64 u, .int .i64 now] 93) = wz at *
      generalize wr.heap.size = B at *
      go_cut [] from 20 to 192 (fun wx => Rel w t w.heap.size r a b d (j + 1) wx ∧ PB wx B wh c o u now)
      case rest =>
        obtain ⟨⟨D1, E1, Dv1, Ds1, v1, s1, hSc⟩, hBc⟩ := hcut
        clear hSz hB
        have hgc : Bare.Laid wc := hgr.below hSc.below hgr.size
        cases hc : cliB c with
        | false =>
          as_aux_lemma =>
            obtain ⟨q1, q2, q3, q4, q5, q6⟩ := hne
            have hcr := cliB_false hc
            obtain ⟨g0, g1, g2, g3, g4⟩ := hBc.cells
            have hrv := hSc.ref.vol
            have ehb := (hSc.vol.2 c).2 hcr
            have ehs := (hSc.ses.2 c).2 hcr
            have hxv := atKey_of_not_has ehb (num 0)
            have hxs := atKey_of_not_has ehs (num 0)
            obtain ⟨_, hrun, _⟩ := own_int (t := 100) hSc.ref.drew.ownV keyedI Tryd.underlying100 (keyI hcw) hxv
            rw [ehb] at hrun
            clear hxv ehb ehs
            go_upto_region 25 with fail
            go_cut [104] from 97 to 103 (fun x wx => x = .bool true ∧ wx = wc)
            case first =>
              by_cases hc0 : c < 0
              · go_wp2_with fail
                go_meet
                case rel => exact ⟨rfl, rfl⟩
              · have hc4 : 4 ≤ c := by omega
                have k0 : decide (c < 0) = false := decide_eq_false hc0
                go_wp2_with fail
                go_meet
                case rel => exact ⟨rfl, rfl⟩
            case rest =>
              obtain ⟨rfl, rfl⟩ := hcut
              go_wp2_with fail
              refine wp_region_still_lit (by kernel_rfl) (by kernel_rfl) ?_
              repeat still_step
              refine wpStill_nil ?_
              clear hrun hrv
              have hSd := hSc.drew
              have hBd := hBc.drew
              have hgd : Bare.Laid wc.drew := hgc
              go_upto_region 29 with fail
              clear g0 g1 g2 g3 g4 hSc hBc hgc
              generalize wc.drew = wd at *
              obtain ⟨g0, g1, g2, g3, g4⟩ := hBd.cells
              go_wp2_with fail
              refine (ses_bad t c _ hc).mono ?_
              rintro e wq ⟨rfl, rfl⟩
              have hsz := hSd.same.size
              have hS : ∀ w' : World, PB w' B wh c o u now → RefIs w' r a b d E1 Dv1 Ds1 (j + 1) → (w'.cell? ⟨B, 1, none⟩ = some (.int .i64 c) ∧ w'.cell? ⟨B, 2, none⟩ = some (.int .i64 o) ∧ w'.cell? ⟨B, 4, none⟩ = some (.int .i64 now) ∧ w'.cell? ⟨r, 0, none⟩ = some (.map (some a)) ∧ w'.cell? ⟨r, 2, none⟩ = some (.map (some d)) ∧ (Instr.lookup 100 (.map (some d)) (.int .i64 c) false).run Tryd.prog w' = .ok (.int .i64 0) w' ∧ (Builtin.len_ #[99] 3 #[.map (some a)]).run Tryd.prog w' = .ok (.int .i64 (Maps.size D1)) w') := fun w' hb hr => ⟨hb.cells.2.1, hb.cells.2.2.1, hb.cells.2.2.2.2, hr.obj, hr.ses, (own_int hr.ownS keyedI Tryd.underlying100 (keyI hcw) hxs).1, by rw [hsz]; exact hr.ownO.len Tryd.underlying99 _⟩
              have hl4 := hol_le D1 o now 4
              have HH : Hid (hol D1 o now 4 = hol E1 o now 4) := hSd.same.hol o now 4
              have hT2 := hSd.tab.drew
              have hR2 := hSd.ref.drew
              have hB2 := hBd.drew
              have hg2 : Bare.Laid wq.drew := hgd
              have e3 : ((Maps.size D1 : Int) != (Maps.size D1 : Int)) = false := by simp
              clear g0 g1 g2 g3 g4
              go_wp2_with fail
              clear hsz
              go_region_held3 (fun w' => w'.cell? ⟨B, 1, none⟩ = some (.int .i64 c) ∧ w'.cell? ⟨B, 2, none⟩ = some (.int .i64 o) ∧ w'.cell? ⟨B, 4, none⟩ = some (.int .i64 now) ∧ w'.cell? ⟨r, 0, none⟩ = some (.map (some a)) ∧ w'.cell? ⟨r, 2, none⟩ = some (.map (some d)) ∧ (Instr.lookup 100 (.map (some d)) (.int .i64 c) false).run Tryd.prog w' = .ok (.int .i64 0) w' ∧ (Builtin.len_ #[99] 3 #[.map (some a)]).run Tryd.prog w' = .ok (.int .i64 (Maps.size D1)) w') (exact hS _ (by assumption) (by assumption)) (first | (go_at_call 14; refine (Bare.bare_errno 2 2 _ hg2).mono ?_; rintro e w3 ⟨rfl, hb3⟩; have hB3 := hB2.below hb3; have hR3 := hR2.below hb3; have hT3 := hT2.below hb3) | (go_at_call 46; refine (leans_bad t c now _ hc).mono ?_; rintro e w3 ⟨rfl, rfl⟩) | (go_at_call 48; refine (hold_any t w.heap.size (j + 1) D1 v1 s1 o now _ hT3 how).mono ?_; rintro e w4 ⟨va, rfl, hH4, hb4⟩; have hB4 := hB3.below hb4; have hR4 := hR3.below hb4; have hT4 := hT3.below hb4) | (go_at_call 49; refine (rhold_any r a b d (j + 1) E1 Dv1 Ds1 o now _ hR4 how).mono ?_; rintro e w5 ⟨vb, rfl, hH5, hb5⟩; have hB5 := hB4.below hb5; have hR5 := hR4.below hb5; have hT5 := hT4.below hb5; have hH4' := hH4.below hb5; rw [← HH.out] at hH5) | (go_at_call 47; refine (same_any _ _ _ _ (hol D1 o now 4) _ hH4' hH5 hl4).mono ?_; rintro e w6 ⟨rfl, hb6⟩; have hB6 := hB5.below hb6; have hR6 := hR5.below hb6; have hT6 := hT5.below hb6) | (go_at_call 50; refine (many_any t w.heap.size (j + 1) D1 v1 s1 _ hT6).mono ?_; rintro e w7 ⟨rfl, rfl⟩))
              have hfin := ((((hSd.drew.other hb3).other hb4).other hb5).other hb6).rel
              go_wp2_with fail
              go_roundw
              case rel => exact ⟨j + 1, by omega, by go_num, hfin⟩
              case measure => simp [intOf]; omega
        | true =>
          as_aux_lemma =>
            obtain ⟨q1, q2, q3, q4, q5, q6⟩ := hne
            have hcr := cliB_true hc
            obtain ⟨cn, rfl⟩ : ∃ cn : Nat, c = cn := ⟨c.toNat, by omega⟩
            have hc4 : cn < 4 := by omega
            obtain ⟨g0, g1, g2, g3, g4⟩ := hBc.cells
            have hrv := hSc.ref.vol
            have hxv := (hSc.vol.2 cn).1 hcr
            have hxs := (hSc.ses.2 cn).1 hcr
            have k0 : decide ((cn : Int) < 0) = false := by simp
            have k4 : decide (4 ≤ (cn : Int)) = false := decide_eq_false (by omega)
            obtain ⟨_, hrun, _⟩ := own_int (t := 100) hSc.ref.drew.ownV keyedI Tryd.underlying100 (keyI hcw) hxv
            obtain ⟨hb, ehb⟩ : ∃ hb, Maps.has Dv1 (.int .i64 (cn : Int)) = hb := ⟨_, rfl⟩
            rw [ehb] at hrun
            have Hv0 : Hid (hb = false → v1 cn = 0) := fun h => by
              have hz := atKey_of_not_has (ehb.trans h) (num 0)
              rw [hxv] at hz
              simpa [num] using hz
            go_wp2_with fail
            refine wp_region_still_lit (by kernel_rfl) (by kernel_rfl) ?_
            repeat still_step
            refine wpStill_nil ?_
            clear hrun hrv
            go_upto_region 28 with fail
            go_cut [10] from 115 to 134 (fun l wx => l = .bool (decide (now < v1 cn)) ∧ wx = wc.drew)
            case first =>
              cases hb with
              | true =>
                by_cases hlt : now < v1 cn
                · go_wp2_with fail
                  go_meet
                  case rel => exact ⟨by simp [hlt], rfl⟩
                · have hlt' : decide (now < v1 cn) = false := decide_eq_false hlt
                  go_wp2_with fail
                  go_meet
                  case rel => exact ⟨by simp [hlt], rfl⟩
              | false =>
                have HZ : Hid (v1 cn = 0) := Hv0.out rfl
                by_cases hlt : now < 0
                · go_wp2_with fail
                  go_meet
                  case rel => exact ⟨by rw [HZ.out]; simp [hlt], rfl⟩
                · have hlt' : decide (now < 0) = false := decide_eq_false hlt
                  go_wp2_with fail
                  go_meet
                  case rel => exact ⟨by rw [HZ.out]; simp [hlt], rfl⟩
            case rest =>
              obtain ⟨rfl, rfl⟩ := hcut
              have hSd := hSc.drew
              have hBd := hBc.drew
              clear g0 g1 g2 g3 g4 hSc hBc hgc Hv0 ehb k0 k4
              generalize wc.drew = wd at *
              obtain ⟨g0, g1, g2, g3, g4⟩ := hBd.cells
              go_wp2_with fail
              refine (ses_ok t w.heap.size (j + 1) cn D1 v1 s1 _ hSd.tab hc4).mono ?_
              rintro e wq ⟨rfl, rfl⟩
              have hsz := hSd.same.size
              have hS : ∀ w' : World, PB w' B wh cn o u now → RefIs w' r a b d E1 Dv1 Ds1 (j + 1) → (w'.cell? ⟨B, 1, none⟩ = some (.int .i64 cn) ∧ w'.cell? ⟨B, 2, none⟩ = some (.int .i64 o) ∧ w'.cell? ⟨B, 4, none⟩ = some (.int .i64 now) ∧ w'.cell? ⟨r, 0, none⟩ = some (.map (some a)) ∧ w'.cell? ⟨r, 2, none⟩ = some (.map (some d)) ∧ (Instr.lookup 100 (.map (some d)) (.int .i64 cn) false).run Tryd.prog w' = .ok (.int .i64 (s1 cn)) w' ∧ (Builtin.len_ #[99] 3 #[.map (some a)]).run Tryd.prog w' = .ok (.int .i64 (Maps.size D1)) w') := fun w' hb hr => ⟨hb.cells.2.1, hb.cells.2.2.1, hb.cells.2.2.2.2, hr.obj, hr.ses, (own_int hr.ownS keyedI Tryd.underlying100 (keyI hcw) hxs).1, by rw [hsz]; exact hr.ownO.len Tryd.underlying99 _⟩
              have hl4 := hol_le D1 o now 4
              have hhol := hSd.same.hol o now 4
              have HH : Hid (hol D1 o now 4 = hol E1 o now 4) := hhol
              have hT2 := hSd.tab.drew
              have hR2 := hSd.ref.drew
              have hB2 := hBd.drew
              have hW2 := hSd.below.drew
              have e1 : ((s1 cn) != (s1 cn)) = false := by simp
              have e2 : ((decide (now < v1 cn)) != (decide (now < v1 cn))) = false := by simp
              have e3 : ((Maps.size D1 : Int) != (Maps.size D1 : Int)) = false := by simp
              clear hhol g0 g1 g2 g3 g4 hxv
              go_wp2_with fail
              clear hsz
              go_region_held3 (fun w' => w'.cell? ⟨B, 1, none⟩ = some (.int .i64 cn) ∧ w'.cell? ⟨B, 2, none⟩ = some (.int .i64 o) ∧ w'.cell? ⟨B, 4, none⟩ = some (.int .i64 now) ∧ w'.cell? ⟨r, 0, none⟩ = some (.map (some a)) ∧ w'.cell? ⟨r, 2, none⟩ = some (.map (some d)) ∧ (Instr.lookup 100 (.map (some d)) (.int .i64 cn) false).run Tryd.prog w' = .ok (.int .i64 (s1 cn)) w' ∧ (Builtin.len_ #[99] 3 #[.map (some a)]).run Tryd.prog w' = .ok (.int .i64 (Maps.size D1)) w') (exact hS _ (by assumption) (by assumption)) (first | (go_at_call 14; refine (Bare.bare_nil 0 _).mono ?_; rintro e w3 ⟨rfl, rfl⟩) | (go_at_call 46; refine (leans_ok t w.heap.size (j + 1) cn now D1 v1 s1 _ hT2 hc4).mono ?_; rintro e w3 ⟨rfl, rfl⟩) | (go_at_call 48; refine (hold_any t w.heap.size (j + 1) D1 v1 s1 o now _ hT2 how).mono ?_; rintro e w3 ⟨va, rfl, hH3, hb3⟩; have hB3 := hB2.below hb3; have hR3 := hR2.below hb3; have hT3 := hT2.below hb3) | (go_at_call 49; refine (rhold_any r a b d (j + 1) E1 Dv1 Ds1 o now _ hR3 how).mono ?_; rintro e w4 ⟨vb, rfl, hH4, hb4⟩; have hB4 := hB3.below hb4; have hR4 := hR3.below hb4; have hT4 := hT3.below hb4; have hH3' := hH3.below hb4; rw [← HH.out] at hH4) | (go_at_call 47; refine (same_any _ _ _ _ (hol D1 o now 4) _ hH3' hH4 hl4).mono ?_; rintro e w5 ⟨rfl, hb5⟩; have hB5 := hB4.below hb5; have hR5 := hR4.below hb5; have hT5 := hT4.below hb5) | (go_at_call 50; refine (many_any t w.heap.size (j + 1) D1 v1 s1 _ hT5).mono ?_; rintro e w6 ⟨rfl, rfl⟩))
              have hfin := (((hSd.drew.other hb3).other hb4).other hb5).rel
              go_wp2_with fail
              go_roundw
              case rel => exact ⟨j + 1, by omega, by go_num, hfin⟩
              case measure => simp [intOf]; omega
      case first =>
        have hn : j < 9223372036854775807 := by omega
        obtain ⟨q1, q2, q3, q4, q5, q6⟩ := hne
        have hBd := hB.drew
        have hgd : Bare.Laid wz.drew := hgz2
        have hSd := hSz.drew
        obtain ⟨d0, d1, d2, d3, d4⟩ := hB.cells
        clear hgz2
        by_cases w0 : wh = 0
        · subst w0
          cases hv : cliB c && objB o && timB u with
          | false =>
            as_aux_lemma =>
              clear hSz hB
              have hS : ∀ w' : World, PB w' B 0 c o u now → (w'.cell? ⟨B, 1, none⟩ = some (.int .i64 c) ∧ w'.cell? ⟨B, 2, none⟩ = some (.int .i64 o) ∧ w'.cell? ⟨B, 3, none⟩ = some (.int .i64 u)) := fun w' h => ⟨h.cells.2.1, h.cells.2.2.1, h.cells.2.2.2.1⟩
              go_wp2_with fail
              go_region_held3 (fun w' => w'.cell? ⟨B, 1, none⟩ = some (.int .i64 c) ∧ w'.cell? ⟨B, 2, none⟩ = some (.int .i64 o) ∧ w'.cell? ⟨B, 3, none⟩ = some (.int .i64 u)) (exact hS _ (by assumption)) (first | (go_at_call 38; refine (obj_bad _ _ _ _ _ hv).mono ?_; rintro e w3 ⟨rfl, rfl⟩) | (go_at_call 39; refine (robj_bad _ _ _ _ _ hv).mono ?_; rintro e w4 ⟨rfl, rfl⟩) | (go_at_call 14; refine (Bare.bare_errno 2 2 _ hgd).mono ?_; rintro e w5 ⟨rfl, hb5⟩; have hB5 := hBd.below hb5))
              go_wp2_with fail
              go_meet
              case rel => exact ⟨((hSd.other hb5).mono (Nat.le_succ j)).rel, hB5⟩
          | true =>
            as_aux_lemma =>
              clear hSz hB
              have hS : ∀ w' : World, PB w' B 0 c o u now → (w'.cell? ⟨B, 1, none⟩ = some (.int .i64 c) ∧ w'.cell? ⟨B, 2, none⟩ = some (.int .i64 o) ∧ w'.cell? ⟨B, 3, none⟩ = some (.int .i64 u)) := fun w' h => ⟨h.cells.2.1, h.cells.2.2.1, h.cells.2.2.2.1⟩
              simp only [Bool.and_eq_true] at hv
              obtain ⟨⟨hc, ho⟩, hu⟩ := hv
              obtain ⟨x, hx⟩ := own_num (t := 159) hSd.tab.own keyedP Tryd.underlying159 (keyP hcw how)
              have hxE : E.atKey (kk c o) (num 0) = num x := by rw [← hSd.same.look]; exact hx
              obtain ⟨n1, n2, n3, n4, n5, n6, n7, n8⟩ := hSd.ne
              go_wp2_with fail
              go_region_held3 (fun w' => w'.cell? ⟨B, 1, none⟩ = some (.int .i64 c) ∧ w'.cell? ⟨B, 2, none⟩ = some (.int .i64 o) ∧ w'.cell? ⟨B, 3, none⟩ = some (.int .i64 u)) (exact hS _ (by assumption)) (first | (go_at_call 38; refine (obj_ok t w.heap.size j c o u D v s x _ hSd.tab hn hc ho hu hx).mono ?_; rintro e w3 ⟨rfl, hT3, hO3⟩; have hB3 := hBd.ob hO3 (by simpa using q2); have hR3 := hSd.ref.ob hO3 (by simpa using Ne.symm n5) (by simpa using Ne.symm n6) (by simpa using Ne.symm n7) (by simpa using Ne.symm n8)) | (go_at_call 39; refine (robj_ok r a b d j c o u E Dv Ds x _ hR3 hn hc ho hu hxE).mono ?_; rintro e w4 ⟨rfl, hR4, hO4⟩; have hB4 := hB3.ob hO4 (by simpa using q4)) | (go_at_call 14; refine (Bare.bare_nil 0 _).mono ?_; rintro e w5 ⟨rfl, rfl⟩))
              go_wp2_with fail
              go_meet
              case rel => exact ⟨hSd.object (timB_true hu).1 hx hT3 hO3 hR4 hO4, hB4⟩
        · have w0' : (wh == 0) = false := by simp [w0]
          by_cases w1 : wh = 1
          · subst w1
            cases hv : cliB c && timB u with
            | false =>
              as_aux_lemma =>
                clear hSz hB
                have hS : ∀ w' : World, PB w' B 1 c o u now → (w'.cell? ⟨B, 1, none⟩ = some (.int .i64 c) ∧ w'.cell? ⟨B, 3, none⟩ = some (.int .i64 u)) := fun w' h => ⟨h.cells.2.1, h.cells.2.2.2.1⟩
                go_wp2_with fail
                go_region_held3 (fun w' => w'.cell? ⟨B, 1, none⟩ = some (.int .i64 c) ∧ w'.cell? ⟨B, 3, none⟩ = some (.int .i64 u)) (exact hS _ (by assumption)) (first | (go_at_call 40; refine (vol_bad _ _ _ _ hv).mono ?_; rintro e w3 ⟨rfl, rfl⟩) | (go_at_call 41; refine (rvol_bad _ _ _ _ hv).mono ?_; rintro e w4 ⟨rfl, rfl⟩) | (go_at_call 14; refine (Bare.bare_errno 2 2 _ hgd).mono ?_; rintro e w5 ⟨rfl, hb5⟩; have hB5 := hBd.below hb5))
                go_wp2_with fail
                go_meet
                case rel => exact ⟨((hSd.other hb5).mono (Nat.le_succ j)).rel, hB5⟩
            | true =>
              as_aux_lemma =>
                clear hSz hB
                simp only [Bool.and_eq_true] at hv
                obtain ⟨hc, hu⟩ := hv
                have hcr := cliB_true hc
                obtain ⟨cn, rfl⟩ : ∃ cn : Nat, c = cn := ⟨c.toNat, by omega⟩
                have hc4 : cn < 4 := by omega
                have hS : ∀ w' : World, PB w' B 1 cn o u now → (w'.cell? ⟨B, 1, none⟩ = some (.int .i64 cn) ∧ w'.cell? ⟨B, 3, none⟩ = some (.int .i64 u)) := fun w' h => ⟨h.cells.2.1, h.cells.2.2.2.1⟩
                have hx := (hSd.vol.2 cn).1 hcr
                obtain ⟨n1, n2, n3, n4, n5, n6, n7, n8⟩ := hSd.ne
                go_wp2_with fail
                go_region_held3 (fun w' => w'.cell? ⟨B, 1, none⟩ = some (.int .i64 cn) ∧ w'.cell? ⟨B, 3, none⟩ = some (.int .i64 u)) (exact hS _ (by assumption)) (first | (go_at_call 40; refine (vol_ok t w.heap.size j cn u D v s _ hSd.tab hc4 hu).mono ?_; rintro e w3 ⟨rfl, hT3, hO3⟩; have hB3 := hBd.ob hO3 (by simpa using q1); have hR3 := hSd.ref.ob hO3 (by simpa using Ne.symm n1) (by simpa using Ne.symm n2) (by simpa using Ne.symm n3) (by simpa using Ne.symm n4)) | (go_at_call 41; refine (rvol_ok r a b d j cn u E Dv Ds (v cn) _ hR3 hn hc hu hx).mono ?_; rintro e w4 ⟨rfl, hR4, hO4⟩; have hB4 := hB3.ob hO4 (by simpa using q5)) | (go_at_call 14; refine (Bare.bare_nil 0 _).mono ?_; rintro e w5 ⟨rfl, rfl⟩))
                go_wp2_with fail
                go_meet
                case rel => exact ⟨hSd.volume hc hT3 hO3 hR4 hO4, hB4⟩
          · have w1' : (wh == 1) = false := by simp [w1]
            by_cases w2 : wh = 2
            · subst w2
              as_aux_lemma =>
                clear hSd hBd
                obtain ⟨n1, n2, n3, n4, n5, n6, n7, n8⟩ := hSz.ne
                go_wp2_with fail
                refine (drop_any t w.heap.size j c o D v s _ hSz.tab hcw how).mono ?_
                rintro e w3 ⟨rfl, hT3, hO3⟩
                have hB3 := hB.ob hO3 (by simpa using q2)
                have hR3 := hSz.ref.ob hO3 (by simpa using Ne.symm n5) (by simpa using Ne.symm n6) (by simpa using Ne.symm n7) (by simpa using Ne.symm n8)
                obtain ⟨g0, g1, g2, g3, g4⟩ := hB3.cells
                have hr0 := hR3.obj
                clear d0 d1 d2 d3 d4
                go_wp2_with fail
                go_still_tail 9, (by kernel_rfl)
                refine wpList_delete_own _ rfl _ _ 99 103 rfl 3 keyedA Tryd.underlying99 (plainElem Tryd.prog 3) a j E rfl hR3.drew.ownO _ _ rfl (keyA hcw how) ?_
                intro w4 hown hturn
                have hR4 := hR3.drew.turnO (Nat.le_refl j) hturn hown
                have hO4 := (Ob.refl [a] w3).drew.turned hturn (by simp)
                have hB4 := hB3.ob hO4 (by simpa using q4)
                go_wp2_with fail
                go_meet
                case rel => exact ⟨hSz.drop hT3 hO3 hR4 hO4, hB4⟩
            · have w2' : (wh == 2) = false := by simp [w2]
              by_cases w3 : wh = 3
              · subst w3
                cases hc : cliB c with
                | false =>
                  as_aux_lemma =>
                    clear hSz hB
                    have hS : ∀ w' : World, PB w' B 3 c o u now → (w'.cell? ⟨B, 1, none⟩ = some (.int .i64 c)) := fun w' h => h.cells.2.1
                    go_wp2_with fail
                    go_region_held3 (fun w' => w'.cell? ⟨B, 1, none⟩ = some (.int .i64 c)) (exact hS _ (by assumption)) (first | (go_at_call 43; refine (flush_bad _ _ _ hc).mono ?_; rintro e w3 ⟨rfl, rfl⟩) | (go_at_call 44; refine (rflush_bad _ _ _ hc).mono ?_; rintro e w4 ⟨rfl, rfl⟩) | (go_at_call 14; refine (Bare.bare_errno 2 2 _ hgd).mono ?_; rintro e w5 ⟨rfl, hb5⟩; have hB5 := hBd.below hb5))
                    go_wp2_with fail
                    go_meet
                    case rel => exact ⟨((hSd.other hb5).mono (Nat.le_succ j)).rel, hB5⟩
                | true =>
                  as_aux_lemma =>
                    clear hSz hB
                    have hcr := cliB_true hc
                    obtain ⟨cn, rfl⟩ : ∃ cn : Nat, c = cn := ⟨c.toNat, by omega⟩
                    have hc4 : cn < 4 := by omega
                    have hS : ∀ w' : World, PB w' B 3 cn o u now → (w'.cell? ⟨B, 1, none⟩ = some (.int .i64 cn)) := fun w' h => h.cells.2.1
                    have hx := (hSd.ses.2 cn).1 hcr
                    have hle := hSd.le cn
                    have hs1 : s cn < 9223372036854775807 := by omega
                    obtain ⟨n1, n2, n3, n4, n5, n6, n7, n8⟩ := hSd.ne
                    go_wp2_with fail
                    go_region_held3 (fun w' => w'.cell? ⟨B, 1, none⟩ = some (.int .i64 cn)) (exact hS _ (by assumption)) (first | (go_at_call 43; refine (flush_ok t w.heap.size j cn D v s _ hSd.tab hc4 hs1).mono ?_; rintro e w3 ⟨rfl, hT3, hO3⟩; have hB3 := hBd.ob hO3 (by simp; omega); have hR3 := hSd.ref.ob hO3 (by simp; omega) (by simp; omega) (by simp; omega) (by simp; omega)) | (go_at_call 44; refine (rflush_ok r a b d j cn E Dv Ds (s cn) _ hR3 hn hc hx hs1).mono ?_; rintro e w4 ⟨rfl, hR4, hO4⟩; have hB4 := hB3.ob hO4 (by simp; omega)) | (go_at_call 14; refine (Bare.bare_nil 0 _).mono ?_; rintro e w5 ⟨rfl, rfl⟩))
                    go_wp2_with fail
                    go_meet
                    case rel => exact ⟨hSd.flush hc hT3 hO3 hR4 hO4, hB4⟩
              · have w3' : (wh == 3) = false := by simp [w3]
                as_aux_lemma =>
                  clear hSd hBd
                  go_wp2_with fail
                  go_meet
                  case rel => exact ⟨(hSz.mono (Nat.le_succ j)).rel, hB⟩
    · obtain rfl : j = xs.length := by omega
      obtain ⟨D, E, Dv, Ds, v, s, hS⟩ := hrl
      have hbl := hS.below
      clear hS hgo
      go_wp2_with fail
      go_ret
      exact ⟨rfl, hbl⟩
end Go.Proofs.YtbebfliimjjohaaDoor.Lease
