/-
  That tenurelaw.WalPlays is true at all steps and fillings, over the turned program.
-/
import Derived.Test.YtbebfliimjjohaaDoorWalSt
namespace Go.Proofs.YtbebfliimjjohaaDoor.Wal
open Go.RowKit
open Num (inB)

theorem fill_le (fill : Int) : wrap64 ((IntKind.u64.wrap fill).tmod 201) ≤ 200 := by
  have h : IntKind.u64.wrap fill = fill % 18446744073709551616 := by simp [IntKind.wrap, IntKind.bits, IntKind.signed]
  rw [h, Int.tmod_eq_emod_of_nonneg (by omega)]
  unfold wrap64
  omega

set_option maxHeartbeats 8000000 in
set_option maxRecDepth 100000 in
theorem plays (ao : Option Addr) (c : Nat) (xs : List Stp) (fill : Int) (w : World) (hn : xs.length ≤ 100) (hx : Puts w ao xs) (hg : Bare.Laid w) :
    Calls Tryd.prog 7 #[.slice ao xs.length c, .int .i64 fill] w fun e w' => e = .returned (.bool true) ∧ Below w.heap.size w w' := by
  have hpos := hg.size
  go_enter Tryd.func7, Tryd.ntmps7
  go_wp2_with fail
  have hD0 := zero_disk w 68
  have hb0 := (Below.refl w.heap.size w).alloc (Nat.le_refl _) (.cells Tryd.zeroCells68 68)
  have hz0 : (w.alloc (.cells Tryd.zeroCells68 68)).heap.size = w.heap.size + 1 := by simp
  generalize w.alloc (.cells Tryd.zeroCells68 68) = wa at *
  refine (open_any w.heap.size [] false 0 _ hD0 (by omega)).mono ?_
  rintro e w1 ⟨u, rfl, hW1, hu1, hb1⟩
  have hs1 := hb1.size
  have hD1 := hD0.below hb1 (by omega)
  have hB1 := hb0.trans (hb1.mono (by omega))
  go_wp2_with fail
  refine (open_nil _).mono ?_
  rintro e w2 ⟨rfl, hw2⟩
  rw [hw2]
  clear hw2
  go_wp2_with fail
  refine (Bare.bare_errno 7 7 _ (hg.below hB1 hpos)).mono ?_
  rintro e w3 ⟨rfl, hb3⟩
  have hs3 := hb3.size
  have hSt : St w (fills 0) false 0 false u (.slice none 0 0) w3 := ⟨hD1.below hb3 (by omega), hW1.below hb3, by omega, World.ownsRow_nil _ _ _ _, hB1.trans (hb3.mono (by omega))⟩
  clear hD0 hD1 hb0 hb1 hb3 hW1 hB1
  go_wp2_with fail
  go_loopw [10, 14] (fun va s wr => ∃ k : Nat, k ≤ 200 ∧ s = .int .i64 k ∧ St w (fills k) false 0 false u va wr) (fun _ s _ => 201 - (intOf s).toNat)
  case atStart => exact ⟨0, by omega, rfl, hSt⟩
  case round =>
    clear hSt
    obtain ⟨k, hk, rfl, hS⟩ := hrel
    have hM := fill_le fill
    generalize hMM : wrap64 ((IntKind.u64.wrap fill).tmod 201) = M at hM
    by_cases hlt : (k : Int) < M
    · have hlt' := hlt
      rw [← hMM] at hlt'
      have hkk : k < 200 := by omega
      have hf := fills_length k
      have hSs := hS.size
      have hva := hS.all
      obtain ⟨aa, ac, rfl, _, _⟩ := row_shape hva
      rw [hf] at hva
      clear hMM hlt hM
      go_wp2_with fail
      refine (add_free u w.heap.size (fills k) 0 (-1) (fr k) _ hS.wal hS.disk hS.lt (by omega) (fr_may k (by omega))).mono ?_
      rintro e w4 ⟨rfl, hW4, hD4, hF4⟩
      obtain ⟨hall4, hB4⟩ := hS.add hF4
      have hlt4 := hS.lt
      have hs4 := hW4.lt
      clear hva hS hF4
      obtain ⟨i0, hi, hy0, hy1, hy2⟩ := info_parts info_ref
      have e3 : k + 1 ≤ maxLen := by unfold maxLen; omega
      have e4 : (k + 1) * 56 ≤ 140737488355328 := by omega
      have hall4' := hall4
      rw [hf] at hall4'
      go_wp2_with (at_builtin; refine wpList_append_own _ rfl _ _ 72 rfl (w.heap.size + 1) 77 i0 (.agg #[.int .i64 0, .int .i64 0, .int .i64 0, .int .i64 0, .string ⟨#[]⟩, .int .i64 0]) 6 56 Tryd.underlying72 hi hy0 hy1 hy2 rfl (by decide) _ _ _ rfl (hall4'.alloc _) ⟨w4.heap.size, 0, none⟩ 1 1 (fr k).cells rfl rfl (ref_made w4 (fr k)) (fr k).cells_one e3 e4 ?r5 ?_)
      case r5 => simp; omega
      intro v5 w5 hown5 hg5 _
      rw [← rcells_snoc] at hown5
      have hS5 := St.grown (va := .slice aa k ac) hD4 hW4 hlt4 (by rw [hf]; exact hall4') hB4 hown5 (by rw [hf]) hg5
      rw [← fills_succ] at hS5
      clear hall4 hall4' hD4 hW4 hown5 hg5 hB4
      go_wp2_with fail
      exact ⟨⟨k + 1, by omega, by go_num, hS5⟩, by simp [intOf]; omega⟩
    · rw [← hMM] at hlt
      clear hMM hM
      have hR : Rel2 w u10 (.bool false) (.int .i64 0) (.bool false) (.pointer (some ⟨u, 0, none⟩)) wr := ⟨_, _, _, _, _, _, hS, rfl, rfl, (fun h => by cases h), rfl, rfl⟩
      clear hS
      go_wp2_with fail
      go_loopw [6, 10, 11, 12, 13, 15] (fun wv va ov lv dv s wr => ∃ j : Nat, j ≤ xs.length ∧ s = .int .i64 j ∧ Rel2 w va ov lv dv wv wr) (fun _ _ _ _ _ s _ => xs.length - (intOf s).toNat)
      case atStart => exact ⟨0, by omega, rfl, hR⟩
      case round =>
        clear hR
        obtain ⟨j, hj, rfl, rs, f, l, down, u, l', hS, rfl, rfl, hfl, rfl, rfl⟩ := hrel
        by_cases hjl : j < xs.length
        · obtain ⟨b, off, rfl, hb, hcells⟩ := hx (by omega)
          obtain ⟨hce, hdm, hnm⟩ := hcells j hjl
          clear hcells hx
          generalize xs[j] = x at *
          obtain ⟨wh, xn, torn, r⟩ := x
          dsimp only at hce hdm hnm
          have hb2 : b < wr.heap.size := by have := hS.below.size; omega
          have c0 : wr.cell? ⟨b, off + j * 9, none⟩ = some (.int .i64 wh) := ((Wire.bcell hS.below).1 _ _ hb).trans (hce 0 (by omega))
          have c1 : wr.cell? ⟨b, off + j * 9 + 1, none⟩ = some (.int .i64 xn) := ((Wire.bcell hS.below).1 _ _ hb).trans (hce 1 (by omega))
          have c2 : wr.cell? ⟨b, off + j * 9 + 2, none⟩ = some (.int .i64 torn) := ((Wire.bcell hS.below).1 _ _ hb).trans (hce 2 (by omega))
          have c3 : wr.cell? ⟨b, off + j * 9 + 3, none⟩ = some (.int .i64 r.c) := ((Wire.bcell hS.below).1 _ _ hb).trans (hce 3 (by omega))
          have c4 : wr.cell? ⟨b, off + j * 9 + 4, none⟩ = some (.int .i64 r.n) := ((Wire.bcell hS.below).1 _ _ hb).trans (hce 4 (by omega))
          have c5 : wr.cell? ⟨b, off + j * 9 + 5, none⟩ = some (.int .i64 r.o) := ((Wire.bcell hS.below).1 _ _ hb).trans (hce 5 (by omega))
          have c6 : wr.cell? ⟨b, off + j * 9 + 6, none⟩ = some (.int .i64 r.v) := ((Wire.bcell hS.below).1 _ _ hb).trans (hce 6 (by omega))
          have c7 : wr.cell? ⟨b, off + j * 9 + 7, none⟩ = some (.string r.d) := ((Wire.bcell hS.below).1 _ _ hb).trans (hce 7 (by omega))
          have c8 : wr.cell? ⟨b, off + j * 9 + 8, none⟩ = some (.int .i64 r.e) := ((Wire.bcell hS.below).1 _ _ hb).trans (hce 8 (by omega))
          clear hce
          have hSs := hS.size
          have hbx := fun o => ((Below.refl wr.heap.size wr).alloc (Nat.le_refl _) o)
          have hSx := fun o => hS.other (hbx o)
          have hgr : Bare.Laid wr := hg.below hS.below hpos
          by_cases hl : 100 < (r.d.size : Int)
          · go_wp2_with fail
            exact ⟨⟨j + 1, by omega, by go_num, rs, f, l, down, u, l', hSx _, rfl, rfl, hfl, rfl, rfl⟩, by simp [intOf]; omega⟩
          · have hl' : r.d.size ≤ 100 := by omega
            by_cases w0 : wh = 0
            · subst w0
              cases hdn : down with
              | true =>
                subst hdn
                as_aux_lemma =>
                  go_wp2_with fail
                  have hSy := hSx (.cells #[.int .i64 0, .int .i64 xn, .int .i64 torn, .int .i64 r.c, .int .i64 r.n, .int .i64 r.o, .int .i64 r.v, .string r.d, .int .i64 r.e] 79)
                  have hgy : Bare.Laid (wr.alloc (.cells #[.int .i64 0, .int .i64 xn, .int .i64 torn, .int .i64 r.c, .int .i64 r.n, .int .i64 r.o, .int .i64 r.v, .string r.d, .int .i64 r.e] 79)) := hgr.below (hbx _) (by omega)
                  have hBx := PBx.made wr 0 xn torn r
                  have hzy : wr.heap.size < (wr.alloc (.cells #[.int .i64 0, .int .i64 xn, .int .i64 torn, .int .i64 r.c, .int .i64 r.n, .int .i64 r.o, .int .i64 r.v, .string r.d, .int .i64 r.e] 79)).heap.size := by simp
                  generalize wr.alloc (.cells #[.int .i64 0, .int .i64 xn, .int .i64 torn, .int .i64 r.c, .int .i64 r.n, .int .i64 r.o, .int .i64 r.v, .string r.d, .int .i64 r.e] 79) = wy at *
                  clear hSx hbx hgr c0 c1 c2 c3 c4 c5 c6 c7 c8 hS
                  refine (add_down u w.heap.size rs torn r _ hSy.wal).mono ?_
                  rintro e w4 ⟨rfl, hb4⟩
                  have hg4 := hgy.below hb4 (by omega)
                  clear hBx
                  go_wp2_with fail
                  refine (Bare.bare_errno 6 6 _ hg4).mono ?_
                  rintro e w5 ⟨rfl, hb5⟩
                  replace hSy := (hSy.other hb4).other hb5
                  clear hb4 hb5 hg4 hgy hzy
                  go_wp2_with fail
                  have hlen := hSy.disk.len
                  refine (records_any _ _ rs true _ hSy.wal hlen).mono ?_
                  rintro e w5 ⟨gv, rfl, hgot, hb5⟩
                  have hSz := hSy.other hb5
                  clear hSy hb5
                  obtain ⟨ga, gc, rfl, _, _⟩ := row_shape hgot
                  have hva := hSz.all
                  obtain ⟨aa, ac, rfl, _, _⟩ := row_shape hva
                  have hne : ((rs.length : Int) != (rs.length : Int)) = false := by simp
                  have hdd : (true != true) = false := bne_self_eq_false _
                  go_wp2_with fail
                  refine (down_any _ _ rs true _ hSz.wal).mono ?_
                  rintro e w6 ⟨rfl, hw6⟩
                  rw [hw6]
                  clear hw6
                  go_wp2_with fail
                  go_loopw [20] (fun s wr => ∃ k : Nat, k ≤ rs.length ∧ s = .int .i64 k ∧ Below w5.heap.size w5 wr) (fun s _ => rs.length - (intOf s).toNat)
                  case atStart => exact ⟨0, by omega, rfl, Below.refl _ _⟩
                  case round =>
                    obtain ⟨k, hk, rfl, hBq⟩ := hrel
                    have hsq := hBq.size
                    by_cases hkl : k < rs.length
                    · obtain ⟨g1, gc1, hg1, hgs1, hx1⟩ := row_rec hgot hkl
                      injection hg1 with hg1 _ hg1c
                      subst hg1 hg1c
                      obtain ⟨g2, gc2, hg2, hgs2, hx2⟩ := row_rec hva hkl
                      injection hg2 with hg2 _ hg2c
                      subst hg2 hg2c
                      replace hx1 := hx1.below hBq hgs1
                      replace hx2 := hx2.below hBq hgs2
                      generalize rs[k] = y at hx1 hx2
                      have hk0 : (0 : Int) ≤ (k : Int) := by omega
                      have hk1 : (k : Int) < (rs.length : Int) := by omega
                      go_wp2_with fail
                      refine Gen.start (S := fun w' => Bxo w' g1 (k * 6) y ∧ Bxo w' g2 (k * 6) y) (by kernel_rfl) ⟨hx1, hx2⟩ (fun hHeld => ?_)
                      refine Gen.take (i := 0) (k := 2) (v := ?_) rfl rfl (by kernel_rfl) (by kernel_rfl) (by kernel_rfl) (by kernel_rfl) (by kernel_rfl) (by kernel_rfl) (fun _ _ _ h => h) (Or.inl ⟨by rfl, ?_⟩) hHeld ?_
                      rotate_left
                      · intro w' hSw
                        go_simp
                        try with_reducible rfl
                      simp only [Act.put, List.setIfInBounds_toArray, List.set_cons_zero, List.set_cons_succ]
                      refine Gen.take (i := 1) (k := 2) (v := ?_) rfl rfl (by kernel_rfl) (by kernel_rfl) (by kernel_rfl) (by kernel_rfl) (by kernel_rfl) (by kernel_rfl) (fun _ _ _ h => h) (Or.inl ⟨by rfl, ?_⟩) hHeld ?_
                      rotate_left
                      · intro w' hSw
                        go_simp
                        try with_reducible rfl
                      simp only [Act.put, List.setIfInBounds_toArray, List.set_cons_zero, List.set_cons_succ]
                      refine Gen.take (i := 2) (k := 3) (v := ?_) rfl rfl (by kernel_rfl) (by kernel_rfl) (by kernel_rfl) (by kernel_rfl) (by kernel_rfl) (by kernel_rfl) (fun _ _ _ h => h) (Or.inl ⟨by rfl, ?_⟩) hHeld ?_
                      rotate_left
                      · intro w' hSw
                        go_simp
                        try with_reducible rfl
                      simp only [Act.put, List.setIfInBounds_toArray, List.set_cons_zero, List.set_cons_succ]
                      refine Gen.take (i := 3) (k := 4) (v := ?_) rfl rfl (by kernel_rfl) (by kernel_rfl) (by kernel_rfl) (by kernel_rfl) (by kernel_rfl) (by kernel_rfl) (fun _ _ _ h => h) (Or.inl ⟨by rfl, ?_⟩) hHeld ?_
                      rotate_left
                      · intro w' hSw
                        obtain ⟨⟨s0, s1, s2, s3, s4, s5⟩, t0, t1, t2, t3, t4, t5⟩ := hSw
                        go_simp
                        try with_reducible rfl
                      simp only [Act.put, List.setIfInBounds_toArray, List.set_cons_zero, List.set_cons_succ]
                      refine Gen.take (i := 5) (k := 7) (v := ?_) rfl rfl (by kernel_rfl) (by kernel_rfl) (by kernel_rfl) (by kernel_rfl) (by kernel_rfl) (by kernel_rfl) (fun _ _ _ h => h) (Or.inl ⟨by rfl, ?_⟩) hHeld ?_
                      rotate_left
                      · intro w' hSw
                        go_simp
                        try with_reducible rfl
                      simp only [Act.put, List.setIfInBounds_toArray, List.set_cons_zero, List.set_cons_succ]
                      refine Gen.take (i := 6) (k := 7) (v := ?_) rfl rfl (by kernel_rfl) (by kernel_rfl) (by kernel_rfl) (by kernel_rfl) (by kernel_rfl) (by kernel_rfl) (fun _ _ _ h => h) (Or.inl ⟨by rfl, ?_⟩) hHeld ?_
                      rotate_left
                      · intro w' hSw
                        go_simp
                        try with_reducible rfl
                      simp only [Act.put, List.setIfInBounds_toArray, List.set_cons_zero, List.set_cons_succ]
                      refine Gen.take (i := 7) (k := 8) (v := ?_) rfl rfl (by kernel_rfl) (by kernel_rfl) (by kernel_rfl) (by kernel_rfl) (by kernel_rfl) (by kernel_rfl) (fun _ _ _ h => h) (Or.inl ⟨by rfl, ?_⟩) hHeld ?_
                      rotate_left
                      · intro w' hSw
                        go_simp
                        try with_reducible rfl
                      simp only [Act.put, List.setIfInBounds_toArray, List.set_cons_zero, List.set_cons_succ]
                      refine Gen.take (i := 8) (k := 9) (v := ?_) rfl rfl (by kernel_rfl) (by kernel_rfl) (by kernel_rfl) (by kernel_rfl) (by kernel_rfl) (by kernel_rfl) (fun _ _ _ h => h) (Or.inl ⟨by rfl, ?_⟩) hHeld ?_
                      rotate_left
                      · intro w' hSw
                        obtain ⟨⟨s0, s1, s2, s3, s4, s5⟩, t0, t1, t2, t3, t4, t5⟩ := hSw
                        go_simp
                        try with_reducible rfl
                      simp only [Act.put, List.setIfInBounds_toArray, List.set_cons_zero, List.set_cons_succ]
                      refine Gen.one (i := 4) (by kernel_rfl) rfl rfl (fun K hK => ?_)
                      go_simp
                      refine (recorded_any y _).mono ?_
                      rintro e w7 ⟨rfl, hb7⟩
                      dsimp only
                      have hb7' : Below wr.heap.size wr w7 := ⟨hb7.os, hb7.tape, hb7.output, hb7.size, hb7.block⟩
                      refine hK.out _ _ ⟨hx1.below hb7' (by omega), hx2.below hb7' (by omega)⟩ (fun hHeld => ?_)
                      clear hK K
                      try simp only [Act.put, List.setIfInBounds_toArray, List.set_cons_zero, List.set_cons_succ]
                      refine Gen.last (i := 9) (by kernel_rfl) rfl rfl (by kernel_rfl) (by kernel_rfl) (fun K hK => ?_)
                      go_simp
                      refine hK.out _ _ ?_
                      clear hK K hHeld
                      have hBn := hBq.trans (hb7'.mono hsq)
                      go_wp2_with fail
                      exact ⟨⟨k + 1, by omega, by go_num, hBn⟩, by simp [intOf]; omega⟩
                    · have hSf := hSz.other hBq
                      go_wp2_with fail
                      exact ⟨⟨j + 1, by omega, by go_num, rs, f, l, true, _, l', hSf, rfl, rfl, hfl, rfl, rfl⟩, by simp [intOf]; omega⟩
              | false =>
                subst hdn
                cases hmay : mayB r with
                | false =>
                  as_aux_lemma =>
                    go_wp2_with fail
                    have hSy := hSx (.cells #[.int .i64 0, .int .i64 xn, .int .i64 torn, .int .i64 r.c, .int .i64 r.n, .int .i64 r.o, .int .i64 r.v, .string r.d, .int .i64 r.e] 79)
                    have hgy : Bare.Laid (wr.alloc (.cells #[.int .i64 0, .int .i64 xn, .int .i64 torn, .int .i64 r.c, .int .i64 r.n, .int .i64 r.o, .int .i64 r.v, .string r.d, .int .i64 r.e] 79)) := hgr.below (hbx _) (by omega)
                    have hBx := PBx.made wr 0 xn torn r
                    have hzy : wr.heap.size < (wr.alloc (.cells #[.int .i64 0, .int .i64 xn, .int .i64 torn, .int .i64 r.c, .int .i64 r.n, .int .i64 r.o, .int .i64 r.v, .string r.d, .int .i64 r.e] 79)).heap.size := by simp
                    generalize wr.alloc (.cells #[.int .i64 0, .int .i64 xn, .int .i64 torn, .int .i64 r.c, .int .i64 r.n, .int .i64 r.o, .int .i64 r.v, .string r.d, .int .i64 r.e] 79) = wy at *
                    clear hSx hbx hgr c0 c1 c2 c3 c4 c5 c6 c7 c8 hS
                    refine (recorded_any r _).mono ?_
                    rintro e w4 ⟨rfl, hb4⟩
                    go_wp2_with fail
                    refine (ref_any r _ (by omega)).mono ?_
                    rintro e w5 ⟨rfl, hb5⟩
                    have hs4 := hb4.size
                    have hb45 := hb4.trans (hb5.mono hs4)
                    replace hSy := hSy.other hb45
                    have hg5 := hgy.below hb45 (by omega)
                    have hBm := hBx.block (hb45.block _ hBx.lt)
                    clear hb4 hb5 hBx hgy
                    obtain ⟨d0, d1, d2, d3, d4, d5, d6, d7, d8, hPB⟩ := hBm
                    have hs5 := hb45.size
                    clear hb45
                    go_wp2_with fail
                    refine (add_bad u w.heap.size rs torn r _ hSy.wal hmay (by omega)).mono ?_
                    rintro e w6 ⟨rfl, hb6⟩
                    have hg6 := hg5.below hb6 (by omega)
                    go_wp2_with fail
                    refine (Bare.bare_errno 1 1 _ hg6).mono ?_
                    rintro e w7 ⟨rfl, hb7⟩
                    replace hSy := (hSy.other hb6).other hb7
                    clear hb6 hb7 hg6 hg5 d0 d1 d2 d3 d4 d5 d6 d7 d8 hPB
                    go_wp2_with fail
                    have hlen := hSy.disk.len
                    refine (records_any _ _ rs false _ hSy.wal hlen).mono ?_
                    rintro e w5 ⟨gv, rfl, hgot, hb5⟩
                    have hSz := hSy.other hb5
                    clear hSy hb5
                    obtain ⟨ga, gc, rfl, _, _⟩ := row_shape hgot
                    have hva := hSz.all
                    obtain ⟨aa, ac, rfl, _, _⟩ := row_shape hva
                    have hne : ((rs.length : Int) != (rs.length : Int)) = false := by simp
                    have hdd : (false != false) = false := bne_self_eq_false _
                    go_wp2_with fail
                    refine (down_any _ _ rs false _ hSz.wal).mono ?_
                    rintro e w6 ⟨rfl, hw6⟩
                    rw [hw6]
                    clear hw6
                    go_wp2_with fail
                    go_loopw [20] (fun s wr => ∃ k : Nat, k ≤ rs.length ∧ s = .int .i64 k ∧ Below w5.heap.size w5 wr) (fun s _ => rs.length - (intOf s).toNat)
                    case atStart => exact ⟨0, by omega, rfl, Below.refl _ _⟩
                    case round =>
                      obtain ⟨k, hk, rfl, hBq⟩ := hrel
                      have hsq := hBq.size
                      by_cases hkl : k < rs.length
                      · obtain ⟨g1, gc1, hg1, hgs1, hx1⟩ := row_rec hgot hkl
                        injection hg1 with hg1 _ hg1c
                        subst hg1 hg1c
                        obtain ⟨g2, gc2, hg2, hgs2, hx2⟩ := row_rec hva hkl
                        injection hg2 with hg2 _ hg2c
                        subst hg2 hg2c
                        replace hx1 := hx1.below hBq hgs1
                        replace hx2 := hx2.below hBq hgs2
                        generalize rs[k] = y at hx1 hx2
                        have hk0 : (0 : Int) ≤ (k : Int) := by omega
                        have hk1 : (k : Int) < (rs.length : Int) := by omega
                        go_wp2_with fail
                        refine Gen.start (S := fun w' => Bxo w' g1 (k * 6) y ∧ Bxo w' g2 (k * 6) y) (by kernel_rfl) ⟨hx1, hx2⟩ (fun hHeld => ?_)
                        refine Gen.take (i := 0) (k := 2) (v := ?_) rfl rfl (by kernel_rfl) (by kernel_rfl) (by kernel_rfl) (by kernel_rfl) (by kernel_rfl) (by kernel_rfl) (fun _ _ _ h => h) (Or.inl ⟨by rfl, ?_⟩) hHeld ?_
                        rotate_left
                        · intro w' hSw
                          go_simp
                          try with_reducible rfl
                        simp only [Act.put, List.setIfInBounds_toArray, List.set_cons_zero, List.set_cons_succ]
                        refine Gen.take (i := 1) (k := 2) (v := ?_) rfl rfl (by kernel_rfl) (by kernel_rfl) (by kernel_rfl) (by kernel_rfl) (by kernel_rfl) (by kernel_rfl) (fun _ _ _ h => h) (Or.inl ⟨by rfl, ?_⟩) hHeld ?_
                        rotate_left
                        · intro w' hSw
                          go_simp
                          try with_reducible rfl
                        simp only [Act.put, List.setIfInBounds_toArray, List.set_cons_zero, List.set_cons_succ]
                        refine Gen.take (i := 2) (k := 3) (v := ?_) rfl rfl (by kernel_rfl) (by kernel_rfl) (by kernel_rfl) (by kernel_rfl) (by kernel_rfl) (by kernel_rfl) (fun _ _ _ h => h) (Or.inl ⟨by rfl, ?_⟩) hHeld ?_
                        rotate_left
                        · intro w' hSw
                          go_simp
                          try with_reducible rfl
                        simp only [Act.put, List.setIfInBounds_toArray, List.set_cons_zero, List.set_cons_succ]
                        refine Gen.take (i := 3) (k := 4) (v := ?_) rfl rfl (by kernel_rfl) (by kernel_rfl) (by kernel_rfl) (by kernel_rfl) (by kernel_rfl) (by kernel_rfl) (fun _ _ _ h => h) (Or.inl ⟨by rfl, ?_⟩) hHeld ?_
                        rotate_left
                        · intro w' hSw
                          obtain ⟨⟨s0, s1, s2, s3, s4, s5⟩, t0, t1, t2, t3, t4, t5⟩ := hSw
                          go_simp
                          try with_reducible rfl
                        simp only [Act.put, List.setIfInBounds_toArray, List.set_cons_zero, List.set_cons_succ]
                        refine Gen.take (i := 5) (k := 7) (v := ?_) rfl rfl (by kernel_rfl) (by kernel_rfl) (by kernel_rfl) (by kernel_rfl) (by kernel_rfl) (by kernel_rfl) (fun _ _ _ h => h) (Or.inl ⟨by rfl, ?_⟩) hHeld ?_
                        rotate_left
                        · intro w' hSw
                          go_simp
                          try with_reducible rfl
                        simp only [Act.put, List.setIfInBounds_toArray, List.set_cons_zero, List.set_cons_succ]
                        refine Gen.take (i := 6) (k := 7) (v := ?_) rfl rfl (by kernel_rfl) (by kernel_rfl) (by kernel_rfl) (by kernel_rfl) (by kernel_rfl) (by kernel_rfl) (fun _ _ _ h => h) (Or.inl ⟨by rfl, ?_⟩) hHeld ?_
                        rotate_left
                        · intro w' hSw
                          go_simp
                          try with_reducible rfl
                        simp only [Act.put, List.setIfInBounds_toArray, List.set_cons_zero, List.set_cons_succ]
                        refine Gen.take (i := 7) (k := 8) (v := ?_) rfl rfl (by kernel_rfl) (by kernel_rfl) (by kernel_rfl) (by kernel_rfl) (by kernel_rfl) (by kernel_rfl) (fun _ _ _ h => h) (Or.inl ⟨by rfl, ?_⟩) hHeld ?_
                        rotate_left
                        · intro w' hSw
                          go_simp
                          try with_reducible rfl
                        simp only [Act.put, List.setIfInBounds_toArray, List.set_cons_zero, List.set_cons_succ]
                        refine Gen.take (i := 8) (k := 9) (v := ?_) rfl rfl (by kernel_rfl) (by kernel_rfl) (by kernel_rfl) (by kernel_rfl) (by kernel_rfl) (by kernel_rfl) (fun _ _ _ h => h) (Or.inl ⟨by rfl, ?_⟩) hHeld ?_
                        rotate_left
                        · intro w' hSw
                          obtain ⟨⟨s0, s1, s2, s3, s4, s5⟩, t0, t1, t2, t3, t4, t5⟩ := hSw
                          go_simp
                          try with_reducible rfl
                        simp only [Act.put, List.setIfInBounds_toArray, List.set_cons_zero, List.set_cons_succ]
                        refine Gen.one (i := 4) (by kernel_rfl) rfl rfl (fun K hK => ?_)
                        go_simp
                        refine (recorded_any y _).mono ?_
                        rintro e w7 ⟨rfl, hb7⟩
                        dsimp only
                        have hb7' : Below wr.heap.size wr w7 := ⟨hb7.os, hb7.tape, hb7.output, hb7.size, hb7.block⟩
                        refine hK.out _ _ ⟨hx1.below hb7' (by omega), hx2.below hb7' (by omega)⟩ (fun hHeld => ?_)
                        clear hK K
                        try simp only [Act.put, List.setIfInBounds_toArray, List.set_cons_zero, List.set_cons_succ]
                        refine Gen.last (i := 9) (by kernel_rfl) rfl rfl (by kernel_rfl) (by kernel_rfl) (fun K hK => ?_)
                        go_simp
                        refine hK.out _ _ ?_
                        clear hK K hHeld
                        have hBn := hBq.trans (hb7'.mono hsq)
                        go_wp2_with fail
                        exact ⟨⟨k + 1, by omega, by go_num, hBn⟩, by simp [intOf]; omega⟩
                      · have hSf := hSz.other hBq
                        go_wp2_with fail
                        exact ⟨⟨j + 1, by omega, by go_num, rs, f, l, false, _, l', hSf, rfl, rfl, hfl, rfl, rfl⟩, by simp [intOf]; omega⟩
                | true =>
                  by_cases hfull : rs.length = 200
                  ·
                    as_aux_lemma =>
                      obtain ⟨aa, ac, hvaeq, _, _⟩ := row_shape hS.all
                      subst hvaeq
                      have h200 : (200 : Int) ≤ (rs.length : Int) := by omega
                      have HFU : Hid (rs.length = 200) := hfull
                      clear hfull
                      go_wp2_with fail
                      have hSy := hSx (.cells #[.int .i64 0, .int .i64 xn, .int .i64 torn, .int .i64 r.c, .int .i64 r.n, .int .i64 r.o, .int .i64 r.v, .string r.d, .int .i64 r.e] 79)
                      have hgy : Bare.Laid (wr.alloc (.cells #[.int .i64 0, .int .i64 xn, .int .i64 torn, .int .i64 r.c, .int .i64 r.n, .int .i64 r.o, .int .i64 r.v, .string r.d, .int .i64 r.e] 79)) := hgr.below (hbx _) (by omega)
                      have hBx := PBx.made wr 0 xn torn r
                      have hzy : wr.heap.size < (wr.alloc (.cells #[.int .i64 0, .int .i64 xn, .int .i64 torn, .int .i64 r.c, .int .i64 r.n, .int .i64 r.o, .int .i64 r.v, .string r.d, .int .i64 r.e] 79)).heap.size := by simp
                      generalize wr.alloc (.cells #[.int .i64 0, .int .i64 xn, .int .i64 torn, .int .i64 r.c, .int .i64 r.n, .int .i64 r.o, .int .i64 r.v, .string r.d, .int .i64 r.e] 79) = wy at *
                      clear hSx hbx hgr c0 c1 c2 c3 c4 c5 c6 c7 c8 hS
                      refine (recorded_any r _).mono ?_
                      rintro e w4 ⟨rfl, hb4⟩
                      go_wp2_with fail
                      refine (ref_any r _ (by omega)).mono ?_
                      rintro e w5 ⟨rfl, hb5⟩
                      have hs4 := hb4.size
                      have hb45 := hb4.trans (hb5.mono hs4)
                      replace hSy := hSy.other hb45
                      have hg5 := hgy.below hb45 (by omega)
                      have hBm := hBx.block (hb45.block _ hBx.lt)
                      clear hb4 hb5 hBx hgy
                      obtain ⟨d0, d1, d2, d3, d4, d5, d6, d7, d8, hPB⟩ := hBm
                      have hs5 := hb45.size
                      clear hb45
                      go_wp2_with fail
                      refine (add_full u w.heap.size rs f l torn r _ hSy.wal hSy.disk hSy.lt HFU.out hmay).mono ?_
                      rintro e w6 ⟨rfl, hb6⟩
                      have hg6 := hg5.below hb6 (by omega)
                      go_wp2_with fail
                      refine (Bare.bare_errno 12 12 _ hg6).mono ?_
                      rintro e w7 ⟨rfl, hb7⟩
                      replace hSy := (hSy.other hb6).other hb7
                      clear hb6 hb7 hg6 hg5 d0 d1 d2 d3 d4 d5 d6 d7 d8 hPB h200
                      go_wp2_with fail
                      have hlen := hSy.disk.len
                      refine (records_any _ _ rs false _ hSy.wal hlen).mono ?_
                      rintro e w5 ⟨gv, rfl, hgot, hb5⟩
                      have hSz := hSy.other hb5
                      clear hSy hb5
                      obtain ⟨ga, gc, rfl, _, _⟩ := row_shape hgot
                      have hva := hSz.all
                      have hne : ((rs.length : Int) != (rs.length : Int)) = false := by simp
                      have hdd : (false != false) = false := bne_self_eq_false _
                      go_wp2_with fail
                      refine (down_any _ _ rs false _ hSz.wal).mono ?_
                      rintro e w6 ⟨rfl, hw6⟩
                      rw [hw6]
                      clear hw6
                      go_wp2_with fail
                      go_loopw [20] (fun s wr => ∃ k : Nat, k ≤ rs.length ∧ s = .int .i64 k ∧ Below w5.heap.size w5 wr) (fun s _ => rs.length - (intOf s).toNat)
                      case atStart => exact ⟨0, by omega, rfl, Below.refl _ _⟩
                      case round =>
                        obtain ⟨k, hk, rfl, hBq⟩ := hrel
                        have hsq := hBq.size
                        by_cases hkl : k < rs.length
                        · obtain ⟨g1, gc1, hg1, hgs1, hx1⟩ := row_rec hgot hkl
                          injection hg1 with hg1 _ hg1c
                          subst hg1 hg1c
                          obtain ⟨g2, gc2, hg2, hgs2, hx2⟩ := row_rec hva hkl
                          injection hg2 with hg2 _ hg2c
                          subst hg2 hg2c
                          replace hx1 := hx1.below hBq hgs1
                          replace hx2 := hx2.below hBq hgs2
                          generalize rs[k] = y at hx1 hx2
                          have hk0 : (0 : Int) ≤ (k : Int) := by omega
                          have hk1 : (k : Int) < (rs.length : Int) := by omega
                          go_wp2_with fail
                          refine Gen.start (S := fun w' => Bxo w' g1 (k * 6) y ∧ Bxo w' g2 (k * 6) y) (by kernel_rfl) ⟨hx1, hx2⟩ (fun hHeld => ?_)
                          refine Gen.take (i := 0) (k := 2) (v := ?_) rfl rfl (by kernel_rfl) (by kernel_rfl) (by kernel_rfl) (by kernel_rfl) (by kernel_rfl) (by kernel_rfl) (fun _ _ _ h => h) (Or.inl ⟨by rfl, ?_⟩) hHeld ?_
                          rotate_left
                          · intro w' hSw
                            go_simp
                            try with_reducible rfl
                          simp only [Act.put, List.setIfInBounds_toArray, List.set_cons_zero, List.set_cons_succ]
                          refine Gen.take (i := 1) (k := 2) (v := ?_) rfl rfl (by kernel_rfl) (by kernel_rfl) (by kernel_rfl) (by kernel_rfl) (by kernel_rfl) (by kernel_rfl) (fun _ _ _ h => h) (Or.inl ⟨by rfl, ?_⟩) hHeld ?_
                          rotate_left
                          · intro w' hSw
                            go_simp
                            try with_reducible rfl
                          simp only [Act.put, List.setIfInBounds_toArray, List.set_cons_zero, List.set_cons_succ]
                          refine Gen.take (i := 2) (k := 3) (v := ?_) rfl rfl (by kernel_rfl) (by kernel_rfl) (by kernel_rfl) (by kernel_rfl) (by kernel_rfl) (by kernel_rfl) (fun _ _ _ h => h) (Or.inl ⟨by rfl, ?_⟩) hHeld ?_
                          rotate_left
                          · intro w' hSw
                            go_simp
                            try with_reducible rfl
                          simp only [Act.put, List.setIfInBounds_toArray, List.set_cons_zero, List.set_cons_succ]
                          refine Gen.take (i := 3) (k := 4) (v := ?_) rfl rfl (by kernel_rfl) (by kernel_rfl) (by kernel_rfl) (by kernel_rfl) (by kernel_rfl) (by kernel_rfl) (fun _ _ _ h => h) (Or.inl ⟨by rfl, ?_⟩) hHeld ?_
                          rotate_left
                          · intro w' hSw
                            obtain ⟨⟨s0, s1, s2, s3, s4, s5⟩, t0, t1, t2, t3, t4, t5⟩ := hSw
                            go_simp
                            try with_reducible rfl
                          simp only [Act.put, List.setIfInBounds_toArray, List.set_cons_zero, List.set_cons_succ]
                          refine Gen.take (i := 5) (k := 7) (v := ?_) rfl rfl (by kernel_rfl) (by kernel_rfl) (by kernel_rfl) (by kernel_rfl) (by kernel_rfl) (by kernel_rfl) (fun _ _ _ h => h) (Or.inl ⟨by rfl, ?_⟩) hHeld ?_
                          rotate_left
                          · intro w' hSw
                            go_simp
                            try with_reducible rfl
                          simp only [Act.put, List.setIfInBounds_toArray, List.set_cons_zero, List.set_cons_succ]
                          refine Gen.take (i := 6) (k := 7) (v := ?_) rfl rfl (by kernel_rfl) (by kernel_rfl) (by kernel_rfl) (by kernel_rfl) (by kernel_rfl) (by kernel_rfl) (fun _ _ _ h => h) (Or.inl ⟨by rfl, ?_⟩) hHeld ?_
                          rotate_left
                          · intro w' hSw
                            go_simp
                            try with_reducible rfl
                          simp only [Act.put, List.setIfInBounds_toArray, List.set_cons_zero, List.set_cons_succ]
                          refine Gen.take (i := 7) (k := 8) (v := ?_) rfl rfl (by kernel_rfl) (by kernel_rfl) (by kernel_rfl) (by kernel_rfl) (by kernel_rfl) (by kernel_rfl) (fun _ _ _ h => h) (Or.inl ⟨by rfl, ?_⟩) hHeld ?_
                          rotate_left
                          · intro w' hSw
                            go_simp
                            try with_reducible rfl
                          simp only [Act.put, List.setIfInBounds_toArray, List.set_cons_zero, List.set_cons_succ]
                          refine Gen.take (i := 8) (k := 9) (v := ?_) rfl rfl (by kernel_rfl) (by kernel_rfl) (by kernel_rfl) (by kernel_rfl) (by kernel_rfl) (by kernel_rfl) (fun _ _ _ h => h) (Or.inl ⟨by rfl, ?_⟩) hHeld ?_
                          rotate_left
                          · intro w' hSw
                            obtain ⟨⟨s0, s1, s2, s3, s4, s5⟩, t0, t1, t2, t3, t4, t5⟩ := hSw
                            go_simp
                            try with_reducible rfl
                          simp only [Act.put, List.setIfInBounds_toArray, List.set_cons_zero, List.set_cons_succ]
                          refine Gen.one (i := 4) (by kernel_rfl) rfl rfl (fun K hK => ?_)
                          go_simp
                          refine (recorded_any y _).mono ?_
                          rintro e w7 ⟨rfl, hb7⟩
                          dsimp only
                          have hb7' : Below wr.heap.size wr w7 := ⟨hb7.os, hb7.tape, hb7.output, hb7.size, hb7.block⟩
                          refine hK.out _ _ ⟨hx1.below hb7' (by omega), hx2.below hb7' (by omega)⟩ (fun hHeld => ?_)
                          clear hK K
                          try simp only [Act.put, List.setIfInBounds_toArray, List.set_cons_zero, List.set_cons_succ]
                          refine Gen.last (i := 9) (by kernel_rfl) rfl rfl (by kernel_rfl) (by kernel_rfl) (fun K hK => ?_)
                          go_simp
                          refine hK.out _ _ ?_
                          clear hK K hHeld
                          have hBn := hBq.trans (hb7'.mono hsq)
                          go_wp2_with fail
                          exact ⟨⟨k + 1, by omega, by go_num, hBn⟩, by simp [intOf]; omega⟩
                        · have hSf := hSz.other hBq
                          go_wp2_with fail
                          exact ⟨⟨j + 1, by omega, by go_num, rs, f, l, false, _, l', hSf, rfl, rfl, hfl, rfl, rfl⟩, by simp [intOf]; omega⟩
                  · have hroom : rs.length < 200 := by have := hS.disk.len; omega
                    cases hff : f with
                    | true =>
                      subst hff
                      obtain ⟨hll, hl0, hl1⟩ := hfl rfl
                      subst hll
                      by_cases hlz : l' = 0
                      · subst hlz
                        as_aux_lemma =>
                          obtain ⟨aa, ac, hvaeq, _, _⟩ := row_shape hS.all
                          subst hvaeq
                          have h200 : (rs.length : Int) < 200 := by omega
                          go_wp2_with fail
                          have hSy := hSx (.cells #[.int .i64 0, .int .i64 xn, .int .i64 torn, .int .i64 r.c, .int .i64 r.n, .int .i64 r.o, .int .i64 r.v, .string r.d, .int .i64 r.e] 79)
                          have hgy : Bare.Laid (wr.alloc (.cells #[.int .i64 0, .int .i64 xn, .int .i64 torn, .int .i64 r.c, .int .i64 r.n, .int .i64 r.o, .int .i64 r.v, .string r.d, .int .i64 r.e] 79)) := hgr.below (hbx _) (by omega)
                          have hBx := PBx.made wr 0 xn torn r
                          have hzy : wr.heap.size < (wr.alloc (.cells #[.int .i64 0, .int .i64 xn, .int .i64 torn, .int .i64 r.c, .int .i64 r.n, .int .i64 r.o, .int .i64 r.v, .string r.d, .int .i64 r.e] 79)).heap.size := by simp
                          generalize wr.alloc (.cells #[.int .i64 0, .int .i64 xn, .int .i64 torn, .int .i64 r.c, .int .i64 r.n, .int .i64 r.o, .int .i64 r.v, .string r.d, .int .i64 r.e] 79) = wy at *
                          clear hSx hbx hgr c0 c1 c2 c3 c4 c5 c6 c7 c8 hS
                          refine (recorded_any r _).mono ?_
                          rintro e w4 ⟨rfl, hb4⟩
                          go_wp2_with fail
                          refine (ref_any r _ (by omega)).mono ?_
                          rintro e w5 ⟨rfl, hb5⟩
                          have hs4 := hb4.size
                          have hb45 := hb4.trans (hb5.mono hs4)
                          replace hSy := hSy.other hb45
                          have hg5 := hgy.below hb45 (by omega)
                          have hBm := hBx.block (hb45.block _ hBx.lt)
                          clear hb4 hb5 hBx hgy
                          obtain ⟨d0, d1, d2, d3, d4, d5, d6, d7, d8, hPB⟩ := hBm
                          have hs5 := hb45.size
                          clear hb45
                          go_wp2_with fail
                          refine (add_off u w.heap.size rs torn r _ hSy.wal hSy.disk hSy.lt hroom hmay).mono ?_
                          rintro e w6 ⟨rfl, hW6, hD6, hF6⟩
                          obtain ⟨hall6, hB6⟩ := hSy.add hF6
                          have hg6 := hg.below hB6 hpos
                          have hSn : St w rs true 0 true u _ w6 := ⟨hD6, hW6, hSy.lt, hall6, hB6⟩
                          clear hSy hW6 hD6 hF6 hall6
                          go_wp2_with fail
                          refine (Bare.bare_errno 14 14 _ hg6).mono ?_
                          rintro e w7 ⟨rfl, hb7⟩
                          have hSy := hSn.other hb7
                          clear hSn hb7 hg6 hg5 d0 d1 d2 d3 d4 d5 d6 d7 d8 hPB
                          go_wp2_with fail
                          have hlen := hSy.disk.len
                          refine (records_any _ _ rs true _ hSy.wal hlen).mono ?_
                          rintro e w5 ⟨gv, rfl, hgot, hb5⟩
                          have hSz := hSy.other hb5
                          clear hSy hb5
                          obtain ⟨ga, gc, rfl, _, _⟩ := row_shape hgot
                          have hva := hSz.all
                          have hne : ((rs.length : Int) != (rs.length : Int)) = false := by simp
                          have hdd : (true != true) = false := bne_self_eq_false _
                          go_wp2_with fail
                          refine (down_any _ _ rs true _ hSz.wal).mono ?_
                          rintro e w6 ⟨rfl, hw6⟩
                          rw [hw6]
                          clear hw6
                          go_wp2_with fail
                          go_loopw [20] (fun s wr => ∃ k : Nat, k ≤ rs.length ∧ s = .int .i64 k ∧ Below w5.heap.size w5 wr) (fun s _ => rs.length - (intOf s).toNat)
                          case atStart => exact ⟨0, by omega, rfl, Below.refl _ _⟩
                          case round =>
                            obtain ⟨k, hk, rfl, hBq⟩ := hrel
                            have hsq := hBq.size
                            by_cases hkl : k < rs.length
                            · obtain ⟨g1, gc1, hg1, hgs1, hx1⟩ := row_rec hgot hkl
                              injection hg1 with hg1 _ hg1c
                              subst hg1 hg1c
                              obtain ⟨g2, gc2, hg2, hgs2, hx2⟩ := row_rec hva hkl
                              injection hg2 with hg2 _ hg2c
                              subst hg2 hg2c
                              replace hx1 := hx1.below hBq hgs1
                              replace hx2 := hx2.below hBq hgs2
                              generalize rs[k] = y at hx1 hx2
                              have hk0 : (0 : Int) ≤ (k : Int) := by omega
                              have hk1 : (k : Int) < (rs.length : Int) := by omega
                              go_wp2_with fail
                              refine Gen.start (S := fun w' => Bxo w' g1 (k * 6) y ∧ Bxo w' g2 (k * 6) y) (by kernel_rfl) ⟨hx1, hx2⟩ (fun hHeld => ?_)
                              refine Gen.take (i := 0) (k := 2) (v := ?_) rfl rfl (by kernel_rfl) (by kernel_rfl) (by kernel_rfl) (by kernel_rfl) (by kernel_rfl) (by kernel_rfl) (fun _ _ _ h => h) (Or.inl ⟨by rfl, ?_⟩) hHeld ?_
                              rotate_left
                              · intro w' hSw
                                go_simp
                                try with_reducible rfl
                              simp only [Act.put, List.setIfInBounds_toArray, List.set_cons_zero, List.set_cons_succ]
                              refine Gen.take (i := 1) (k := 2) (v := ?_) rfl rfl (by kernel_rfl) (by kernel_rfl) (by kernel_rfl) (by kernel_rfl) (by kernel_rfl) (by kernel_rfl) (fun _ _ _ h => h) (Or.inl ⟨by rfl, ?_⟩) hHeld ?_
                              rotate_left
                              · intro w' hSw
                                go_simp
                                try with_reducible rfl
                              simp only [Act.put, List.setIfInBounds_toArray, List.set_cons_zero, List.set_cons_succ]
                              refine Gen.take (i := 2) (k := 3) (v := ?_) rfl rfl (by kernel_rfl) (by kernel_rfl) (by kernel_rfl) (by kernel_rfl) (by kernel_rfl) (by kernel_rfl) (fun _ _ _ h => h) (Or.inl ⟨by rfl, ?_⟩) hHeld ?_
                              rotate_left
                              · intro w' hSw
                                go_simp
                                try with_reducible rfl
                              simp only [Act.put, List.setIfInBounds_toArray, List.set_cons_zero, List.set_cons_succ]
                              refine Gen.take (i := 3) (k := 4) (v := ?_) rfl rfl (by kernel_rfl) (by kernel_rfl) (by kernel_rfl) (by kernel_rfl) (by kernel_rfl) (by kernel_rfl) (fun _ _ _ h => h) (Or.inl ⟨by rfl, ?_⟩) hHeld ?_
                              rotate_left
                              · intro w' hSw
                                obtain ⟨⟨s0, s1, s2, s3, s4, s5⟩, t0, t1, t2, t3, t4, t5⟩ := hSw
                                go_simp
                                try with_reducible rfl
                              simp only [Act.put, List.setIfInBounds_toArray, List.set_cons_zero, List.set_cons_succ]
                              refine Gen.take (i := 5) (k := 7) (v := ?_) rfl rfl (by kernel_rfl) (by kernel_rfl) (by kernel_rfl) (by kernel_rfl) (by kernel_rfl) (by kernel_rfl) (fun _ _ _ h => h) (Or.inl ⟨by rfl, ?_⟩) hHeld ?_
                              rotate_left
                              · intro w' hSw
                                go_simp
                                try with_reducible rfl
                              simp only [Act.put, List.setIfInBounds_toArray, List.set_cons_zero, List.set_cons_succ]
                              refine Gen.take (i := 6) (k := 7) (v := ?_) rfl rfl (by kernel_rfl) (by kernel_rfl) (by kernel_rfl) (by kernel_rfl) (by kernel_rfl) (by kernel_rfl) (fun _ _ _ h => h) (Or.inl ⟨by rfl, ?_⟩) hHeld ?_
                              rotate_left
                              · intro w' hSw
                                go_simp
                                try with_reducible rfl
                              simp only [Act.put, List.setIfInBounds_toArray, List.set_cons_zero, List.set_cons_succ]
                              refine Gen.take (i := 7) (k := 8) (v := ?_) rfl rfl (by kernel_rfl) (by kernel_rfl) (by kernel_rfl) (by kernel_rfl) (by kernel_rfl) (by kernel_rfl) (fun _ _ _ h => h) (Or.inl ⟨by rfl, ?_⟩) hHeld ?_
                              rotate_left
                              · intro w' hSw
                                go_simp
                                try with_reducible rfl
                              simp only [Act.put, List.setIfInBounds_toArray, List.set_cons_zero, List.set_cons_succ]
                              refine Gen.take (i := 8) (k := 9) (v := ?_) rfl rfl (by kernel_rfl) (by kernel_rfl) (by kernel_rfl) (by kernel_rfl) (by kernel_rfl) (by kernel_rfl) (fun _ _ _ h => h) (Or.inl ⟨by rfl, ?_⟩) hHeld ?_
                              rotate_left
                              · intro w' hSw
                                obtain ⟨⟨s0, s1, s2, s3, s4, s5⟩, t0, t1, t2, t3, t4, t5⟩ := hSw
                                go_simp
                                try with_reducible rfl
                              simp only [Act.put, List.setIfInBounds_toArray, List.set_cons_zero, List.set_cons_succ]
                              refine Gen.one (i := 4) (by kernel_rfl) rfl rfl (fun K hK => ?_)
                              go_simp
                              refine (recorded_any y _).mono ?_
                              rintro e w7 ⟨rfl, hb7⟩
                              dsimp only
                              have hb7' : Below wr.heap.size wr w7 := ⟨hb7.os, hb7.tape, hb7.output, hb7.size, hb7.block⟩
                              refine hK.out _ _ ⟨hx1.below hb7' (by omega), hx2.below hb7' (by omega)⟩ (fun hHeld => ?_)
                              clear hK K
                              try simp only [Act.put, List.setIfInBounds_toArray, List.set_cons_zero, List.set_cons_succ]
                              refine Gen.last (i := 9) (by kernel_rfl) rfl rfl (by kernel_rfl) (by kernel_rfl) (fun K hK => ?_)
                              go_simp
                              refine hK.out _ _ ?_
                              clear hK K hHeld
                              have hBn := hBq.trans (hb7'.mono hsq)
                              go_wp2_with fail
                              exact ⟨⟨k + 1, by omega, by go_num, hBn⟩, by simp [intOf]; omega⟩
                            · have hSf := hSz.other hBq
                              go_wp2_with fail
                              exact ⟨⟨j + 1, by omega, by go_num, rs, true, 0, true, _, 0, hSf, rfl, rfl, (fun _ => ⟨rfl, by omega, by omega⟩), rfl, rfl⟩, by simp [intOf]; omega⟩
                      ·
                        as_aux_lemma =>
                          obtain ⟨aa, ac, hvaeq, _, _⟩ := row_shape hS.all
                          subst hvaeq
                          have h200 : (rs.length : Int) < 200 := by omega
                          have hpb : (l' == 0) = false := by simp [hlz]
                          go_wp2_with fail
                          have hSy := hSx (.cells #[.int .i64 0, .int .i64 xn, .int .i64 torn, .int .i64 r.c, .int .i64 r.n, .int .i64 r.o, .int .i64 r.v, .string r.d, .int .i64 r.e] 79)
                          have hgy : Bare.Laid (wr.alloc (.cells #[.int .i64 0, .int .i64 xn, .int .i64 torn, .int .i64 r.c, .int .i64 r.n, .int .i64 r.o, .int .i64 r.v, .string r.d, .int .i64 r.e] 79)) := hgr.below (hbx _) (by omega)
                          have hBx := PBx.made wr 0 xn torn r
                          have hzy : wr.heap.size < (wr.alloc (.cells #[.int .i64 0, .int .i64 xn, .int .i64 torn, .int .i64 r.c, .int .i64 r.n, .int .i64 r.o, .int .i64 r.v, .string r.d, .int .i64 r.e] 79)).heap.size := by simp
                          generalize wr.alloc (.cells #[.int .i64 0, .int .i64 xn, .int .i64 torn, .int .i64 r.c, .int .i64 r.n, .int .i64 r.o, .int .i64 r.v, .string r.d, .int .i64 r.e] 79) = wy at *
                          clear hSx hbx hgr c0 c1 c2 c3 c4 c5 c6 c7 c8 hS
                          refine (recorded_any r _).mono ?_
                          rintro e w4 ⟨rfl, hb4⟩
                          go_wp2_with fail
                          refine (ref_any r _ (by omega)).mono ?_
                          rintro e w5 ⟨rfl, hb5⟩
                          have hs4 := hb4.size
                          have hb45 := hb4.trans (hb5.mono hs4)
                          replace hSy := hSy.other hb45
                          have hg5 := hgy.below hb45 (by omega)
                          have hBm := hBx.block (hb45.block _ hBx.lt)
                          clear hb4 hb5 hBx hgy
                          obtain ⟨d0, d1, d2, d3, d4, d5, d6, d7, d8, hPB⟩ := hBm
                          have hs5 := hb45.size
                          clear hb45
                          go_wp2_with fail
                          refine (recorded_any r _).mono ?_
                          rintro e w6 ⟨rfl, hb6⟩
                          have hSm := hSy.other hb6
                          have hPB6 : PB w6 wr.heap.size 0 xn torn r := (hb6.block _ (by omega)).trans hPB
                          have hva6 := hSm.all
                          obtain ⟨i0, hi, hy0, hy1, hy2⟩ := info_parts info_ref
                          have e3 : rs.length + 1 ≤ maxLen := by unfold maxLen; omega
                          have e4 : (rs.length + 1) * 56 ≤ 140737488355328 := by omega
                          have hsm := hSm.size
                          clear hb6 hSy d0 d1 d2 d3 d4 d5 d6 d7 d8 hPB
                          go_wp2_with (first | refine wpList_oneRef rfl 101 rfl r rfl ?_ | (at_builtin; refine wpList_append_own _ rfl _ _ 72 rfl (w.heap.size + 1) 77 i0 (.agg #[.int .i64 0, .int .i64 0, .int .i64 0, .int .i64 0, .string ⟨#[]⟩, .int .i64 0]) 6 56 Tryd.underlying72 hi hy0 hy1 hy2 rfl (by decide) _ _ _ rfl (hva6.alloc _) ⟨w6.heap.size, 0, none⟩ 1 1 r.cells rfl rfl (ref_made w6 r) r.cells_one e3 e4 ?r5 ?_))
                          case r5 => simp; omega
                          intro v7 w7 hown7 hg7 _
                          rw [← rcells_snoc] at hown7
                          obtain ⟨a7, c7, rfl, _, _⟩ := row_shape hown7
                          obtain ⟨hD7, hW7, hB7, hk7⟩ := hSm.pre hg7
                          have hlt7 := hSm.lt
                          have hP7 : PB w7 wr.heap.size 0 xn torn r := (hk7 _ _ _ _ hPB6 (by decide)).trans hPB6
                          obtain ⟨d0, d1, d2, d3, d4, d5, d6, d7, d8, _⟩ := hP7.cells
                          clear hSm hg7 hk7 hPB6 hva6 hP7
                          go_wp2_with fail
                          refine (add_cut u w.heap.size rs l' torn r _ hW7 hD7 hlt7 hroom hmay (by omega) hl1).mono ?_
                          rintro e w8 ⟨rfl, hW8, hD8, hF8⟩
                          have hs7 := hW7.lt
                          have hall8 := hF8.all (by omega) hW7.typ hown7
                          have hB8 := hB7.trans (hF8.below (by omega) hlt7)
                          have hSy : St w (rs ++ [r]) true (l' - 1) false u (.slice a7 (rs.length + 1) c7) w8 := ⟨hD8, hW8, hlt7, by rw [List.length_append, List.length_singleton]; exact hall8, hB8⟩
                          clear hW8 hD8 hF8 hall8 hB8 hW7 hD7 hB7 hown7 d0 d1 d2 d3 d4 d5 d6 d7 d8
                          go_wp2_with fail
                          refine (Bare.bare_nil 0 _).mono ?_
                          rintro e wv ⟨rfl, hwv⟩
                          rw [hwv]
                          clear hwv
                          have hrl : (rs ++ [r]).length = rs.length + 1 := by simp
                          generalize rs ++ [r] = rn at *
                          rw [← hrl] at hSy ⊢
                          have hrn : rn.length ≤ 200 := by omega
                          clear hrl
                          go_wp2_with fail
                          have hlen := hSy.disk.len
                          refine (records_any _ _ rn false _ hSy.wal hlen).mono ?_
                          rintro e w5 ⟨gv, rfl, hgot, hb5⟩
                          have hSz := hSy.other hb5
                          clear hSy hb5
                          obtain ⟨ga, gc, rfl, _, _⟩ := row_shape hgot
                          have hva := hSz.all
                          have hne : ((rn.length : Int) != (rn.length : Int)) = false := by simp
                          have hdd : (false != false) = false := bne_self_eq_false _
                          go_wp2_with fail
                          refine (down_any _ _ rn false _ hSz.wal).mono ?_
                          rintro e w6 ⟨rfl, hw6⟩
                          rw [hw6]
                          clear hw6
                          go_wp2_with fail
                          go_loopw [20] (fun s wr => ∃ k : Nat, k ≤ rn.length ∧ s = .int .i64 k ∧ Below w5.heap.size w5 wr) (fun s _ => rn.length - (intOf s).toNat)
                          case atStart => exact ⟨0, by omega, rfl, Below.refl _ _⟩
                          case round =>
                            obtain ⟨k, hk, rfl, hBq⟩ := hrel
                            have hsq := hBq.size
                            by_cases hkl : k < rn.length
                            · obtain ⟨g1, gc1, hg1, hgs1, hx1⟩ := row_rec hgot hkl
                              injection hg1 with hg1 _ hg1c
                              subst hg1 hg1c
                              obtain ⟨g2, gc2, hg2, hgs2, hx2⟩ := row_rec hva hkl
                              injection hg2 with hg2 _ hg2c
                              subst hg2 hg2c
                              replace hx1 := hx1.below hBq hgs1
                              replace hx2 := hx2.below hBq hgs2
                              generalize rn[k] = y at hx1 hx2
                              have hk0 : (0 : Int) ≤ (k : Int) := by omega
                              have hk1 : (k : Int) < (rn.length : Int) := by omega
                              go_wp2_with fail
                              refine Gen.start (S := fun w' => Bxo w' g1 (k * 6) y ∧ Bxo w' g2 (k * 6) y) (by kernel_rfl) ⟨hx1, hx2⟩ (fun hHeld => ?_)
                              refine Gen.take (i := 0) (k := 2) (v := ?_) rfl rfl (by kernel_rfl) (by kernel_rfl) (by kernel_rfl) (by kernel_rfl) (by kernel_rfl) (by kernel_rfl) (fun _ _ _ h => h) (Or.inl ⟨by rfl, ?_⟩) hHeld ?_
                              rotate_left
                              · intro w' hSw
                                go_simp
                                try with_reducible rfl
                              simp only [Act.put, List.setIfInBounds_toArray, List.set_cons_zero, List.set_cons_succ]
                              refine Gen.take (i := 1) (k := 2) (v := ?_) rfl rfl (by kernel_rfl) (by kernel_rfl) (by kernel_rfl) (by kernel_rfl) (by kernel_rfl) (by kernel_rfl) (fun _ _ _ h => h) (Or.inl ⟨by rfl, ?_⟩) hHeld ?_
                              rotate_left
                              · intro w' hSw
                                go_simp
                                try with_reducible rfl
                              simp only [Act.put, List.setIfInBounds_toArray, List.set_cons_zero, List.set_cons_succ]
                              refine Gen.take (i := 2) (k := 3) (v := ?_) rfl rfl (by kernel_rfl) (by kernel_rfl) (by kernel_rfl) (by kernel_rfl) (by kernel_rfl) (by kernel_rfl) (fun _ _ _ h => h) (Or.inl ⟨by rfl, ?_⟩) hHeld ?_
                              rotate_left
                              · intro w' hSw
                                go_simp
                                try with_reducible rfl
                              simp only [Act.put, List.setIfInBounds_toArray, List.set_cons_zero, List.set_cons_succ]
                              refine Gen.take (i := 3) (k := 4) (v := ?_) rfl rfl (by kernel_rfl) (by kernel_rfl) (by kernel_rfl) (by kernel_rfl) (by kernel_rfl) (by kernel_rfl) (fun _ _ _ h => h) (Or.inl ⟨by rfl, ?_⟩) hHeld ?_
                              rotate_left
                              · intro w' hSw
                                obtain ⟨⟨s0, s1, s2, s3, s4, s5⟩, t0, t1, t2, t3, t4, t5⟩ := hSw
                                go_simp
                                try with_reducible rfl
                              simp only [Act.put, List.setIfInBounds_toArray, List.set_cons_zero, List.set_cons_succ]
                              refine Gen.take (i := 5) (k := 7) (v := ?_) rfl rfl (by kernel_rfl) (by kernel_rfl) (by kernel_rfl) (by kernel_rfl) (by kernel_rfl) (by kernel_rfl) (fun _ _ _ h => h) (Or.inl ⟨by rfl, ?_⟩) hHeld ?_
                              rotate_left
                              · intro w' hSw
                                go_simp
                                try with_reducible rfl
                              simp only [Act.put, List.setIfInBounds_toArray, List.set_cons_zero, List.set_cons_succ]
                              refine Gen.take (i := 6) (k := 7) (v := ?_) rfl rfl (by kernel_rfl) (by kernel_rfl) (by kernel_rfl) (by kernel_rfl) (by kernel_rfl) (by kernel_rfl) (fun _ _ _ h => h) (Or.inl ⟨by rfl, ?_⟩) hHeld ?_
                              rotate_left
                              · intro w' hSw
                                go_simp
                                try with_reducible rfl
                              simp only [Act.put, List.setIfInBounds_toArray, List.set_cons_zero, List.set_cons_succ]
                              refine Gen.take (i := 7) (k := 8) (v := ?_) rfl rfl (by kernel_rfl) (by kernel_rfl) (by kernel_rfl) (by kernel_rfl) (by kernel_rfl) (by kernel_rfl) (fun _ _ _ h => h) (Or.inl ⟨by rfl, ?_⟩) hHeld ?_
                              rotate_left
                              · intro w' hSw
                                go_simp
                                try with_reducible rfl
                              simp only [Act.put, List.setIfInBounds_toArray, List.set_cons_zero, List.set_cons_succ]
                              refine Gen.take (i := 8) (k := 9) (v := ?_) rfl rfl (by kernel_rfl) (by kernel_rfl) (by kernel_rfl) (by kernel_rfl) (by kernel_rfl) (by kernel_rfl) (fun _ _ _ h => h) (Or.inl ⟨by rfl, ?_⟩) hHeld ?_
                              rotate_left
                              · intro w' hSw
                                obtain ⟨⟨s0, s1, s2, s3, s4, s5⟩, t0, t1, t2, t3, t4, t5⟩ := hSw
                                go_simp
                                try with_reducible rfl
                              simp only [Act.put, List.setIfInBounds_toArray, List.set_cons_zero, List.set_cons_succ]
                              refine Gen.one (i := 4) (by kernel_rfl) rfl rfl (fun K hK => ?_)
                              go_simp
                              refine (recorded_any y _).mono ?_
                              rintro e w7 ⟨rfl, hb7⟩
                              dsimp only
                              have hb7' : Below wr.heap.size wr w7 := ⟨hb7.os, hb7.tape, hb7.output, hb7.size, hb7.block⟩
                              refine hK.out _ _ ⟨hx1.below hb7' (by omega), hx2.below hb7' (by omega)⟩ (fun hHeld => ?_)
                              clear hK K
                              try simp only [Act.put, List.setIfInBounds_toArray, List.set_cons_zero, List.set_cons_succ]
                              refine Gen.last (i := 9) (by kernel_rfl) rfl rfl (by kernel_rfl) (by kernel_rfl) (fun K hK => ?_)
                              go_simp
                              refine hK.out _ _ ?_
                              clear hK K hHeld
                              have hBn := hBq.trans (hb7'.mono hsq)
                              go_wp2_with fail
                              exact ⟨⟨k + 1, by omega, by go_num, hBn⟩, by simp [intOf]; omega⟩
                            · have hSf := hSz.other hBq
                              go_wp2_with fail
                              exact ⟨⟨j + 1, by omega, by go_num, rn, true, (l'-1), false, _, (l'-1), hSf, rfl, rfl, (fun _ => ⟨rfl, by omega, by omega⟩), rfl, rfl⟩, by simp [intOf]; omega⟩
                    | false =>
                      subst hff
                      as_aux_lemma =>
                        obtain ⟨aa, ac, hvaeq, _, _⟩ := row_shape hS.all
                        subst hvaeq
                        have h200 : (rs.length : Int) < 200 := by omega
                        go_wp2_with fail
                        have hSy := hSx (.cells #[.int .i64 0, .int .i64 xn, .int .i64 torn, .int .i64 r.c, .int .i64 r.n, .int .i64 r.o, .int .i64 r.v, .string r.d, .int .i64 r.e] 79)
                        have hgy : Bare.Laid (wr.alloc (.cells #[.int .i64 0, .int .i64 xn, .int .i64 torn, .int .i64 r.c, .int .i64 r.n, .int .i64 r.o, .int .i64 r.v, .string r.d, .int .i64 r.e] 79)) := hgr.below (hbx _) (by omega)
                        have hBx := PBx.made wr 0 xn torn r
                        have hzy : wr.heap.size < (wr.alloc (.cells #[.int .i64 0, .int .i64 xn, .int .i64 torn, .int .i64 r.c, .int .i64 r.n, .int .i64 r.o, .int .i64 r.v, .string r.d, .int .i64 r.e] 79)).heap.size := by simp
                        generalize wr.alloc (.cells #[.int .i64 0, .int .i64 xn, .int .i64 torn, .int .i64 r.c, .int .i64 r.n, .int .i64 r.o, .int .i64 r.v, .string r.d, .int .i64 r.e] 79) = wy at *
                        clear hSx hbx hgr c0 c1 c2 c3 c4 c5 c6 c7 c8 hS
                        refine (recorded_any r _).mono ?_
                        rintro e w4 ⟨rfl, hb4⟩
                        go_wp2_with fail
                        refine (ref_any r _ (by omega)).mono ?_
                        rintro e w5 ⟨rfl, hb5⟩
                        have hs4 := hb4.size
                        have hb45 := hb4.trans (hb5.mono hs4)
                        replace hSy := hSy.other hb45
                        have hg5 := hgy.below hb45 (by omega)
                        have hBm := hBx.block (hb45.block _ hBx.lt)
                        clear hb4 hb5 hBx hgy
                        obtain ⟨d0, d1, d2, d3, d4, d5, d6, d7, d8, hPB⟩ := hBm
                        have hs5 := hb45.size
                        clear hb45
                        go_wp2_with fail
                        refine (recorded_any r _).mono ?_
                        rintro e w6 ⟨rfl, hb6⟩
                        have hSm := hSy.other hb6
                        have hPB6 : PB w6 wr.heap.size 0 xn torn r := (hb6.block _ (by omega)).trans hPB
                        have hva6 := hSm.all
                        obtain ⟨i0, hi, hy0, hy1, hy2⟩ := info_parts info_ref
                        have e3 : rs.length + 1 ≤ maxLen := by unfold maxLen; omega
                        have e4 : (rs.length + 1) * 56 ≤ 140737488355328 := by omega
                        have hsm := hSm.size
                        clear hb6 hSy d0 d1 d2 d3 d4 d5 d6 d7 d8 hPB
                        go_wp2_with (first | refine wpList_oneRef rfl 101 rfl r rfl ?_ | (at_builtin; refine wpList_append_own _ rfl _ _ 72 rfl (w.heap.size + 1) 77 i0 (.agg #[.int .i64 0, .int .i64 0, .int .i64 0, .int .i64 0, .string ⟨#[]⟩, .int .i64 0]) 6 56 Tryd.underlying72 hi hy0 hy1 hy2 rfl (by decide) _ _ _ rfl (hva6.alloc _) ⟨w6.heap.size, 0, none⟩ 1 1 r.cells rfl rfl (ref_made w6 r) r.cells_one e3 e4 ?r5 ?_))
                        case r5 => simp; omega
                        intro v7 w7 hown7 hg7 _
                        rw [← rcells_snoc] at hown7
                        obtain ⟨a7, c7, rfl, _, _⟩ := row_shape hown7
                        obtain ⟨hD7, hW7, hB7, hk7⟩ := hSm.pre hg7
                        have hlt7 := hSm.lt
                        have hP7 : PB w7 wr.heap.size 0 xn torn r := (hk7 _ _ _ _ hPB6 (by decide)).trans hPB6
                        obtain ⟨d0, d1, d2, d3, d4, d5, d6, d7, d8, _⟩ := hP7.cells
                        clear hSm hg7 hk7 hPB6 hva6 hP7
                        go_wp2_with fail
                        refine (add_free u w.heap.size rs l torn r _ hW7 hD7 hlt7 hroom hmay).mono ?_
                        rintro e w8 ⟨rfl, hW8, hD8, hF8⟩
                        have hs7 := hW7.lt
                        have hall8 := hF8.all (by omega) hW7.typ hown7
                        have hB8 := hB7.trans (hF8.below (by omega) hlt7)
                        have hSy : St w (rs ++ [r]) false l false u (.slice a7 (rs.length + 1) c7) w8 := ⟨hD8, hW8, hlt7, by rw [List.length_append, List.length_singleton]; exact hall8, hB8⟩
                        clear hW8 hD8 hF8 hall8 hB8 hW7 hD7 hB7 hown7 d0 d1 d2 d3 d4 d5 d6 d7 d8
                        go_wp2_with fail
                        refine (Bare.bare_nil 0 _).mono ?_
                        rintro e wv ⟨rfl, hwv⟩
                        rw [hwv]
                        clear hwv
                        have hrl : (rs ++ [r]).length = rs.length + 1 := by simp
                        generalize rs ++ [r] = rn at *
                        rw [← hrl] at hSy ⊢
                        have hrn : rn.length ≤ 200 := by omega
                        clear hrl
                        go_wp2_with fail
                        have hlen := hSy.disk.len
                        refine (records_any _ _ rn false _ hSy.wal hlen).mono ?_
                        rintro e w5 ⟨gv, rfl, hgot, hb5⟩
                        have hSz := hSy.other hb5
                        clear hSy hb5
                        obtain ⟨ga, gc, rfl, _, _⟩ := row_shape hgot
                        have hva := hSz.all
                        have hne : ((rn.length : Int) != (rn.length : Int)) = false := by simp
                        have hdd : (false != false) = false := bne_self_eq_false _
                        go_wp2_with fail
                        refine (down_any _ _ rn false _ hSz.wal).mono ?_
                        rintro e w6 ⟨rfl, hw6⟩
                        rw [hw6]
                        clear hw6
                        go_wp2_with fail
                        go_loopw [20] (fun s wr => ∃ k : Nat, k ≤ rn.length ∧ s = .int .i64 k ∧ Below w5.heap.size w5 wr) (fun s _ => rn.length - (intOf s).toNat)
                        case atStart => exact ⟨0, by omega, rfl, Below.refl _ _⟩
                        case round =>
                          obtain ⟨k, hk, rfl, hBq⟩ := hrel
                          have hsq := hBq.size
                          by_cases hkl : k < rn.length
                          · obtain ⟨g1, gc1, hg1, hgs1, hx1⟩ := row_rec hgot hkl
                            injection hg1 with hg1 _ hg1c
                            subst hg1 hg1c
                            obtain ⟨g2, gc2, hg2, hgs2, hx2⟩ := row_rec hva hkl
                            injection hg2 with hg2 _ hg2c
                            subst hg2 hg2c
                            replace hx1 := hx1.below hBq hgs1
                            replace hx2 := hx2.below hBq hgs2
                            generalize rn[k] = y at hx1 hx2
                            have hk0 : (0 : Int) ≤ (k : Int) := by omega
                            have hk1 : (k : Int) < (rn.length : Int) := by omega
                            go_wp2_with fail
                            refine Gen.start (S := fun w' => Bxo w' g1 (k * 6) y ∧ Bxo w' g2 (k * 6) y) (by kernel_rfl) ⟨hx1, hx2⟩ (fun hHeld => ?_)
                            refine Gen.take (i := 0) (k := 2) (v := ?_) rfl rfl (by kernel_rfl) (by kernel_rfl) (by kernel_rfl) (by kernel_rfl) (by kernel_rfl) (by kernel_rfl) (fun _ _ _ h => h) (Or.inl ⟨by rfl, ?_⟩) hHeld ?_
                            rotate_left
                            · intro w' hSw
                              go_simp
                              try with_reducible rfl
                            simp only [Act.put, List.setIfInBounds_toArray, List.set_cons_zero, List.set_cons_succ]
                            refine Gen.take (i := 1) (k := 2) (v := ?_) rfl rfl (by kernel_rfl) (by kernel_rfl) (by kernel_rfl) (by kernel_rfl) (by kernel_rfl) (by kernel_rfl) (fun _ _ _ h => h) (Or.inl ⟨by rfl, ?_⟩) hHeld ?_
                            rotate_left
                            · intro w' hSw
                              go_simp
                              try with_reducible rfl
                            simp only [Act.put, List.setIfInBounds_toArray, List.set_cons_zero, List.set_cons_succ]
                            refine Gen.take (i := 2) (k := 3) (v := ?_) rfl rfl (by kernel_rfl) (by kernel_rfl) (by kernel_rfl) (by kernel_rfl) (by kernel_rfl) (by kernel_rfl) (fun _ _ _ h => h) (Or.inl ⟨by rfl, ?_⟩) hHeld ?_
                            rotate_left
                            · intro w' hSw
                              go_simp
                              try with_reducible rfl
                            simp only [Act.put, List.setIfInBounds_toArray, List.set_cons_zero, List.set_cons_succ]
                            refine Gen.take (i := 3) (k := 4) (v := ?_) rfl rfl (by kernel_rfl) (by kernel_rfl) (by kernel_rfl) (by kernel_rfl) (by kernel_rfl) (by kernel_rfl) (fun _ _ _ h => h) (Or.inl ⟨by rfl, ?_⟩) hHeld ?_
                            rotate_left
                            · intro w' hSw
                              obtain ⟨⟨s0, s1, s2, s3, s4, s5⟩, t0, t1, t2, t3, t4, t5⟩ := hSw
                              go_simp
                              try with_reducible rfl
                            simp only [Act.put, List.setIfInBounds_toArray, List.set_cons_zero, List.set_cons_succ]
                            refine Gen.take (i := 5) (k := 7) (v := ?_) rfl rfl (by kernel_rfl) (by kernel_rfl) (by kernel_rfl) (by kernel_rfl) (by kernel_rfl) (by kernel_rfl) (fun _ _ _ h => h) (Or.inl ⟨by rfl, ?_⟩) hHeld ?_
                            rotate_left
                            · intro w' hSw
                              go_simp
                              try with_reducible rfl
                            simp only [Act.put, List.setIfInBounds_toArray, List.set_cons_zero, List.set_cons_succ]
                            refine Gen.take (i := 6) (k := 7) (v := ?_) rfl rfl (by kernel_rfl) (by kernel_rfl) (by kernel_rfl) (by kernel_rfl) (by kernel_rfl) (by kernel_rfl) (fun _ _ _ h => h) (Or.inl ⟨by rfl, ?_⟩) hHeld ?_
                            rotate_left
                            · intro w' hSw
                              go_simp
                              try with_reducible rfl
                            simp only [Act.put, List.setIfInBounds_toArray, List.set_cons_zero, List.set_cons_succ]
                            refine Gen.take (i := 7) (k := 8) (v := ?_) rfl rfl (by kernel_rfl) (by kernel_rfl) (by kernel_rfl) (by kernel_rfl) (by kernel_rfl) (by kernel_rfl) (fun _ _ _ h => h) (Or.inl ⟨by rfl, ?_⟩) hHeld ?_
                            rotate_left
                            · intro w' hSw
                              go_simp
                              try with_reducible rfl
                            simp only [Act.put, List.setIfInBounds_toArray, List.set_cons_zero, List.set_cons_succ]
                            refine Gen.take (i := 8) (k := 9) (v := ?_) rfl rfl (by kernel_rfl) (by kernel_rfl) (by kernel_rfl) (by kernel_rfl) (by kernel_rfl) (by kernel_rfl) (fun _ _ _ h => h) (Or.inl ⟨by rfl, ?_⟩) hHeld ?_
                            rotate_left
                            · intro w' hSw
                              obtain ⟨⟨s0, s1, s2, s3, s4, s5⟩, t0, t1, t2, t3, t4, t5⟩ := hSw
                              go_simp
                              try with_reducible rfl
                            simp only [Act.put, List.setIfInBounds_toArray, List.set_cons_zero, List.set_cons_succ]
                            refine Gen.one (i := 4) (by kernel_rfl) rfl rfl (fun K hK => ?_)
                            go_simp
                            refine (recorded_any y _).mono ?_
                            rintro e w7 ⟨rfl, hb7⟩
                            dsimp only
                            have hb7' : Below wr.heap.size wr w7 := ⟨hb7.os, hb7.tape, hb7.output, hb7.size, hb7.block⟩
                            refine hK.out _ _ ⟨hx1.below hb7' (by omega), hx2.below hb7' (by omega)⟩ (fun hHeld => ?_)
                            clear hK K
                            try simp only [Act.put, List.setIfInBounds_toArray, List.set_cons_zero, List.set_cons_succ]
                            refine Gen.last (i := 9) (by kernel_rfl) rfl rfl (by kernel_rfl) (by kernel_rfl) (fun K hK => ?_)
                            go_simp
                            refine hK.out _ _ ?_
                            clear hK K hHeld
                            have hBn := hBq.trans (hb7'.mono hsq)
                            go_wp2_with fail
                            exact ⟨⟨k + 1, by omega, by go_num, hBn⟩, by simp [intOf]; omega⟩
                          · have hSf := hSz.other hBq
                            go_wp2_with fail
                            exact ⟨⟨j + 1, by omega, by go_num, rn, false, l, false, _, _, hSf, rfl, rfl, (fun h => by cases h), rfl, rfl⟩, by simp [intOf]; omega⟩
            · have w0b : (wh == 0) = false := by simp [w0]
              by_cases w1 : wh = 1
              · subst w1
                by_cases hxn : 0 ≤ xn
                ·
                  as_aux_lemma =>
                    have hd0 : decide (0 ≤ xn) = true := decide_eq_true hxn
                    have hmx : max xn 0 = xn := by omega
                    go_wp2_with fail
                    have hSy := hSx (.cells #[.int .i64 1, .int .i64 xn, .int .i64 torn, .int .i64 r.c, .int .i64 r.n, .int .i64 r.o, .int .i64 r.v, .string r.d, .int .i64 r.e] 79)
                    have hgy : Bare.Laid (wr.alloc (.cells #[.int .i64 1, .int .i64 xn, .int .i64 torn, .int .i64 r.c, .int .i64 r.n, .int .i64 r.o, .int .i64 r.v, .string r.d, .int .i64 r.e] 79)) := hgr.below (hbx _) (by omega)
                    have hBx := PBx.made wr 1 xn torn r
                    have hzy : wr.heap.size < (wr.alloc (.cells #[.int .i64 1, .int .i64 xn, .int .i64 torn, .int .i64 r.c, .int .i64 r.n, .int .i64 r.o, .int .i64 r.v, .string r.d, .int .i64 r.e] 79)).heap.size := by simp
                    generalize wr.alloc (.cells #[.int .i64 1, .int .i64 xn, .int .i64 torn, .int .i64 r.c, .int .i64 r.n, .int .i64 r.o, .int .i64 r.v, .string r.d, .int .i64 r.e] 79) = wy at *
                    clear hSx hbx hgr c0 c1 c2 c3 c4 c5 c6 c7 c8 hS
                    have hBk := hBx
                    obtain ⟨d0, d1, d2, _⟩ := hBx
                    have hsy := hSy.size
                    refine (cut_any w.heap.size rs f l xn _ hSy.disk).mono ?_
                    rintro e w4 ⟨rfl, hD4, hO4⟩
                    have hB4 := hBk.oq hO4 (by omega)
                    rw [hd0, hmx] at hD4
                    replace hSy := hSy.cut hD4 hO4
                    have hs4 := hO4.size
                    clear hD4 hO4
                    obtain ⟨d0, d1, d2, _⟩ := hB4
                    go_wp2_with fail
                    have hlen := hSy.disk.len
                    refine (records_any _ _ rs down _ hSy.wal hlen).mono ?_
                    rintro e w5 ⟨gv, rfl, hgot, hb5⟩
                    have hSz := hSy.other hb5
                    clear hSy hb5
                    obtain ⟨ga, gc, rfl, _, _⟩ := row_shape hgot
                    have hva := hSz.all
                    obtain ⟨aa, ac, rfl, _, _⟩ := row_shape hva
                    have hne : ((rs.length : Int) != (rs.length : Int)) = false := by simp
                    have hdd : (down != down) = false := bne_self_eq_false _
                    go_wp2_with fail
                    refine (down_any _ _ rs down _ hSz.wal).mono ?_
                    rintro e w6 ⟨rfl, hw6⟩
                    rw [hw6]
                    clear hw6
                    go_wp2_with fail
                    go_loopw [20] (fun s wr => ∃ k : Nat, k ≤ rs.length ∧ s = .int .i64 k ∧ Below w5.heap.size w5 wr) (fun s _ => rs.length - (intOf s).toNat)
                    case atStart => exact ⟨0, by omega, rfl, Below.refl _ _⟩
                    case round =>
                      obtain ⟨k, hk, rfl, hBq⟩ := hrel
                      have hsq := hBq.size
                      by_cases hkl : k < rs.length
                      · obtain ⟨g1, gc1, hg1, hgs1, hx1⟩ := row_rec hgot hkl
                        injection hg1 with hg1 _ hg1c
                        subst hg1 hg1c
                        obtain ⟨g2, gc2, hg2, hgs2, hx2⟩ := row_rec hva hkl
                        injection hg2 with hg2 _ hg2c
                        subst hg2 hg2c
                        replace hx1 := hx1.below hBq hgs1
                        replace hx2 := hx2.below hBq hgs2
                        generalize rs[k] = y at hx1 hx2
                        have hk0 : (0 : Int) ≤ (k : Int) := by omega
                        have hk1 : (k : Int) < (rs.length : Int) := by omega
                        go_wp2_with fail
                        refine Gen.start (S := fun w' => Bxo w' g1 (k * 6) y ∧ Bxo w' g2 (k * 6) y) (by kernel_rfl) ⟨hx1, hx2⟩ (fun hHeld => ?_)
                        refine Gen.take (i := 0) (k := 2) (v := ?_) rfl rfl (by kernel_rfl) (by kernel_rfl) (by kernel_rfl) (by kernel_rfl) (by kernel_rfl) (by kernel_rfl) (fun _ _ _ h => h) (Or.inl ⟨by rfl, ?_⟩) hHeld ?_
                        rotate_left
                        · intro w' hSw
                          go_simp
                          try with_reducible rfl
                        simp only [Act.put, List.setIfInBounds_toArray, List.set_cons_zero, List.set_cons_succ]
                        refine Gen.take (i := 1) (k := 2) (v := ?_) rfl rfl (by kernel_rfl) (by kernel_rfl) (by kernel_rfl) (by kernel_rfl) (by kernel_rfl) (by kernel_rfl) (fun _ _ _ h => h) (Or.inl ⟨by rfl, ?_⟩) hHeld ?_
                        rotate_left
                        · intro w' hSw
                          go_simp
                          try with_reducible rfl
                        simp only [Act.put, List.setIfInBounds_toArray, List.set_cons_zero, List.set_cons_succ]
                        refine Gen.take (i := 2) (k := 3) (v := ?_) rfl rfl (by kernel_rfl) (by kernel_rfl) (by kernel_rfl) (by kernel_rfl) (by kernel_rfl) (by kernel_rfl) (fun _ _ _ h => h) (Or.inl ⟨by rfl, ?_⟩) hHeld ?_
                        rotate_left
                        · intro w' hSw
                          go_simp
                          try with_reducible rfl
                        simp only [Act.put, List.setIfInBounds_toArray, List.set_cons_zero, List.set_cons_succ]
                        refine Gen.take (i := 3) (k := 4) (v := ?_) rfl rfl (by kernel_rfl) (by kernel_rfl) (by kernel_rfl) (by kernel_rfl) (by kernel_rfl) (by kernel_rfl) (fun _ _ _ h => h) (Or.inl ⟨by rfl, ?_⟩) hHeld ?_
                        rotate_left
                        · intro w' hSw
                          obtain ⟨⟨s0, s1, s2, s3, s4, s5⟩, t0, t1, t2, t3, t4, t5⟩ := hSw
                          go_simp
                          try with_reducible rfl
                        simp only [Act.put, List.setIfInBounds_toArray, List.set_cons_zero, List.set_cons_succ]
                        refine Gen.take (i := 5) (k := 7) (v := ?_) rfl rfl (by kernel_rfl) (by kernel_rfl) (by kernel_rfl) (by kernel_rfl) (by kernel_rfl) (by kernel_rfl) (fun _ _ _ h => h) (Or.inl ⟨by rfl, ?_⟩) hHeld ?_
                        rotate_left
                        · intro w' hSw
                          go_simp
                          try with_reducible rfl
                        simp only [Act.put, List.setIfInBounds_toArray, List.set_cons_zero, List.set_cons_succ]
                        refine Gen.take (i := 6) (k := 7) (v := ?_) rfl rfl (by kernel_rfl) (by kernel_rfl) (by kernel_rfl) (by kernel_rfl) (by kernel_rfl) (by kernel_rfl) (fun _ _ _ h => h) (Or.inl ⟨by rfl, ?_⟩) hHeld ?_
                        rotate_left
                        · intro w' hSw
                          go_simp
                          try with_reducible rfl
                        simp only [Act.put, List.setIfInBounds_toArray, List.set_cons_zero, List.set_cons_succ]
                        refine Gen.take (i := 7) (k := 8) (v := ?_) rfl rfl (by kernel_rfl) (by kernel_rfl) (by kernel_rfl) (by kernel_rfl) (by kernel_rfl) (by kernel_rfl) (fun _ _ _ h => h) (Or.inl ⟨by rfl, ?_⟩) hHeld ?_
                        rotate_left
                        · intro w' hSw
                          go_simp
                          try with_reducible rfl
                        simp only [Act.put, List.setIfInBounds_toArray, List.set_cons_zero, List.set_cons_succ]
                        refine Gen.take (i := 8) (k := 9) (v := ?_) rfl rfl (by kernel_rfl) (by kernel_rfl) (by kernel_rfl) (by kernel_rfl) (by kernel_rfl) (by kernel_rfl) (fun _ _ _ h => h) (Or.inl ⟨by rfl, ?_⟩) hHeld ?_
                        rotate_left
                        · intro w' hSw
                          obtain ⟨⟨s0, s1, s2, s3, s4, s5⟩, t0, t1, t2, t3, t4, t5⟩ := hSw
                          go_simp
                          try with_reducible rfl
                        simp only [Act.put, List.setIfInBounds_toArray, List.set_cons_zero, List.set_cons_succ]
                        refine Gen.one (i := 4) (by kernel_rfl) rfl rfl (fun K hK => ?_)
                        go_simp
                        refine (recorded_any y _).mono ?_
                        rintro e w7 ⟨rfl, hb7⟩
                        dsimp only
                        have hb7' : Below wr.heap.size wr w7 := ⟨hb7.os, hb7.tape, hb7.output, hb7.size, hb7.block⟩
                        refine hK.out _ _ ⟨hx1.below hb7' (by omega), hx2.below hb7' (by omega)⟩ (fun hHeld => ?_)
                        clear hK K
                        try simp only [Act.put, List.setIfInBounds_toArray, List.set_cons_zero, List.set_cons_succ]
                        refine Gen.last (i := 9) (by kernel_rfl) rfl rfl (by kernel_rfl) (by kernel_rfl) (fun K hK => ?_)
                        go_simp
                        refine hK.out _ _ ?_
                        clear hK K hHeld
                        have hBn := hBq.trans (hb7'.mono hsq)
                        go_wp2_with fail
                        exact ⟨⟨k + 1, by omega, by go_num, hBn⟩, by simp [intOf]; omega⟩
                      · have hSf := hSz.other hBq
                        go_wp2_with fail
                        exact ⟨⟨j + 1, by omega, by go_num, rs, true, xn, down, _, xn, hSf, rfl, rfl, (fun _ => ⟨rfl, hxn, hnm⟩), rfl, rfl⟩, by simp [intOf]; omega⟩
                ·
                  as_aux_lemma =>
                    have hd0 : decide (0 ≤ xn) = false := decide_eq_false hxn
                    have hmx : max xn 0 = 0 := by omega
                    go_wp2_with fail
                    have hSy := hSx (.cells #[.int .i64 1, .int .i64 xn, .int .i64 torn, .int .i64 r.c, .int .i64 r.n, .int .i64 r.o, .int .i64 r.v, .string r.d, .int .i64 r.e] 79)
                    have hgy : Bare.Laid (wr.alloc (.cells #[.int .i64 1, .int .i64 xn, .int .i64 torn, .int .i64 r.c, .int .i64 r.n, .int .i64 r.o, .int .i64 r.v, .string r.d, .int .i64 r.e] 79)) := hgr.below (hbx _) (by omega)
                    have hBx := PBx.made wr 1 xn torn r
                    have hzy : wr.heap.size < (wr.alloc (.cells #[.int .i64 1, .int .i64 xn, .int .i64 torn, .int .i64 r.c, .int .i64 r.n, .int .i64 r.o, .int .i64 r.v, .string r.d, .int .i64 r.e] 79)).heap.size := by simp
                    generalize wr.alloc (.cells #[.int .i64 1, .int .i64 xn, .int .i64 torn, .int .i64 r.c, .int .i64 r.n, .int .i64 r.o, .int .i64 r.v, .string r.d, .int .i64 r.e] 79) = wy at *
                    clear hSx hbx hgr c0 c1 c2 c3 c4 c5 c6 c7 c8 hS
                    have hBk := hBx
                    obtain ⟨d0, d1, d2, _⟩ := hBx
                    have hsy := hSy.size
                    refine (cut_any w.heap.size rs f l xn _ hSy.disk).mono ?_
                    rintro e w4 ⟨rfl, hD4, hO4⟩
                    have hB4 := hBk.oq hO4 (by omega)
                    rw [hd0, hmx] at hD4
                    replace hSy := hSy.cut hD4 hO4
                    have hs4 := hO4.size
                    clear hD4 hO4
                    obtain ⟨d0, d1, d2, _⟩ := hB4
                    go_wp2_with fail
                    have hlen := hSy.disk.len
                    refine (records_any _ _ rs down _ hSy.wal hlen).mono ?_
                    rintro e w5 ⟨gv, rfl, hgot, hb5⟩
                    have hSz := hSy.other hb5
                    clear hSy hb5
                    obtain ⟨ga, gc, rfl, _, _⟩ := row_shape hgot
                    have hva := hSz.all
                    obtain ⟨aa, ac, rfl, _, _⟩ := row_shape hva
                    have hne : ((rs.length : Int) != (rs.length : Int)) = false := by simp
                    have hdd : (down != down) = false := bne_self_eq_false _
                    go_wp2_with fail
                    refine (down_any _ _ rs down _ hSz.wal).mono ?_
                    rintro e w6 ⟨rfl, hw6⟩
                    rw [hw6]
                    clear hw6
                    go_wp2_with fail
                    go_loopw [20] (fun s wr => ∃ k : Nat, k ≤ rs.length ∧ s = .int .i64 k ∧ Below w5.heap.size w5 wr) (fun s _ => rs.length - (intOf s).toNat)
                    case atStart => exact ⟨0, by omega, rfl, Below.refl _ _⟩
                    case round =>
                      obtain ⟨k, hk, rfl, hBq⟩ := hrel
                      have hsq := hBq.size
                      by_cases hkl : k < rs.length
                      · obtain ⟨g1, gc1, hg1, hgs1, hx1⟩ := row_rec hgot hkl
                        injection hg1 with hg1 _ hg1c
                        subst hg1 hg1c
                        obtain ⟨g2, gc2, hg2, hgs2, hx2⟩ := row_rec hva hkl
                        injection hg2 with hg2 _ hg2c
                        subst hg2 hg2c
                        replace hx1 := hx1.below hBq hgs1
                        replace hx2 := hx2.below hBq hgs2
                        generalize rs[k] = y at hx1 hx2
                        have hk0 : (0 : Int) ≤ (k : Int) := by omega
                        have hk1 : (k : Int) < (rs.length : Int) := by omega
                        go_wp2_with fail
                        refine Gen.start (S := fun w' => Bxo w' g1 (k * 6) y ∧ Bxo w' g2 (k * 6) y) (by kernel_rfl) ⟨hx1, hx2⟩ (fun hHeld => ?_)
                        refine Gen.take (i := 0) (k := 2) (v := ?_) rfl rfl (by kernel_rfl) (by kernel_rfl) (by kernel_rfl) (by kernel_rfl) (by kernel_rfl) (by kernel_rfl) (fun _ _ _ h => h) (Or.inl ⟨by rfl, ?_⟩) hHeld ?_
                        rotate_left
                        · intro w' hSw
                          go_simp
                          try with_reducible rfl
                        simp only [Act.put, List.setIfInBounds_toArray, List.set_cons_zero, List.set_cons_succ]
                        refine Gen.take (i := 1) (k := 2) (v := ?_) rfl rfl (by kernel_rfl) (by kernel_rfl) (by kernel_rfl) (by kernel_rfl) (by kernel_rfl) (by kernel_rfl) (fun _ _ _ h => h) (Or.inl ⟨by rfl, ?_⟩) hHeld ?_
                        rotate_left
                        · intro w' hSw
                          go_simp
                          try with_reducible rfl
                        simp only [Act.put, List.setIfInBounds_toArray, List.set_cons_zero, List.set_cons_succ]
                        refine Gen.take (i := 2) (k := 3) (v := ?_) rfl rfl (by kernel_rfl) (by kernel_rfl) (by kernel_rfl) (by kernel_rfl) (by kernel_rfl) (by kernel_rfl) (fun _ _ _ h => h) (Or.inl ⟨by rfl, ?_⟩) hHeld ?_
                        rotate_left
                        · intro w' hSw
                          go_simp
                          try with_reducible rfl
                        simp only [Act.put, List.setIfInBounds_toArray, List.set_cons_zero, List.set_cons_succ]
                        refine Gen.take (i := 3) (k := 4) (v := ?_) rfl rfl (by kernel_rfl) (by kernel_rfl) (by kernel_rfl) (by kernel_rfl) (by kernel_rfl) (by kernel_rfl) (fun _ _ _ h => h) (Or.inl ⟨by rfl, ?_⟩) hHeld ?_
                        rotate_left
                        · intro w' hSw
                          obtain ⟨⟨s0, s1, s2, s3, s4, s5⟩, t0, t1, t2, t3, t4, t5⟩ := hSw
                          go_simp
                          try with_reducible rfl
                        simp only [Act.put, List.setIfInBounds_toArray, List.set_cons_zero, List.set_cons_succ]
                        refine Gen.take (i := 5) (k := 7) (v := ?_) rfl rfl (by kernel_rfl) (by kernel_rfl) (by kernel_rfl) (by kernel_rfl) (by kernel_rfl) (by kernel_rfl) (fun _ _ _ h => h) (Or.inl ⟨by rfl, ?_⟩) hHeld ?_
                        rotate_left
                        · intro w' hSw
                          go_simp
                          try with_reducible rfl
                        simp only [Act.put, List.setIfInBounds_toArray, List.set_cons_zero, List.set_cons_succ]
                        refine Gen.take (i := 6) (k := 7) (v := ?_) rfl rfl (by kernel_rfl) (by kernel_rfl) (by kernel_rfl) (by kernel_rfl) (by kernel_rfl) (by kernel_rfl) (fun _ _ _ h => h) (Or.inl ⟨by rfl, ?_⟩) hHeld ?_
                        rotate_left
                        · intro w' hSw
                          go_simp
                          try with_reducible rfl
                        simp only [Act.put, List.setIfInBounds_toArray, List.set_cons_zero, List.set_cons_succ]
                        refine Gen.take (i := 7) (k := 8) (v := ?_) rfl rfl (by kernel_rfl) (by kernel_rfl) (by kernel_rfl) (by kernel_rfl) (by kernel_rfl) (by kernel_rfl) (fun _ _ _ h => h) (Or.inl ⟨by rfl, ?_⟩) hHeld ?_
                        rotate_left
                        · intro w' hSw
                          go_simp
                          try with_reducible rfl
                        simp only [Act.put, List.setIfInBounds_toArray, List.set_cons_zero, List.set_cons_succ]
                        refine Gen.take (i := 8) (k := 9) (v := ?_) rfl rfl (by kernel_rfl) (by kernel_rfl) (by kernel_rfl) (by kernel_rfl) (by kernel_rfl) (by kernel_rfl) (fun _ _ _ h => h) (Or.inl ⟨by rfl, ?_⟩) hHeld ?_
                        rotate_left
                        · intro w' hSw
                          obtain ⟨⟨s0, s1, s2, s3, s4, s5⟩, t0, t1, t2, t3, t4, t5⟩ := hSw
                          go_simp
                          try with_reducible rfl
                        simp only [Act.put, List.setIfInBounds_toArray, List.set_cons_zero, List.set_cons_succ]
                        refine Gen.one (i := 4) (by kernel_rfl) rfl rfl (fun K hK => ?_)
                        go_simp
                        refine (recorded_any y _).mono ?_
                        rintro e w7 ⟨rfl, hb7⟩
                        dsimp only
                        have hb7' : Below wr.heap.size wr w7 := ⟨hb7.os, hb7.tape, hb7.output, hb7.size, hb7.block⟩
                        refine hK.out _ _ ⟨hx1.below hb7' (by omega), hx2.below hb7' (by omega)⟩ (fun hHeld => ?_)
                        clear hK K
                        try simp only [Act.put, List.setIfInBounds_toArray, List.set_cons_zero, List.set_cons_succ]
                        refine Gen.last (i := 9) (by kernel_rfl) rfl rfl (by kernel_rfl) (by kernel_rfl) (fun K hK => ?_)
                        go_simp
                        refine hK.out _ _ ?_
                        clear hK K hHeld
                        have hBn := hBq.trans (hb7'.mono hsq)
                        go_wp2_with fail
                        exact ⟨⟨k + 1, by omega, by go_num, hBn⟩, by simp [intOf]; omega⟩
                      · have hSf := hSz.other hBq
                        go_wp2_with fail
                        exact ⟨⟨j + 1, by omega, by go_num, rs, false, 0, down, _, xn, hSf, rfl, rfl, (fun h => by cases h), rfl, rfl⟩, by simp [intOf]; omega⟩
              · have w1b : (wh == 1) = false := by simp [w1]
                by_cases w3 : wh = 3
                · subst w3
                  as_aux_lemma =>
                    go_wp2_with fail
                    have hSy := hSx (.cells #[.int .i64 3, .int .i64 xn, .int .i64 torn, .int .i64 r.c, .int .i64 r.n, .int .i64 r.o, .int .i64 r.v, .string r.d, .int .i64 r.e] 79)
                    have hgy : Bare.Laid (wr.alloc (.cells #[.int .i64 3, .int .i64 xn, .int .i64 torn, .int .i64 r.c, .int .i64 r.n, .int .i64 r.o, .int .i64 r.v, .string r.d, .int .i64 r.e] 79)) := hgr.below (hbx _) (by omega)
                    have hBx := PBx.made wr 3 xn torn r
                    have hzy : wr.heap.size < (wr.alloc (.cells #[.int .i64 3, .int .i64 xn, .int .i64 torn, .int .i64 r.c, .int .i64 r.n, .int .i64 r.o, .int .i64 r.v, .string r.d, .int .i64 r.e] 79)).heap.size := by simp
                    generalize wr.alloc (.cells #[.int .i64 3, .int .i64 xn, .int .i64 torn, .int .i64 r.c, .int .i64 r.n, .int .i64 r.o, .int .i64 r.v, .string r.d, .int .i64 r.e] 79) = wy at *
                    clear hSx hbx hgr c0 c1 c2 c3 c4 c5 c6 c7 c8 hS
                    have hBk := hBx
                    obtain ⟨d0, d1, d2, _⟩ := hBx
                    have hsy := hSy.size
                    refine (cut_any w.heap.size rs f l (-1) _ hSy.disk).mono ?_
                    rintro e w4 ⟨rfl, hD4, hO4⟩
                    have hB4 := hBk.oq hO4 (by omega)
                    rw [show decide (0 ≤ (-1 : Int)) = false by decide, show max (-1 : Int) 0 = 0 by decide] at hD4
                    replace hSy := hSy.cut hD4 hO4
                    have hs4 := hO4.size
                    clear hD4 hO4
                    obtain ⟨d0, d1, d2, _⟩ := hB4
                    go_wp2_with fail
                    refine (open_any w.heap.size rs false 0 _ hSy.disk (by omega)).mono ?_
                    rintro e w5 ⟨u2, rfl, hW5, hu5, hb5⟩
                    have hsz5 := hSy.size
                    replace hSy : St w rs false 0 false u2 _ w5 := ⟨hSy.disk.below hb5 (by omega), hW5, by omega, row_below hSy.all hb5, hSy.below.trans (hb5.mono (by omega))⟩
                    clear hW5 hb5
                    go_wp2_with fail
                    have hlen := hSy.disk.len
                    refine (records_any _ _ rs false _ hSy.wal hlen).mono ?_
                    rintro e w5 ⟨gv, rfl, hgot, hb5⟩
                    have hSz := hSy.other hb5
                    clear hSy hb5
                    obtain ⟨ga, gc, rfl, _, _⟩ := row_shape hgot
                    have hva := hSz.all
                    obtain ⟨aa, ac, rfl, _, _⟩ := row_shape hva
                    have hne : ((rs.length : Int) != (rs.length : Int)) = false := by simp
                    have hdd : (false != false) = false := bne_self_eq_false _
                    go_wp2_with fail
                    refine (down_any _ _ rs false _ hSz.wal).mono ?_
                    rintro e w6 ⟨rfl, hw6⟩
                    rw [hw6]
                    clear hw6
                    go_wp2_with fail
                    go_loopw [20] (fun s wr => ∃ k : Nat, k ≤ rs.length ∧ s = .int .i64 k ∧ Below w5.heap.size w5 wr) (fun s _ => rs.length - (intOf s).toNat)
                    case atStart => exact ⟨0, by omega, rfl, Below.refl _ _⟩
                    case round =>
                      obtain ⟨k, hk, rfl, hBq⟩ := hrel
                      have hsq := hBq.size
                      by_cases hkl : k < rs.length
                      · obtain ⟨g1, gc1, hg1, hgs1, hx1⟩ := row_rec hgot hkl
                        injection hg1 with hg1 _ hg1c
                        subst hg1 hg1c
                        obtain ⟨g2, gc2, hg2, hgs2, hx2⟩ := row_rec hva hkl
                        injection hg2 with hg2 _ hg2c
                        subst hg2 hg2c
                        replace hx1 := hx1.below hBq hgs1
                        replace hx2 := hx2.below hBq hgs2
                        generalize rs[k] = y at hx1 hx2
                        have hk0 : (0 : Int) ≤ (k : Int) := by omega
                        have hk1 : (k : Int) < (rs.length : Int) := by omega
                        go_wp2_with fail
                        refine Gen.start (S := fun w' => Bxo w' g1 (k * 6) y ∧ Bxo w' g2 (k * 6) y) (by kernel_rfl) ⟨hx1, hx2⟩ (fun hHeld => ?_)
                        refine Gen.take (i := 0) (k := 2) (v := ?_) rfl rfl (by kernel_rfl) (by kernel_rfl) (by kernel_rfl) (by kernel_rfl) (by kernel_rfl) (by kernel_rfl) (fun _ _ _ h => h) (Or.inl ⟨by rfl, ?_⟩) hHeld ?_
                        rotate_left
                        · intro w' hSw
                          go_simp
                          try with_reducible rfl
                        simp only [Act.put, List.setIfInBounds_toArray, List.set_cons_zero, List.set_cons_succ]
                        refine Gen.take (i := 1) (k := 2) (v := ?_) rfl rfl (by kernel_rfl) (by kernel_rfl) (by kernel_rfl) (by kernel_rfl) (by kernel_rfl) (by kernel_rfl) (fun _ _ _ h => h) (Or.inl ⟨by rfl, ?_⟩) hHeld ?_
                        rotate_left
                        · intro w' hSw
                          go_simp
                          try with_reducible rfl
                        simp only [Act.put, List.setIfInBounds_toArray, List.set_cons_zero, List.set_cons_succ]
                        refine Gen.take (i := 2) (k := 3) (v := ?_) rfl rfl (by kernel_rfl) (by kernel_rfl) (by kernel_rfl) (by kernel_rfl) (by kernel_rfl) (by kernel_rfl) (fun _ _ _ h => h) (Or.inl ⟨by rfl, ?_⟩) hHeld ?_
                        rotate_left
                        · intro w' hSw
                          go_simp
                          try with_reducible rfl
                        simp only [Act.put, List.setIfInBounds_toArray, List.set_cons_zero, List.set_cons_succ]
                        refine Gen.take (i := 3) (k := 4) (v := ?_) rfl rfl (by kernel_rfl) (by kernel_rfl) (by kernel_rfl) (by kernel_rfl) (by kernel_rfl) (by kernel_rfl) (fun _ _ _ h => h) (Or.inl ⟨by rfl, ?_⟩) hHeld ?_
                        rotate_left
                        · intro w' hSw
                          obtain ⟨⟨s0, s1, s2, s3, s4, s5⟩, t0, t1, t2, t3, t4, t5⟩ := hSw
                          go_simp
                          try with_reducible rfl
                        simp only [Act.put, List.setIfInBounds_toArray, List.set_cons_zero, List.set_cons_succ]
                        refine Gen.take (i := 5) (k := 7) (v := ?_) rfl rfl (by kernel_rfl) (by kernel_rfl) (by kernel_rfl) (by kernel_rfl) (by kernel_rfl) (by kernel_rfl) (fun _ _ _ h => h) (Or.inl ⟨by rfl, ?_⟩) hHeld ?_
                        rotate_left
                        · intro w' hSw
                          go_simp
                          try with_reducible rfl
                        simp only [Act.put, List.setIfInBounds_toArray, List.set_cons_zero, List.set_cons_succ]
                        refine Gen.take (i := 6) (k := 7) (v := ?_) rfl rfl (by kernel_rfl) (by kernel_rfl) (by kernel_rfl) (by kernel_rfl) (by kernel_rfl) (by kernel_rfl) (fun _ _ _ h => h) (Or.inl ⟨by rfl, ?_⟩) hHeld ?_
                        rotate_left
                        · intro w' hSw
                          go_simp
                          try with_reducible rfl
                        simp only [Act.put, List.setIfInBounds_toArray, List.set_cons_zero, List.set_cons_succ]
                        refine Gen.take (i := 7) (k := 8) (v := ?_) rfl rfl (by kernel_rfl) (by kernel_rfl) (by kernel_rfl) (by kernel_rfl) (by kernel_rfl) (by kernel_rfl) (fun _ _ _ h => h) (Or.inl ⟨by rfl, ?_⟩) hHeld ?_
                        rotate_left
                        · intro w' hSw
                          go_simp
                          try with_reducible rfl
                        simp only [Act.put, List.setIfInBounds_toArray, List.set_cons_zero, List.set_cons_succ]
                        refine Gen.take (i := 8) (k := 9) (v := ?_) rfl rfl (by kernel_rfl) (by kernel_rfl) (by kernel_rfl) (by kernel_rfl) (by kernel_rfl) (by kernel_rfl) (fun _ _ _ h => h) (Or.inl ⟨by rfl, ?_⟩) hHeld ?_
                        rotate_left
                        · intro w' hSw
                          obtain ⟨⟨s0, s1, s2, s3, s4, s5⟩, t0, t1, t2, t3, t4, t5⟩ := hSw
                          go_simp
                          try with_reducible rfl
                        simp only [Act.put, List.setIfInBounds_toArray, List.set_cons_zero, List.set_cons_succ]
                        refine Gen.one (i := 4) (by kernel_rfl) rfl rfl (fun K hK => ?_)
                        go_simp
                        refine (recorded_any y _).mono ?_
                        rintro e w7 ⟨rfl, hb7⟩
                        dsimp only
                        have hb7' : Below wr.heap.size wr w7 := ⟨hb7.os, hb7.tape, hb7.output, hb7.size, hb7.block⟩
                        refine hK.out _ _ ⟨hx1.below hb7' (by omega), hx2.below hb7' (by omega)⟩ (fun hHeld => ?_)
                        clear hK K
                        try simp only [Act.put, List.setIfInBounds_toArray, List.set_cons_zero, List.set_cons_succ]
                        refine Gen.last (i := 9) (by kernel_rfl) rfl rfl (by kernel_rfl) (by kernel_rfl) (fun K hK => ?_)
                        go_simp
                        refine hK.out _ _ ?_
                        clear hK K hHeld
                        have hBn := hBq.trans (hb7'.mono hsq)
                        go_wp2_with fail
                        exact ⟨⟨k + 1, by omega, by go_num, hBn⟩, by simp [intOf]; omega⟩
                      · have hSf := hSz.other hBq
                        go_wp2_with fail
                        exact ⟨⟨j + 1, by omega, by go_num, rs, false, 0, false, _, (-1), hSf, rfl, rfl, (fun h => by cases h), rfl, rfl⟩, by simp [intOf]; omega⟩
                · have w3b : (wh == 3) = false := by simp [w3]
                  by_cases w2 : wh = 2
                  · subst w2
                    as_aux_lemma =>
                      go_wp2_with fail
                      have hSy := hSx (.cells #[.int .i64 2, .int .i64 xn, .int .i64 torn, .int .i64 r.c, .int .i64 r.n, .int .i64 r.o, .int .i64 r.v, .string r.d, .int .i64 r.e] 79)
                      have hgy : Bare.Laid (wr.alloc (.cells #[.int .i64 2, .int .i64 xn, .int .i64 torn, .int .i64 r.c, .int .i64 r.n, .int .i64 r.o, .int .i64 r.v, .string r.d, .int .i64 r.e] 79)) := hgr.below (hbx _) (by omega)
                      have hBx := PBx.made wr 2 xn torn r
                      have hzy : wr.heap.size < (wr.alloc (.cells #[.int .i64 2, .int .i64 xn, .int .i64 torn, .int .i64 r.c, .int .i64 r.n, .int .i64 r.o, .int .i64 r.v, .string r.d, .int .i64 r.e] 79)).heap.size := by simp
                      generalize wr.alloc (.cells #[.int .i64 2, .int .i64 xn, .int .i64 torn, .int .i64 r.c, .int .i64 r.n, .int .i64 r.o, .int .i64 r.v, .string r.d, .int .i64 r.e] 79) = wy at *
                      clear hSx hbx hgr c0 c1 c2 c3 c4 c5 c6 c7 c8 hS
                      have hsy := hSy.size
                      refine (open_any w.heap.size rs f l _ hSy.disk (by omega)).mono ?_
                      rintro e w4 ⟨u2, rfl, hW4, hu4, hb4⟩
                      replace hSy : St w rs f l false u2 _ w4 := ⟨hSy.disk.below hb4 (by omega), hW4, by omega, row_below hSy.all hb4, hSy.below.trans (hb4.mono (by omega))⟩
                      clear hW4 hb4 hBx hgy hzy
                      go_wp2_with fail
                      have hlen := hSy.disk.len
                      refine (records_any _ _ rs false _ hSy.wal hlen).mono ?_
                      rintro e w5 ⟨gv, rfl, hgot, hb5⟩
                      have hSz := hSy.other hb5
                      clear hSy hb5
                      obtain ⟨ga, gc, rfl, _, _⟩ := row_shape hgot
                      have hva := hSz.all
                      obtain ⟨aa, ac, rfl, _, _⟩ := row_shape hva
                      have hne : ((rs.length : Int) != (rs.length : Int)) = false := by simp
                      have hdd : (false != false) = false := bne_self_eq_false _
                      go_wp2_with fail
                      refine (down_any _ _ rs false _ hSz.wal).mono ?_
                      rintro e w6 ⟨rfl, hw6⟩
                      rw [hw6]
                      clear hw6
                      go_wp2_with fail
                      go_loopw [20] (fun s wr => ∃ k : Nat, k ≤ rs.length ∧ s = .int .i64 k ∧ Below w5.heap.size w5 wr) (fun s _ => rs.length - (intOf s).toNat)
                      case atStart => exact ⟨0, by omega, rfl, Below.refl _ _⟩
                      case round =>
                        obtain ⟨k, hk, rfl, hBq⟩ := hrel
                        have hsq := hBq.size
                        by_cases hkl : k < rs.length
                        · obtain ⟨g1, gc1, hg1, hgs1, hx1⟩ := row_rec hgot hkl
                          injection hg1 with hg1 _ hg1c
                          subst hg1 hg1c
                          obtain ⟨g2, gc2, hg2, hgs2, hx2⟩ := row_rec hva hkl
                          injection hg2 with hg2 _ hg2c
                          subst hg2 hg2c
                          replace hx1 := hx1.below hBq hgs1
                          replace hx2 := hx2.below hBq hgs2
                          generalize rs[k] = y at hx1 hx2
                          have hk0 : (0 : Int) ≤ (k : Int) := by omega
                          have hk1 : (k : Int) < (rs.length : Int) := by omega
                          go_wp2_with fail
                          refine Gen.start (S := fun w' => Bxo w' g1 (k * 6) y ∧ Bxo w' g2 (k * 6) y) (by kernel_rfl) ⟨hx1, hx2⟩ (fun hHeld => ?_)
                          refine Gen.take (i := 0) (k := 2) (v := ?_) rfl rfl (by kernel_rfl) (by kernel_rfl) (by kernel_rfl) (by kernel_rfl) (by kernel_rfl) (by kernel_rfl) (fun _ _ _ h => h) (Or.inl ⟨by rfl, ?_⟩) hHeld ?_
                          rotate_left
                          · intro w' hSw
                            go_simp
                            try with_reducible rfl
                          simp only [Act.put, List.setIfInBounds_toArray, List.set_cons_zero, List.set_cons_succ]
                          refine Gen.take (i := 1) (k := 2) (v := ?_) rfl rfl (by kernel_rfl) (by kernel_rfl) (by kernel_rfl) (by kernel_rfl) (by kernel_rfl) (by kernel_rfl) (fun _ _ _ h => h) (Or.inl ⟨by rfl, ?_⟩) hHeld ?_
                          rotate_left
                          · intro w' hSw
                            go_simp
                            try with_reducible rfl
                          simp only [Act.put, List.setIfInBounds_toArray, List.set_cons_zero, List.set_cons_succ]
                          refine Gen.take (i := 2) (k := 3) (v := ?_) rfl rfl (by kernel_rfl) (by kernel_rfl) (by kernel_rfl) (by kernel_rfl) (by kernel_rfl) (by kernel_rfl) (fun _ _ _ h => h) (Or.inl ⟨by rfl, ?_⟩) hHeld ?_
                          rotate_left
                          · intro w' hSw
                            go_simp
                            try with_reducible rfl
                          simp only [Act.put, List.setIfInBounds_toArray, List.set_cons_zero, List.set_cons_succ]
                          refine Gen.take (i := 3) (k := 4) (v := ?_) rfl rfl (by kernel_rfl) (by kernel_rfl) (by kernel_rfl) (by kernel_rfl) (by kernel_rfl) (by kernel_rfl) (fun _ _ _ h => h) (Or.inl ⟨by rfl, ?_⟩) hHeld ?_
                          rotate_left
                          · intro w' hSw
                            obtain ⟨⟨s0, s1, s2, s3, s4, s5⟩, t0, t1, t2, t3, t4, t5⟩ := hSw
                            go_simp
                            try with_reducible rfl
                          simp only [Act.put, List.setIfInBounds_toArray, List.set_cons_zero, List.set_cons_succ]
                          refine Gen.take (i := 5) (k := 7) (v := ?_) rfl rfl (by kernel_rfl) (by kernel_rfl) (by kernel_rfl) (by kernel_rfl) (by kernel_rfl) (by kernel_rfl) (fun _ _ _ h => h) (Or.inl ⟨by rfl, ?_⟩) hHeld ?_
                          rotate_left
                          · intro w' hSw
                            go_simp
                            try with_reducible rfl
                          simp only [Act.put, List.setIfInBounds_toArray, List.set_cons_zero, List.set_cons_succ]
                          refine Gen.take (i := 6) (k := 7) (v := ?_) rfl rfl (by kernel_rfl) (by kernel_rfl) (by kernel_rfl) (by kernel_rfl) (by kernel_rfl) (by kernel_rfl) (fun _ _ _ h => h) (Or.inl ⟨by rfl, ?_⟩) hHeld ?_
                          rotate_left
                          · intro w' hSw
                            go_simp
                            try with_reducible rfl
                          simp only [Act.put, List.setIfInBounds_toArray, List.set_cons_zero, List.set_cons_succ]
                          refine Gen.take (i := 7) (k := 8) (v := ?_) rfl rfl (by kernel_rfl) (by kernel_rfl) (by kernel_rfl) (by kernel_rfl) (by kernel_rfl) (by kernel_rfl) (fun _ _ _ h => h) (Or.inl ⟨by rfl, ?_⟩) hHeld ?_
                          rotate_left
                          · intro w' hSw
                            go_simp
                            try with_reducible rfl
                          simp only [Act.put, List.setIfInBounds_toArray, List.set_cons_zero, List.set_cons_succ]
                          refine Gen.take (i := 8) (k := 9) (v := ?_) rfl rfl (by kernel_rfl) (by kernel_rfl) (by kernel_rfl) (by kernel_rfl) (by kernel_rfl) (by kernel_rfl) (fun _ _ _ h => h) (Or.inl ⟨by rfl, ?_⟩) hHeld ?_
                          rotate_left
                          · intro w' hSw
                            obtain ⟨⟨s0, s1, s2, s3, s4, s5⟩, t0, t1, t2, t3, t4, t5⟩ := hSw
                            go_simp
                            try with_reducible rfl
                          simp only [Act.put, List.setIfInBounds_toArray, List.set_cons_zero, List.set_cons_succ]
                          refine Gen.one (i := 4) (by kernel_rfl) rfl rfl (fun K hK => ?_)
                          go_simp
                          refine (recorded_any y _).mono ?_
                          rintro e w7 ⟨rfl, hb7⟩
                          dsimp only
                          have hb7' : Below wr.heap.size wr w7 := ⟨hb7.os, hb7.tape, hb7.output, hb7.size, hb7.block⟩
                          refine hK.out _ _ ⟨hx1.below hb7' (by omega), hx2.below hb7' (by omega)⟩ (fun hHeld => ?_)
                          clear hK K
                          try simp only [Act.put, List.setIfInBounds_toArray, List.set_cons_zero, List.set_cons_succ]
                          refine Gen.last (i := 9) (by kernel_rfl) rfl rfl (by kernel_rfl) (by kernel_rfl) (fun K hK => ?_)
                          go_simp
                          refine hK.out _ _ ?_
                          clear hK K hHeld
                          have hBn := hBq.trans (hb7'.mono hsq)
                          go_wp2_with fail
                          exact ⟨⟨k + 1, by omega, by go_num, hBn⟩, by simp [intOf]; omega⟩
                        · have hSf := hSz.other hBq
                          go_wp2_with fail
                          exact ⟨⟨j + 1, by omega, by go_num, rs, f, l, false, _, l', hSf, rfl, rfl, hfl, rfl, rfl⟩, by simp [intOf]; omega⟩
                  · have w2b : (wh == 2) = false := by simp [w2]
                    as_aux_lemma =>
                      go_wp2_with fail
                      have hSy := hSx (.cells #[.int .i64 wh, .int .i64 xn, .int .i64 torn, .int .i64 r.c, .int .i64 r.n, .int .i64 r.o, .int .i64 r.v, .string r.d, .int .i64 r.e] 79)
                      have hgy : Bare.Laid (wr.alloc (.cells #[.int .i64 wh, .int .i64 xn, .int .i64 torn, .int .i64 r.c, .int .i64 r.n, .int .i64 r.o, .int .i64 r.v, .string r.d, .int .i64 r.e] 79)) := hgr.below (hbx _) (by omega)
                      have hBx := PBx.made wr wh xn torn r
                      have hzy : wr.heap.size < (wr.alloc (.cells #[.int .i64 wh, .int .i64 xn, .int .i64 torn, .int .i64 r.c, .int .i64 r.n, .int .i64 r.o, .int .i64 r.v, .string r.d, .int .i64 r.e] 79)).heap.size := by simp
                      generalize wr.alloc (.cells #[.int .i64 wh, .int .i64 xn, .int .i64 torn, .int .i64 r.c, .int .i64 r.n, .int .i64 r.o, .int .i64 r.v, .string r.d, .int .i64 r.e] 79) = wy at *
                      clear hSx hbx hgr c0 c1 c2 c3 c4 c5 c6 c7 c8 hS
                      clear hBx hgy hzy
                      have hlen := hSy.disk.len
                      refine (records_any _ _ rs down _ hSy.wal hlen).mono ?_
                      rintro e w5 ⟨gv, rfl, hgot, hb5⟩
                      have hSz := hSy.other hb5
                      clear hSy hb5
                      obtain ⟨ga, gc, rfl, _, _⟩ := row_shape hgot
                      have hva := hSz.all
                      obtain ⟨aa, ac, rfl, _, _⟩ := row_shape hva
                      have hne : ((rs.length : Int) != (rs.length : Int)) = false := by simp
                      have hdd : (down != down) = false := bne_self_eq_false _
                      go_wp2_with fail
                      refine (down_any _ _ rs down _ hSz.wal).mono ?_
                      rintro e w6 ⟨rfl, hw6⟩
                      rw [hw6]
                      clear hw6
                      go_wp2_with fail
                      go_loopw [20] (fun s wr => ∃ k : Nat, k ≤ rs.length ∧ s = .int .i64 k ∧ Below w5.heap.size w5 wr) (fun s _ => rs.length - (intOf s).toNat)
                      case atStart => exact ⟨0, by omega, rfl, Below.refl _ _⟩
                      case round =>
                        obtain ⟨k, hk, rfl, hBq⟩ := hrel
                        have hsq := hBq.size
                        by_cases hkl : k < rs.length
                        · obtain ⟨g1, gc1, hg1, hgs1, hx1⟩ := row_rec hgot hkl
                          injection hg1 with hg1 _ hg1c
                          subst hg1 hg1c
                          obtain ⟨g2, gc2, hg2, hgs2, hx2⟩ := row_rec hva hkl
                          injection hg2 with hg2 _ hg2c
                          subst hg2 hg2c
                          replace hx1 := hx1.below hBq hgs1
                          replace hx2 := hx2.below hBq hgs2
                          generalize rs[k] = y at hx1 hx2
                          have hk0 : (0 : Int) ≤ (k : Int) := by omega
                          have hk1 : (k : Int) < (rs.length : Int) := by omega
                          go_wp2_with fail
                          refine Gen.start (S := fun w' => Bxo w' g1 (k * 6) y ∧ Bxo w' g2 (k * 6) y) (by kernel_rfl) ⟨hx1, hx2⟩ (fun hHeld => ?_)
                          refine Gen.take (i := 0) (k := 2) (v := ?_) rfl rfl (by kernel_rfl) (by kernel_rfl) (by kernel_rfl) (by kernel_rfl) (by kernel_rfl) (by kernel_rfl) (fun _ _ _ h => h) (Or.inl ⟨by rfl, ?_⟩) hHeld ?_
                          rotate_left
                          · intro w' hSw
                            go_simp
                            try with_reducible rfl
                          simp only [Act.put, List.setIfInBounds_toArray, List.set_cons_zero, List.set_cons_succ]
                          refine Gen.take (i := 1) (k := 2) (v := ?_) rfl rfl (by kernel_rfl) (by kernel_rfl) (by kernel_rfl) (by kernel_rfl) (by kernel_rfl) (by kernel_rfl) (fun _ _ _ h => h) (Or.inl ⟨by rfl, ?_⟩) hHeld ?_
                          rotate_left
                          · intro w' hSw
                            go_simp
                            try with_reducible rfl
                          simp only [Act.put, List.setIfInBounds_toArray, List.set_cons_zero, List.set_cons_succ]
                          refine Gen.take (i := 2) (k := 3) (v := ?_) rfl rfl (by kernel_rfl) (by kernel_rfl) (by kernel_rfl) (by kernel_rfl) (by kernel_rfl) (by kernel_rfl) (fun _ _ _ h => h) (Or.inl ⟨by rfl, ?_⟩) hHeld ?_
                          rotate_left
                          · intro w' hSw
                            go_simp
                            try with_reducible rfl
                          simp only [Act.put, List.setIfInBounds_toArray, List.set_cons_zero, List.set_cons_succ]
                          refine Gen.take (i := 3) (k := 4) (v := ?_) rfl rfl (by kernel_rfl) (by kernel_rfl) (by kernel_rfl) (by kernel_rfl) (by kernel_rfl) (by kernel_rfl) (fun _ _ _ h => h) (Or.inl ⟨by rfl, ?_⟩) hHeld ?_
                          rotate_left
                          · intro w' hSw
                            obtain ⟨⟨s0, s1, s2, s3, s4, s5⟩, t0, t1, t2, t3, t4, t5⟩ := hSw
                            go_simp
                            try with_reducible rfl
                          simp only [Act.put, List.setIfInBounds_toArray, List.set_cons_zero, List.set_cons_succ]
                          refine Gen.take (i := 5) (k := 7) (v := ?_) rfl rfl (by kernel_rfl) (by kernel_rfl) (by kernel_rfl) (by kernel_rfl) (by kernel_rfl) (by kernel_rfl) (fun _ _ _ h => h) (Or.inl ⟨by rfl, ?_⟩) hHeld ?_
                          rotate_left
                          · intro w' hSw
                            go_simp
                            try with_reducible rfl
                          simp only [Act.put, List.setIfInBounds_toArray, List.set_cons_zero, List.set_cons_succ]
                          refine Gen.take (i := 6) (k := 7) (v := ?_) rfl rfl (by kernel_rfl) (by kernel_rfl) (by kernel_rfl) (by kernel_rfl) (by kernel_rfl) (by kernel_rfl) (fun _ _ _ h => h) (Or.inl ⟨by rfl, ?_⟩) hHeld ?_
                          rotate_left
                          · intro w' hSw
                            go_simp
                            try with_reducible rfl
                          simp only [Act.put, List.setIfInBounds_toArray, List.set_cons_zero, List.set_cons_succ]
                          refine Gen.take (i := 7) (k := 8) (v := ?_) rfl rfl (by kernel_rfl) (by kernel_rfl) (by kernel_rfl) (by kernel_rfl) (by kernel_rfl) (by kernel_rfl) (fun _ _ _ h => h) (Or.inl ⟨by rfl, ?_⟩) hHeld ?_
                          rotate_left
                          · intro w' hSw
                            go_simp
                            try with_reducible rfl
                          simp only [Act.put, List.setIfInBounds_toArray, List.set_cons_zero, List.set_cons_succ]
                          refine Gen.take (i := 8) (k := 9) (v := ?_) rfl rfl (by kernel_rfl) (by kernel_rfl) (by kernel_rfl) (by kernel_rfl) (by kernel_rfl) (by kernel_rfl) (fun _ _ _ h => h) (Or.inl ⟨by rfl, ?_⟩) hHeld ?_
                          rotate_left
                          · intro w' hSw
                            obtain ⟨⟨s0, s1, s2, s3, s4, s5⟩, t0, t1, t2, t3, t4, t5⟩ := hSw
                            go_simp
                            try with_reducible rfl
                          simp only [Act.put, List.setIfInBounds_toArray, List.set_cons_zero, List.set_cons_succ]
                          refine Gen.one (i := 4) (by kernel_rfl) rfl rfl (fun K hK => ?_)
                          go_simp
                          refine (recorded_any y _).mono ?_
                          rintro e w7 ⟨rfl, hb7⟩
                          dsimp only
                          have hb7' : Below wr.heap.size wr w7 := ⟨hb7.os, hb7.tape, hb7.output, hb7.size, hb7.block⟩
                          refine hK.out _ _ ⟨hx1.below hb7' (by omega), hx2.below hb7' (by omega)⟩ (fun hHeld => ?_)
                          clear hK K
                          try simp only [Act.put, List.setIfInBounds_toArray, List.set_cons_zero, List.set_cons_succ]
                          refine Gen.last (i := 9) (by kernel_rfl) rfl rfl (by kernel_rfl) (by kernel_rfl) (fun K hK => ?_)
                          go_simp
                          refine hK.out _ _ ?_
                          clear hK K hHeld
                          have hBn := hBq.trans (hb7'.mono hsq)
                          go_wp2_with fail
                          exact ⟨⟨k + 1, by omega, by go_num, hBn⟩, by simp [intOf]; omega⟩
                        · have hSf := hSz.other hBq
                          go_wp2_with fail
                          exact ⟨⟨j + 1, by omega, by go_num, rs, f, l, down, _, l', hSf, rfl, rfl, hfl, rfl, rfl⟩, by simp [intOf]; omega⟩
        · go_wp2_with fail
          go_ret
          exact ⟨rfl, hS.below⟩
end Go.Proofs.YtbebfliimjjohaaDoor.Wal
