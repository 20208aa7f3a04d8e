/-
  The document's own answer: tenureref.Decode, over the turned program.
-/
import Derived.Test.YtbebfliimjjohaaDoorRefd
import Derived.Deep.RegionHeld3
namespace Go.Proofs.YtbebfliimjjohaaDoor.Wire
open Go.RowKit
open Num (inB numB okB M NoMsg Reads Par CutNone strOf)

theorem idx0 (b off n c : Nat) (h : 0 < n) (w : World) : (Instr.indexAt 33 (.slice (some ⟨b, off, none⟩) n c) (.int .i64 0)).run Tryd.prog w = .ok (.pointer (some ⟨b, off, none⟩)) w := by
  have h1 : (0 : Int) < (n : Int) := by omega
  go_simp

theorem below_undrew {w w' : World} (h : Below w.drew.heap.size w.drew w') : Below w.heap.size w w' := ⟨h.os, h.tape, h.output, h.size, h.block⟩

theorem held_start {wr : World} {q b off : Nat} {k0 k1 k2 k3 k4 k5 k6 y : Int} {v : Value} {st : ByteArray} (a0 : wr.cell? ⟨q, 0, none⟩ = some (.int .i64 k0)) (a1 : wr.cell? ⟨q, 1, none⟩ = some (.int .i64 k1)) (a2 : wr.cell? ⟨q, 2, none⟩ = some (.int .i64 k2)) (a3 : wr.cell? ⟨q, 3, none⟩ = some (.int .i64 k3)) (a4 : wr.cell? ⟨q, 4, none⟩ = some (.int .i64 k4)) (a5 : wr.cell? ⟨q, 5, none⟩ = some (.int .i64 k5)) (a6 : wr.cell? ⟨q, 6, none⟩ = some (.int .i64 k6)) (ac : wr.cell? ⟨b, off, none⟩ = some (.int .u8 y)) (hv : (convert 33 9 v).run Tryd.prog wr.drew = .ok (.string st) wr.drew) :
    wr.drew.cell? ⟨q, 0, none⟩ = some (.int .i64 k0) ∧ wr.drew.cell? ⟨q, 1, none⟩ = some (.int .i64 k1) ∧ wr.drew.cell? ⟨q, 2, none⟩ = some (.int .i64 k2) ∧ wr.drew.cell? ⟨q, 3, none⟩ = some (.int .i64 k3) ∧ wr.drew.cell? ⟨q, 4, none⟩ = some (.int .i64 k4) ∧ wr.drew.cell? ⟨q, 5, none⟩ = some (.int .i64 k5) ∧ wr.drew.cell? ⟨q, 6, none⟩ = some (.int .i64 k6) ∧ wr.drew.cell? ⟨b, off, none⟩ = some (.int .u8 y) ∧ (convert 33 9 v).run Tryd.prog wr.drew = .ok (.string st) wr.drew := ⟨a0, a1, a2, a3, a4, a5, a6, ac, hv⟩

theorem held_alloc {wr : World} {o : Obj} {q b off : Nat} {k0 k1 k2 k3 k4 k5 k6 y : Int} {v : Value} {st : ByteArray} (hq : q < wr.heap.size) (hb : b < wr.heap.size) (a0 : wr.cell? ⟨q, 0, none⟩ = some (.int .i64 k0)) (a1 : wr.cell? ⟨q, 1, none⟩ = some (.int .i64 k1)) (a2 : wr.cell? ⟨q, 2, none⟩ = some (.int .i64 k2)) (a3 : wr.cell? ⟨q, 3, none⟩ = some (.int .i64 k3)) (a4 : wr.cell? ⟨q, 4, none⟩ = some (.int .i64 k4)) (a5 : wr.cell? ⟨q, 5, none⟩ = some (.int .i64 k5)) (a6 : wr.cell? ⟨q, 6, none⟩ = some (.int .i64 k6)) (ac : wr.cell? ⟨b, off, none⟩ = some (.int .u8 y)) (hv : (convert 33 9 v).run Tryd.prog (wr.alloc o).drew = .ok (.string st) (wr.alloc o).drew) :
    (wr.alloc o).drew.cell? ⟨q, 0, none⟩ = some (.int .i64 k0) ∧ (wr.alloc o).drew.cell? ⟨q, 1, none⟩ = some (.int .i64 k1) ∧ (wr.alloc o).drew.cell? ⟨q, 2, none⟩ = some (.int .i64 k2) ∧ (wr.alloc o).drew.cell? ⟨q, 3, none⟩ = some (.int .i64 k3) ∧ (wr.alloc o).drew.cell? ⟨q, 4, none⟩ = some (.int .i64 k4) ∧ (wr.alloc o).drew.cell? ⟨q, 5, none⟩ = some (.int .i64 k5) ∧ (wr.alloc o).drew.cell? ⟨q, 6, none⟩ = some (.int .i64 k6) ∧ (wr.alloc o).drew.cell? ⟨b, off, none⟩ = some (.int .u8 y) ∧ (convert 33 9 v).run Tryd.prog (wr.alloc o).drew = .ok (.string st) (wr.alloc o).drew := by
  have hc : ∀ c i, c < wr.heap.size → (wr.alloc o).drew.cell? ⟨c, i, none⟩ = wr.cell? ⟨c, i, none⟩ := fun c i h => World.cell?_alloc_lt wr o ⟨c, i, none⟩ h
  exact ⟨(hc _ _ hq).trans a0, (hc _ _ hq).trans a1, (hc _ _ hq).trans a2, (hc _ _ hq).trans a3, (hc _ _ hq).trans a4, (hc _ _ hq).trans a5, (hc _ _ hq).trans a6, (hc _ _ hb).trans ac, hv⟩

theorem conv_later {wr : World} {o : Obj} {b off cp : Nat} {rest : List Int} (hb : b < wr.heap.size) (hcl : ∀ j, j < rest.length → wr.cell? ⟨b, off + j, none⟩ = some (.int .u8 (rest.getD j 0))) :
    (convert 33 9 (.slice (some ⟨b, off + 2, none⟩) (rest.length - 2) (cp - 2))).run Tryd.prog (wr.alloc o).drew = .ok (.string (strOf (rest.drop 2))) (wr.alloc o).drew := by
  have hcl' : ∀ j, j < rest.length → (wr.alloc o).cell? ⟨b, off + j, none⟩ = some (.int .u8 (rest.getD j 0)) := fun j hj => (World.cell?_alloc_lt wr o ⟨b, off + j, none⟩ hb).trans (hcl j hj)
  have h9 := conv_cells (w := (wr.alloc o).drew) ⟨b, off + 2, none⟩ (rest.drop 2) (cp - 2) (drop_cells hcl')
  rwa [List.length_drop] at h9

set_option maxHeartbeats 8000000 in
set_option maxRecDepth 100000 in
theorem refd_any (B : Nat) (v : Value) (l : List Int) (w : World) (h : Sees w B v l) (h300 : l.length ≤ 300) (hB : B ≤ w.heap.size) :
    Calls Tryd.prog 20 #[v] w (FPost l w) := by
  have hbyl : ∀ x ∈ l, 0 ≤ x ∧ x < 256 := by obtain ⟨_, _, _, _, _, h4, _⟩ := h; exact h4
  go_enter Tryd.func20, Tryd.ntmps20
  go_wp2_with fail
  go_loopw [5, 14] (fun v i wr => ∃ (j : Nat) (zs rest : List Int), j ≤ 7 ∧ i = .int .i64 j ∧ RAt w wr B l v j zs rest) (fun _ i _ => 7 - (intOf i).toNat)
  case atStart => exact ⟨0, List.replicate 7 0, l, by omega, rfl, RAt.start hB h⟩
  case round =>
    obtain ⟨j, zs, rest, hj, rfl, hat⟩ := hrel
    by_cases hlt : j < 7
    · go_wp2_with fail
      go_loopw [5, 7, 8] (fun v t i wr => ∃ (k : Nat) (x y : Int), k ≤ 6 ∧ i = .int .i64 k ∧ t = .int .i64 y ∧ RIn w wr B l v j k zs rest x y) (fun _ _ i _ => 6 - (intOf i).toNat)
      case atStart => exact ⟨0, 0, 1, by omega, rfl, rfl, hat.begin hlt⟩
      case round =>
        obtain ⟨k, x, t, hk, rfl, rfl, hin⟩ := hrel
        clear hat
        have hbl := hin.bel
        obtain ⟨g0, g1, g2, g3, g4, g5, g6, g7, g8, hfz⟩ := hin.box
        by_cases hk6 : 5 < k
        · have hnm := hin.par.none hlt (Num.cut_long (fun i hi => hin.big i (by omega)))
          clear hin
          go_wp2_with fail
          change bodyPost _ _ _ _ _ (zero9 wr w.heap.size)
          obtain ⟨z0, z1, z2, z3, z4, z5, z6, z7, z8⟩ := zero9_cells g0 g1 g2 g3 g4 g5 g6 g7 g8
          have hB2 : Below w.heap.size w (zero9 wr w.heap.size) := zero9_below hbl
          generalize zero9 wr w.heap.size = W at *
          clear g0 g1 g2 g3 g4 g5 g6 g7 g8 hfz
          exact bodyPost_ret (v := .tuple #[M.agg zeroM, .int .i64 3]) (by simp [zeroM, results, Tryd.results20, go_sem, M.agg, z0, z1, z2, z3, z4, z5, z6, z7, z8]) rfl (FPost.no hB2 hnm)
        · have hle := hin.le
          by_cases hemp : rest.length = k
          · have hnm := hin.par.none hlt (Num.cut_all (fun i hi => hin.big i (by omega)))
            obtain ⟨ao, cp, hv, _⟩ := hin.sees
            rw [List.length_drop, hemp, Nat.sub_self] at hv
            subst hv
            clear hin
            go_wp2_with fail
            change bodyPost _ _ _ _ _ (zero9 wr w.heap.size)
            obtain ⟨z0, z1, z2, z3, z4, z5, z6, z7, z8⟩ := zero9_cells g0 g1 g2 g3 g4 g5 g6 g7 g8
            have hB2 : Below w.heap.size w (zero9 wr w.heap.size) := zero9_below hbl
            generalize zero9 wr w.heap.size = W at *
            clear g0 g1 g2 g3 g4 g5 g6 g7 g8 hfz
            exact bodyPost_ret (v := .tuple #[M.agg zeroM, .int .i64 3]) (by simp [zeroM, results, Tryd.results20, go_sem, M.agg, z0, z1, z2, z3, z4, z5, z6, z7, z8]) rfl (FPost.no hB2 hnm)
          · obtain ⟨hx0, hxt, ht1, ht0, hcx, hfx⟩ := hin.facts (by omega) hlt
            obtain ⟨n, hn⟩ : ∃ n, (rest.drop k).length = n := ⟨_, rfl⟩
            have hn0 : 0 < n := by rw [← hn, List.length_drop]; omega
            obtain ⟨ao, cp, hv, s2, s3, s4, s5⟩ := hin.sees
            obtain ⟨b, off, hao, hbB, hcl⟩ := s5 (by omega)
            obtain ⟨y, hy⟩ : ∃ y, (rest.drop k).getD 0 0 = y := ⟨_, rfl⟩
            have hcl0 := hcl 0 (by omega)
            rw [hy, Nat.add_zero] at hcl0
            have hyb : 0 ≤ y ∧ y < 256 := by
              rw [← hy, List.getD_eq_getElem?_getD, List.getElem?_eq_getElem (by omega)]
              exact s4 _ (List.getElem_mem _)
            obtain ⟨hy0, hy1⟩ := hyb
            rw [hao] at hv
            rw [hn] at hv s2
            subst hv
            obtain ⟨hp0, hp1⟩ := prod_le2 (y % 128) t (by omega) (by omega) ht0 ht1
            have HIN : Hid (RIn w wr B l (.slice (some ⟨b, off, none⟩) n cp) j k zs rest x t) := hin
            have HN : Hid (n = (rest.drop k).length) := hn.symm
            have HY : Hid ((rest.drop k).getD 0 0 = y) := hy
            clear hin hcl s4 s5 hn hy hao g0 g1 g2 g3 g4 g5 g6 g7 g8 hfz hbl
            have hne0 : ((n : Int) == 0) = false := by simp; omega
            have hd5 : decide (5 < (k : Int)) = false := by simp; omega
            by_cases hcp : cp = 1
            · have hnx := (Sees.next HN.out HIN.out.sees (by rw [← HN.out]; exact hn0)).1 hcp
              subst hcp
              have hn1 : n - 1 = 0 := by omega
              rw [hn1] at hnx
              have hkl : k < rest.length := by omega
              by_cases h128 : y < 128
              · have R := HIN.out.last hB hlt hkl HY.out hnx h128
                go_wp2_with fail
                go_roundw
                case rel => exact ⟨j + 1, _, _, by omega, by go_num, R⟩
                case measure => simp [intOf]; omega
              · have R := HIN.out.more hB hlt hkl HY.out hnx h128
                go_wp2_with fail
                go_roundw
                case rel => exact ⟨k + 1, _, _, by omega, by go_num, rfl, R⟩
                case measure => simp [intOf]; omega
            · have hnx := (Sees.next HN.out HIN.out.sees (by rw [← HN.out]; exact hn0)).2 hcp
              have hkl : k < rest.length := by omega
              by_cases h128 : y < 128
              · have R := HIN.out.last hB hlt hkl HY.out hnx h128
                go_wp2_with fail
                go_roundw
                case rel => exact ⟨j + 1, _, _, by omega, by go_num, R⟩
                case measure => simp [intOf]; omega
              · have R := HIN.out.more hB hlt hkl HY.out hnx h128
                go_wp2_with fail
                go_roundw
                case rel => exact ⟨k + 1, _, _, by omega, by go_num, rfl, R⟩
                case measure => simp [intOf]; omega
    · obtain rfl : j = 7 := by omega
      obtain ⟨⟨hz, hcell, hfa, hsza⟩, _, ⟨ao, cp, rfl, hc1, hc2, hby, hee⟩, hrl, hpar, hbl, hbox⟩ := hat
      obtain ⟨k0, k1, k2, k3, k4, k5, k6, rfl⟩ := list7 hz
      have a0 : wr.cell? ⟨w.heap.size + 1, 0, none⟩ = some (.int .i64 k0) := hcell 0 (by omega)
      have a1 : wr.cell? ⟨w.heap.size + 1, 1, none⟩ = some (.int .i64 k1) := hcell 1 (by omega)
      have a2 : wr.cell? ⟨w.heap.size + 1, 2, none⟩ = some (.int .i64 k2) := hcell 2 (by omega)
      have a3 : wr.cell? ⟨w.heap.size + 1, 3, none⟩ = some (.int .i64 k3) := hcell 3 (by omega)
      have a4 : wr.cell? ⟨w.heap.size + 1, 4, none⟩ = some (.int .i64 k4) := hcell 4 (by omega)
      have a5 : wr.cell? ⟨w.heap.size + 1, 5, none⟩ = some (.int .i64 k5) := hcell 5 (by omega)
      have a6 : wr.cell? ⟨w.heap.size + 1, 6, none⟩ = some (.int .i64 k6) := hcell 6 (by omega)
      have hpar' : Par l 7 [k0, k1, k2, k3, k4, k5, k6] rest := hpar
      clear hcell hpar hz
      by_cases hsh : rest.length < 2
      · have hnm := hpar'.short hsh
        obtain ⟨g0, g1, g2, g3, g4, g5, g6, g7, g8, hfz⟩ := hbox
        clear hpar' hee hby
        go_wp2_with fail
        change bodyPost _ _ _ _ _ (zero9 wr w.heap.size)
        obtain ⟨z0, z1, z2, z3, z4, z5, z6, z7, z8⟩ := zero9_cells g0 g1 g2 g3 g4 g5 g6 g7 g8
        have hB2 : Below w.heap.size w (zero9 wr w.heap.size) := zero9_below hbl
        generalize zero9 wr w.heap.size = W at *
        clear g0 g1 g2 g3 g4 g5 g6 g7 g8 hfz
        exact bodyPost_ret (v := .tuple #[M.agg zeroM, .int .i64 3]) (by simp [zeroM, results, Tryd.results20, go_sem, M.agg, z0, z1, z2, z3, z4, z5, z6, z7, z8]) rfl (FPost.no hB2 hnm)
      · obtain ⟨b, off, rfl, hbB, hcl⟩ := hee (by omega)
        have hcl0 := hcl 0 (by omega)
        rw [Nat.add_zero] at hcl0
        obtain ⟨y0, hy0⟩ : ∃ y, rest.getD 0 0 = y := ⟨_, rfl⟩
        have hread := hpar'.done hrl
        rw [hy0] at hcl0 hread
        by_cases hcp : cp = 2
        · have hl2 : rest.length = 2 := by omega
          have hdn : rest.drop 2 = [] := List.drop_eq_nil_of_le (by omega)
          rw [hdn] at hread
          have hconv : (convert 33 9 (.slice (some ⟨b, off, none⟩) 0 0)).run Tryd.prog wr.drew = .ok (.string (strOf [])) wr.drew := conv_cells (w := wr.drew) ⟨b, off, none⟩ [] 0 (fun j v hj => by simp at hj)
          obtain ⟨st, hst⟩ : ∃ st, strOf [] = st := ⟨_, rfl⟩
          rw [hst] at hconv hread
          have hS1 := fun o => held_alloc (o := o) hsza (by omega) a0 a1 a2 a3 a4 a5 a6 hcl0 (conv_cells (w := (wr.alloc o).drew) ⟨b, off, none⟩ [] 0 (fun j v hj => by simp at hj))
          have hS0 := held_start a0 a1 a2 a3 a4 a5 a6 hcl0 hconv
          rw [hst] at hS1
          clear hpar' hcl hby hy0 hst hee hdn
          subst hcp
          go_wp2_with fail
          go_region_held3 (fun w' => w'.cell? ⟨w.heap.size + 1, 0, none⟩ = some (.int .i64 k0) ∧ w'.cell? ⟨w.heap.size + 1, 1, none⟩ = some (.int .i64 k1) ∧ w'.cell? ⟨w.heap.size + 1, 2, none⟩ = some (.int .i64 k2) ∧ w'.cell? ⟨w.heap.size + 1, 3, none⟩ = some (.int .i64 k3) ∧ w'.cell? ⟨w.heap.size + 1, 4, none⟩ = some (.int .i64 k4) ∧ w'.cell? ⟨w.heap.size + 1, 5, none⟩ = some (.int .i64 k5) ∧ w'.cell? ⟨w.heap.size + 1, 6, none⟩ = some (.int .i64 k6) ∧ w'.cell? ⟨b, off, none⟩ = some (.int .u8 y0) ∧ (convert 33 9 (.slice (some ⟨b, off, none⟩) 0 0)).run Tryd.prog w' = .ok (.string st) w') (first | exact hS0 | exact hS1 _) (fail)
          all_goals go_wp2_with fail
          have hl3 : st.size ≤ 1000 := by have h3 : st.size ≤ l.length := hread.1; omega
          have hlt1 : w.heap.size < wr.heap.size := by omega
          clear hS0 hS1 hconv a0 a1 a2 a3 a4 a5 a6 hcl0 hfa
          cases hok : okB ⟨k0, k1, k2, k3, k4, k5, k6, y0 == 1, st⟩ with
          | false =>
            have hnm : NoMsg l := fun m0 h0 h1 => by
              have := hread.2 m0 h0 h1
              rw [← this, hok] at h0
              cases h0
            refine (refe_bad ⟨k0, k1, k2, k3, k4, k5, k6, y0 == 1, st⟩ _ hl3 hok).mono ?_
            rintro e w3 ⟨rfl, hb3⟩
            obtain ⟨hZ3, hb4, hz3⟩ := IsZero.later hbox hlt1 hbl (below_undrew hb3)
            obtain ⟨g0, g1, g2, g3, g4, g5, g6, g7, g8, hfz⟩ := hZ3
            clear hb3 hbox hread hok
            go_wp2_with fail
            change bodyPost _ _ _ _ _ (zero9 w3 w.heap.size)
            obtain ⟨z0, z1, z2, z3, z4, z5, z6, z7, z8⟩ := zero9_cells g0 g1 g2 g3 g4 g5 g6 g7 g8
            have hB2 : Below w.heap.size w (zero9 w3 w.heap.size) := zero9_below hb4
            generalize zero9 w3 w.heap.size = W at *
            clear g0 g1 g2 g3 g4 g5 g6 g7 g8 hfz
            exact bodyPost_ret (v := .tuple #[M.agg zeroM, .int .i64 3]) (by simp [zeroM, results, Tryd.results20, go_sem, M.agg, z0, z1, z2, z3, z4, z5, z6, z7, z8]) rfl (FPost.no hB2 hnm)
          | true =>
            refine (refe_ok ⟨k0, k1, k2, k3, k4, k5, k6, y0 == 1, st⟩ _ hok).mono ?_
            rintro e w3 ⟨v3, rfl, hw3, hb3⟩
            obtain ⟨hZ3, hb4, hz3⟩ := IsZero.later hbox hlt1 hbl (below_undrew hb3)
            obtain ⟨b0, b1, b2, b3, b4, b5, b6, b7, b8⟩ := IsZero.box (below_undrew hb3)
            have hcv3 := conv_has hw3
            have hcv := conv_sees (h.below hb4 hB)
            obtain ⟨g0, g1, g2, g3, g4, g5, g6, g7, g8, hfz⟩ := hZ3
            clear hb3 hbox hw3
            by_cases heq : l = M.bytes ⟨k0, k1, k2, k3, k4, k5, k6, y0 == 1, st⟩
            · rw [← heq] at hcv3
              have HEQ : Hid (l = M.bytes ⟨k0, k1, k2, k3, k4, k5, k6, y0 == 1, st⟩) := heq
              have HOK : Hid (okB ⟨k0, k1, k2, k3, k4, k5, k6, y0 == 1, st⟩ = true) := hok
              clear heq hok hread
              go_wp2_with fail
              change bodyPost _ _ _ _ _ (w3.setCells w.heap.size 0 [.int .i64 k0, .int .i64 k1, .int .i64 k2, .int .i64 k3, .int .i64 k4, .int .i64 k5, .int .i64 k6, .bool (y0 == 1), .string st])
              have hp := put_cells (.int .i64 k0) (.int .i64 k1) (.int .i64 k2) (.int .i64 k3) (.int .i64 k4) (.int .i64 k5) (.int .i64 k6) (.bool (y0 == 1)) (.string st) g0 g1 g2 g3 g4 g5 g6 g7 g8
              have hB2 := below_setCells [.int .i64 k0, .int .i64 k1, .int .i64 k2, .int .i64 k3, .int .i64 k4, .int .i64 k5, .int .i64 k6, .bool (y0 == 1), .string st] 0 w3 hb4
              generalize w3.setCells w.heap.size 0 [.int .i64 k0, .int .i64 k1, .int .i64 k2, .int .i64 k3, .int .i64 k4, .int .i64 k5, .int .i64 k6, .bool (y0 == 1), .string st] = W at *
              have z0 := hp 0 (by decide)
              have z1 := hp 1 (by decide)
              have z2 := hp 2 (by decide)
              have z3 := hp 3 (by decide)
              have z4 := hp 4 (by decide)
              have z5 := hp 5 (by decide)
              have z6 := hp 6 (by decide)
              have z7 := hp 7 (by decide)
              have z8 := hp 8 (by decide)
              simp only [List.getElem_cons_zero, List.getElem_cons_succ] at z0 z1 z2 z3 z4 z5 z6 z7 z8
              clear hp g0 g1 g2 g3 g4 g5 g6 g7 g8 b0 b1 b2 b3 b4 b5 b6 b7 b8 hfz
              exact bodyPost_ret (v := .tuple #[M.agg ⟨k0, k1, k2, k3, k4, k5, k6, y0 == 1, st⟩, .int .i64 0]) (by simp [results, Tryd.results20, go_sem, M.agg, z0, z1, z2, z3, z4, z5, z6, z7, z8]) rfl (FPost.yes hB2 HOK.out HEQ.out)
            · have hnm : NoMsg l := fun m0 h0 h1 => by
                have := hread.2 m0 h0 h1
                rw [this] at heq
                exact heq h1
              have hne : strOf (M.bytes ⟨k0, k1, k2, k3, k4, k5, k6, y0 == 1, st⟩) ≠ strOf l := fun hs => heq (Num.strOf_inj (Num.bytes_byte hok) hbyl hs).symm
              obtain ⟨s1, hs1⟩ : ∃ s, strOf (M.bytes ⟨k0, k1, k2, k3, k4, k5, k6, y0 == 1, st⟩) = s := ⟨_, rfl⟩
              obtain ⟨s2, hs2⟩ : ∃ s, strOf l = s := ⟨_, rfl⟩
              rw [hs1, hs2] at hne
              rw [hs1] at hcv3
              rw [hs2] at hcv
              have hbn := bytes_ne hne
              clear heq hok hread hs1 hs2 hne
              go_wp2_with fail
              change bodyPost _ _ _ _ _ (zero9 w3 w.heap.size)
              obtain ⟨z0, z1, z2, z3, z4, z5, z6, z7, z8⟩ := zero9_cells g0 g1 g2 g3 g4 g5 g6 g7 g8
              have hB2 : Below w.heap.size w (zero9 w3 w.heap.size) := zero9_below hb4
              generalize zero9 w3 w.heap.size = W at *
              clear g0 g1 g2 g3 g4 g5 g6 g7 g8 hfz
              exact bodyPost_ret (v := .tuple #[M.agg zeroM, .int .i64 3]) (by simp [zeroM, results, Tryd.results20, go_sem, M.agg, z0, z1, z2, z3, z4, z5, z6, z7, z8]) rfl (FPost.no hB2 hnm)
        · have hconv : (convert 33 9 (.slice (some ⟨b, off + 2, none⟩) (rest.length - 2) (cp - 2))).run Tryd.prog wr.drew = .ok (.string (strOf (rest.drop 2))) wr.drew := by
            have h9 := conv_cells (w := wr.drew) ⟨b, off + 2, none⟩ (rest.drop 2) (cp - 2) (drop_cells hcl)
            rwa [List.length_drop] at h9
          obtain ⟨st, hst⟩ : ∃ st, strOf (rest.drop 2) = st := ⟨_, rfl⟩
          rw [hst] at hconv hread
          have hS1 := fun o => held_alloc (o := o) hsza (by omega) a0 a1 a2 a3 a4 a5 a6 hcl0 (conv_later (o := o) (cp := cp) (by omega) hcl)
          have hS0 := held_start a0 a1 a2 a3 a4 a5 a6 hcl0 hconv
          rw [hst] at hS1
          clear hpar' hcl hby hy0 hst hee
          have hix := fun W => idx0 b off rest.length cp (by omega) W
          go_wp2_with fail
          go_region_held3 (fun w' => w'.cell? ⟨w.heap.size + 1, 0, none⟩ = some (.int .i64 k0) ∧ w'.cell? ⟨w.heap.size + 1, 1, none⟩ = some (.int .i64 k1) ∧ w'.cell? ⟨w.heap.size + 1, 2, none⟩ = some (.int .i64 k2) ∧ w'.cell? ⟨w.heap.size + 1, 3, none⟩ = some (.int .i64 k3) ∧ w'.cell? ⟨w.heap.size + 1, 4, none⟩ = some (.int .i64 k4) ∧ w'.cell? ⟨w.heap.size + 1, 5, none⟩ = some (.int .i64 k5) ∧ w'.cell? ⟨w.heap.size + 1, 6, none⟩ = some (.int .i64 k6) ∧ w'.cell? ⟨b, off, none⟩ = some (.int .u8 y0) ∧ (convert 33 9 (.slice (some ⟨b, off + 2, none⟩) (rest.length - 2) (cp - 2))).run Tryd.prog w' = .ok (.string st) w') (first | exact hS0 | exact hS1 _) (fail)
          all_goals go_wp2_with fail
          have hl3 : st.size ≤ 1000 := by have h3 : st.size ≤ l.length := hread.1; omega
          have hlt1 : w.heap.size < wr.heap.size := by omega
          clear hS0 hS1 hconv a0 a1 a2 a3 a4 a5 a6 hcl0 hfa
          cases hok : okB ⟨k0, k1, k2, k3, k4, k5, k6, y0 == 1, st⟩ with
          | false =>
            have hnm : NoMsg l := fun m0 h0 h1 => by
              have := hread.2 m0 h0 h1
              rw [← this, hok] at h0
              cases h0
            refine (refe_bad ⟨k0, k1, k2, k3, k4, k5, k6, y0 == 1, st⟩ _ hl3 hok).mono ?_
            rintro e w3 ⟨rfl, hb3⟩
            obtain ⟨hZ3, hb4, hz3⟩ := IsZero.later hbox hlt1 hbl (below_undrew hb3)
            obtain ⟨g0, g1, g2, g3, g4, g5, g6, g7, g8, hfz⟩ := hZ3
            clear hb3 hbox hread hok
            go_wp2_with fail
            change bodyPost _ _ _ _ _ (zero9 w3 w.heap.size)
            obtain ⟨z0, z1, z2, z3, z4, z5, z6, z7, z8⟩ := zero9_cells g0 g1 g2 g3 g4 g5 g6 g7 g8
            have hB2 : Below w.heap.size w (zero9 w3 w.heap.size) := zero9_below hb4
            generalize zero9 w3 w.heap.size = W at *
            clear g0 g1 g2 g3 g4 g5 g6 g7 g8 hfz
            exact bodyPost_ret (v := .tuple #[M.agg zeroM, .int .i64 3]) (by simp [zeroM, results, Tryd.results20, go_sem, M.agg, z0, z1, z2, z3, z4, z5, z6, z7, z8]) rfl (FPost.no hB2 hnm)
          | true =>
            refine (refe_ok ⟨k0, k1, k2, k3, k4, k5, k6, y0 == 1, st⟩ _ hok).mono ?_
            rintro e w3 ⟨v3, rfl, hw3, hb3⟩
            obtain ⟨hZ3, hb4, hz3⟩ := IsZero.later hbox hlt1 hbl (below_undrew hb3)
            obtain ⟨b0, b1, b2, b3, b4, b5, b6, b7, b8⟩ := IsZero.box (below_undrew hb3)
            have hcv3 := conv_has hw3
            have hcv := conv_sees (h.below hb4 hB)
            obtain ⟨g0, g1, g2, g3, g4, g5, g6, g7, g8, hfz⟩ := hZ3
            clear hb3 hbox hw3
            by_cases heq : l = M.bytes ⟨k0, k1, k2, k3, k4, k5, k6, y0 == 1, st⟩
            · rw [← heq] at hcv3
              have HEQ : Hid (l = M.bytes ⟨k0, k1, k2, k3, k4, k5, k6, y0 == 1, st⟩) := heq
              have HOK : Hid (okB ⟨k0, k1, k2, k3, k4, k5, k6, y0 == 1, st⟩ = true) := hok
              clear heq hok hread
              go_wp2_with fail
              change bodyPost _ _ _ _ _ (w3.setCells w.heap.size 0 [.int .i64 k0, .int .i64 k1, .int .i64 k2, .int .i64 k3, .int .i64 k4, .int .i64 k5, .int .i64 k6, .bool (y0 == 1), .string st])
              have hp := put_cells (.int .i64 k0) (.int .i64 k1) (.int .i64 k2) (.int .i64 k3) (.int .i64 k4) (.int .i64 k5) (.int .i64 k6) (.bool (y0 == 1)) (.string st) g0 g1 g2 g3 g4 g5 g6 g7 g8
              have hB2 := below_setCells [.int .i64 k0, .int .i64 k1, .int .i64 k2, .int .i64 k3, .int .i64 k4, .int .i64 k5, .int .i64 k6, .bool (y0 == 1), .string st] 0 w3 hb4
              generalize w3.setCells w.heap.size 0 [.int .i64 k0, .int .i64 k1, .int .i64 k2, .int .i64 k3, .int .i64 k4, .int .i64 k5, .int .i64 k6, .bool (y0 == 1), .string st] = W at *
              have z0 := hp 0 (by decide)
              have z1 := hp 1 (by decide)
              have z2 := hp 2 (by decide)
              have z3 := hp 3 (by decide)
              have z4 := hp 4 (by decide)
              have z5 := hp 5 (by decide)
              have z6 := hp 6 (by decide)
              have z7 := hp 7 (by decide)
              have z8 := hp 8 (by decide)
              simp only [List.getElem_cons_zero, List.getElem_cons_succ] at z0 z1 z2 z3 z4 z5 z6 z7 z8
              clear hp g0 g1 g2 g3 g4 g5 g6 g7 g8 b0 b1 b2 b3 b4 b5 b6 b7 b8 hfz
              exact bodyPost_ret (v := .tuple #[M.agg ⟨k0, k1, k2, k3, k4, k5, k6, y0 == 1, st⟩, .int .i64 0]) (by simp [results, Tryd.results20, go_sem, M.agg, z0, z1, z2, z3, z4, z5, z6, z7, z8]) rfl (FPost.yes hB2 HOK.out HEQ.out)
            · have hnm : NoMsg l := fun m0 h0 h1 => by
                have := hread.2 m0 h0 h1
                rw [this] at heq
                exact heq h1
              have hne : strOf (M.bytes ⟨k0, k1, k2, k3, k4, k5, k6, y0 == 1, st⟩) ≠ strOf l := fun hs => heq (Num.strOf_inj (Num.bytes_byte hok) hbyl hs).symm
              obtain ⟨s1, hs1⟩ : ∃ s, strOf (M.bytes ⟨k0, k1, k2, k3, k4, k5, k6, y0 == 1, st⟩) = s := ⟨_, rfl⟩
              obtain ⟨s2, hs2⟩ : ∃ s, strOf l = s := ⟨_, rfl⟩
              rw [hs1, hs2] at hne
              rw [hs1] at hcv3
              rw [hs2] at hcv
              have hbn := bytes_ne hne
              clear heq hok hread hs1 hs2 hne
              go_wp2_with fail
              change bodyPost _ _ _ _ _ (zero9 w3 w.heap.size)
              obtain ⟨z0, z1, z2, z3, z4, z5, z6, z7, z8⟩ := zero9_cells g0 g1 g2 g3 g4 g5 g6 g7 g8
              have hB2 : Below w.heap.size w (zero9 w3 w.heap.size) := zero9_below hb4
              generalize zero9 w3 w.heap.size = W at *
              clear g0 g1 g2 g3 g4 g5 g6 g7 g8 hfz
              exact bodyPost_ret (v := .tuple #[M.agg zeroM, .int .i64 3]) (by simp [zeroM, results, Tryd.results20, go_sem, M.agg, z0, z1, z2, z3, z4, z5, z6, z7, z8]) rfl (FPost.no hB2 hnm)
end Go.Proofs.YtbebfliimjjohaaDoor.Wire
