/-
  A record out of its place: a contract of wal.read over the turned program.
-/
import Derived.Test.YtbebfliimjjohaaDoorWalPut
import Derived.Test.YtbebfliimjjohaaDoorStr
namespace Go.Proofs.YtbebfliimjjohaaDoor.Wal
open Go.RowKit
open Num (inB ints strOf)
open Wire (bcell)

/-- A record at block b, its numbers being l. -/
def RecIs (w : World) (b : Nat) (l : List Int) (s : ByteArray) : Prop := (∀ i, i < 5 → w.cell? ⟨b, fld i, none⟩ = some (.int .i64 (l.getD i 0))) ∧ w.cell? ⟨b, 4, none⟩ = some (.string s) ∧ ∀ i, w.frozen? ⟨b, i, none⟩ = false

theorem fld_inj {i k : Nat} (hi : i < 5) (hk : k < 5) (h : fld i = fld k) : i = k := by
  unfold fld at h
  split at h <;> split at h <;> omega
theorem fld_four {i : Nat} (_hi : i < 5) : fld i ≠ 4 := by unfold fld; split <;> omega

theorem RecIs.set {w : World} {b : Nat} {l : List Int} {s : ByteArray} (h : RecIs w b l s) (hl : l.length = 5) {i : Nat} (hi : i < 5) (x : Int) : RecIs (w.setCell ⟨b, fld i, none⟩ (.int .i64 x)) b (l.set i x) s := by
  obtain ⟨h1, h2, h3⟩ := h
  refine ⟨fun k hk => ?_, ?_, fun k => by rw [World.frozen?_setCell]; exact h3 k⟩
  · by_cases e : i = k
    · subst e
      rw [World.cell?_setCell_same _ _ _ (h1 i hi), List.getD_eq_getElem?_getD, List.getElem?_set_self (by omega)]
      rfl
    · rw [World.cell?_setCell_other _ _ _ _ (by intro e'; injection e' with _ e'; exact e (fld_inj hi hk e')), h1 k hk, List.getD_eq_getElem?_getD, List.getD_eq_getElem?_getD, List.getElem?_set_ne e]
  · rw [World.cell?_setCell_other _ _ _ _ (by intro e'; injection e' with _ e'; exact fld_four hi e'), h2]
theorem RecIs.below {w w' : World} {b C : Nat} {l : List Int} {s : ByteArray} (h : RecIs w b l s) (hb : Below C w w') (hC : b < C) : RecIs w' b l s :=
  ⟨fun i hi => (hb.cell (p := ⟨b, fld i, none⟩) hC).trans (h.1 i hi), (hb.cell (p := ⟨b, 4, none⟩) hC).trans h.2.1, fun i => (hb.frozen (p := ⟨b, i, none⟩) hC).trans (h.2.2 i)⟩

/-- What the numbers are behind i numbers and j bytes of the next one. -/
def acc (r : R) (i j : Nat) : List Int := (nums r).take i ++ part ((nums r).getD i 0) j :: List.replicate (4 - i) 0
def outer (r : R) (i : Nat) : List Int := (nums r).take i ++ List.replicate (5 - i) 0
theorem outer_acc (r : R) : ∀ i, i < 5 → outer r i = acc r i 0 := by apply five <;> simp [outer, acc, part_zero, List.replicate]
theorem acc_outer (r : R) : ∀ i, i < 5 → acc r i 8 = outer r (i + 1) := by apply five <;> simp [outer, acc, part_end, nums, List.replicate]
theorem acc_length (r : R) : ∀ i, i < 5 → ∀ j, (acc r i j).length = 5 := by apply five <;> (intro j; simp [acc, nums])
theorem acc_at (r : R) (j : Nat) : ∀ i, i < 5 → (acc r i j).getD i 0 = part ((nums r).getD i 0) j := by apply five <;> simp [acc, nums]
theorem acc_set (r : R) (j : Nat) : ∀ i, i < 5 → (acc r i j).set i (part ((nums r).getD i 0) (j + 1)) = acc r i (j + 1) := by apply five <;> simp [acc, nums]
theorem outer_end (r : R) : outer r 5 = nums r := by simp [outer, nums]

theorem rec_new (r : R) (w : World) (t : TypeId) : RecIs (w.alloc (.cells #[.int .i64 0, .int .i64 0, .int .i64 0, .int .i64 0, .string ⟨#[]⟩, .int .i64 0] t)) w.heap.size (outer r 0) ⟨#[]⟩ := by
  have hc : ∀ i, (w.alloc (.cells #[.int .i64 0, .int .i64 0, .int .i64 0, .int .i64 0, .string ⟨#[]⟩, .int .i64 0] t)).cell? ⟨w.heap.size, i, none⟩ = #[Value.int .i64 0, .int .i64 0, .int .i64 0, .int .i64 0, .string ⟨#[]⟩, .int .i64 0][i]? := fun i => cell_of_row _ _ _ _ _ _ (heap_alloc_new w _)
  refine ⟨?_, hc 4, fun i => by simp⟩
  apply five
  · exact hc 0
  · exact hc 1
  · exact hc 2
  · exact hc 3
  · exact hc 5
theorem Pl.made {w : World} {l : List Int} (hl : l.length = 62) (t : TypeId) : Pl (w.alloc (.cells (l.map (Value.int .u8)).toArray t)) w.heap.size 0 l := by
  have hc : ∀ j, (w.alloc (.cells (l.map (Value.int .u8)).toArray t)).cell? ⟨w.heap.size, 0 + j, none⟩ = (l.map (Value.int .u8))[j]? := fun j => by
    rw [cell_of_row _ _ _ _ _ _ (heap_alloc_new w _), Nat.zero_add, List.getElem?_toArray]
  refine ⟨hl, fun j v hv => (hc j).trans hv, fun j hj => ⟨?_, by simp⟩⟩
  rw [hc j, List.getElem?_eq_getElem (by simpa using by omega)]
  rfl

/-- A record's cells. -/
def R.cells (r : R) : List Value := [.int .i64 r.c, .int .i64 r.n, .int .i64 r.o, .int .i64 r.v, .string r.d, .int .i64 r.e]
theorem R.cells_length (r : R) : r.cells.length = 6 := rfl
theorem R.cells_one (r : R) : ∀ u ∈ r.cells, u.oneCell' = true := by
  intro u hu
  simp [R.cells] at hu
  rcases hu with rfl | rfl | rfl | rfl | rfl | rfl <;> rfl
theorem info_rec : (Tryd.prog.info? 76).map (·.size) = some 6 := by kernel_rfl
/-- A record that lies there whole. -/
theorem rec_range {w : World} {b : Nat} {r : R} {s : ByteArray} (h : RecIs w b (nums r) s) : (w.setCell ⟨b, 4, none⟩ (.string r.d)).rangeAt b 0 r.cells ∧ (w.setCell ⟨b, 4, none⟩ (.string r.d)).there b 0 6 := by
  obtain ⟨h1, h2, h3⟩ := h
  have hr : (w.setCell ⟨b, 4, none⟩ (.string r.d)).rangeAt b 0 r.cells := fun j v hv => by
    rw [Nat.zero_add]
    have hj : j < 6 := (List.getElem?_eq_some_iff.1 hv).1
    match j, hj, hv with
    | 0, _, hv => rw [World.cell?_setCell_other _ _ _ _ (by simp)]; exact (h1 0 (by omega)).trans hv
    | 1, _, hv => rw [World.cell?_setCell_other _ _ _ _ (by simp)]; exact (h1 1 (by omega)).trans hv
    | 2, _, hv => rw [World.cell?_setCell_other _ _ _ _ (by simp)]; exact (h1 2 (by omega)).trans hv
    | 3, _, hv => rw [World.cell?_setCell_other _ _ _ _ (by simp)]; exact (h1 3 (by omega)).trans hv
    | 4, _, hv => rw [World.cell?_setCell_same _ _ _ h2]; exact hv
    | 5, _, hv => rw [World.cell?_setCell_other _ _ _ _ (by simp)]; exact (h1 4 (by omega)).trans hv
  exact ⟨hr, fun j hj => ⟨hr.isSome j hj, by rw [World.frozen?_setCell]; exact h3 _⟩⟩
theorem place_row : Tryd.prog.underlying 65 = some (.array (Tryd.prog.arrayLen 65) (Tryd.prog.elem 65)) := by kernel_rfl
theorem place_len : Tryd.prog.arrayLen 65 = 62 := by kernel_rfl
theorem place_size (w : World) : (sizeOf (Tryd.prog.elem 65)).run Tryd.prog w = .ok 1 w := by kernel_rfl
theorem text_slice (b n : Nat) (w : World) (hn : n ≤ 20) : (Instr.sliceAt 65 (.pointer (some ⟨b, 0, none⟩)) (some (.int .i64 41)) (some (.int .i64 (41 + (n : Int)))) none).run Tryd.prog w = .ok (.slice (some ⟨b, 41, none⟩) n 21) w := by
  have hl := place_len
  rw [run_sliceAt_array_lh w _ ⟨b, 0, none⟩ place_row .i64 .i64 41 (41 + (n : Int)) (by omega) (by omega) (by rw [hl]; omega), place_size]
  simp only [Result.andThen_ok, slicedAt, hl]
  rw [if_neg (by decide), show (41 + (n : Int)).toNat - (41 : Int).toNat = n by omega]
  rfl

set_option maxHeartbeats 4000000 in
set_option maxRecDepth 100000 in
theorem read_any (r : R) (w : World) (hd : r.d.size ≤ 20) (hok : ∀ i, i < 5 → okN ((nums r).getD i 0)) :
    Calls Tryd.prog 74 #[.agg ((full r).map (Value.int .u8)).toArray] w fun x w' => x = .returned r.agg ∧ Below w.heap.size w w' := by
  have hF := full_length hd
  go_enter Tryd.func74, Tryd.ntmps74
  go_wp2_with fail
  refine (numbers_any (w.heap.size + 1) _).mono ?_
  rintro e w1 ⟨rfl, hb1⟩
  have hp0 := ((Pl.made hF 65).below ((Below.refl (w.heap.size + 1) (w.alloc (.cells ((full r).map (Value.int .u8)).toArray 65))).alloc (by simp) (.cells #[.int .i64 0, .int .i64 0, .int .i64 0, .int .i64 0, .string ⟨#[]⟩, .int .i64 0] 76)) (by omega)).below hb1 (by simp; omega)
  have hr0 := (rec_new r (w.alloc (.cells ((full r).map (Value.int .u8)).toArray 65)) 76).below hb1 (by simp)
  rw [show (w.alloc (.cells ((full r).map (Value.int .u8)).toArray 65)).heap.size = w.heap.size + 1 by simp] at hr0
  have hbw : Below w.heap.size w w1 := (((Below.refl _ _).alloc (Nat.le_refl _) _).alloc (by simp) _).trans (hb1.mono (by simp; omega))
  have hz1 : w.heap.size + 1 < w1.heap.size := by have := hb1.size; simp at this; omega
  clear hb1
  go_wp2_with fail
  go_loopw [7] (fun s wr => ∃ i : Nat, i ≤ 5 ∧ s = .int .i64 i ∧ RecIs wr (w.heap.size + 1) (outer r i) ⟨#[]⟩ ∧ Below (w.heap.size + 1) w1 wr) (fun s _ => 5 - (intOf s).toNat)
  case atStart => exact ⟨0, by omega, rfl, hr0, Below.refl _ _⟩
  case round =>
    obtain ⟨i, hi, rfl, hR, hB⟩ := hrel
    by_cases hlt : i < 5
    · have hix := agg_index (w.heap.size + 1) i hlt
      rw [outer_acc r i hlt] at hR
      have hoki := hok i hlt
      go_wp2_with fail
      go_loopw [11] (fun s wr => ∃ j : Nat, j ≤ 8 ∧ s = .int .i64 j ∧ RecIs wr (w.heap.size + 1) (acc r i j) ⟨#[]⟩ ∧ Below (w.heap.size + 1) w1 wr) (fun s _ => 8 - (intOf s).toNat)
      case atStart => exact ⟨0, by omega, rfl, hR, hB⟩
      case round =>
        obtain ⟨j, hj, rfl, hR, hB⟩ := hrel
        by_cases hjl : j < 8
        · have hn := hR.1 i hlt
          rw [acc_at r j i hlt] at hn
          have hfz := hR.2.2 (fld i)
          have hpc := ((hp0.below hB (by omega)).cell (i := i * 8 + j) (by omega)).1
          rw [Nat.zero_add, full_num (by omega), show (i * 8 + j) / 8 = i by omega, show (i * 8 + j) % 8 = j by omega] at hpc
          have hS := or_step _ j hoki hjl
          have hbb := byteAt_bd ((nums r).getD i 0) j
          have hset := hR.set (acc_length r i hlt j) hlt (part ((nums r).getD i 0) (j + 1))
          rw [acc_set r j i hlt] at hset
          have HSET : Hid (RecIs (wr.setCell ⟨w.heap.size + 1, fld i, none⟩ (.int .i64 (part ((nums r).getD i 0) (j + 1)))) (w.heap.size + 1) (acc r i (j + 1)) ⟨#[]⟩) := hset
          clear hset
          obtain ⟨x, hx⟩ : ∃ x, (nums r).getD i 0 = x := ⟨_, rfl⟩
          rw [hx] at hn hpc hS hbb HSET
          clear hx
          obtain ⟨y, hy⟩ : ∃ y, byteAt x j = y := ⟨_, rfl⟩
          rw [hy] at hpc hS hbb
          obtain ⟨u, hu⟩ : ∃ u, part x j = u := ⟨_, rfl⟩
          rw [hu] at hn hS
          have HS : Hid (bits .or .i64 u (wrap64 (y * 2 ^ (8 * j))) = part x (j + 1)) := by
            show bits .or .i64 u (wrap64 (y * 2 ^ (8 * j))) = part x (j + 1)
            unfold wrap64
            rw [IntKind.wrap_i64] at hS
            exact hS
          clear hS hy hu
          go_wp2_with fail
          go_region
          go_wp2_with fail
          rw [HS.out]
          exact ⟨⟨j + 1, by omega, by go_num, HSET.out.below (Below.refl (w.heap.size + 1 + 1) _).drew (by omega), (hB.setCell (Nat.le_refl _) _).drew⟩, by simp [intOf]; omega⟩
        · obtain rfl : j = 8 := by omega
          rw [acc_outer r i hlt] at hR
          go_wp2_with fail
          exact ⟨⟨i + 1, by omega, by go_num, hR, hB⟩, by simp [intOf]; omega⟩
    · obtain rfl : i = 5 := by omega
      rw [outer_end] at hR
      have hp := hp0.below hB (by omega)
      have hpc := (hp.cell (i := 40) (by omega)).1
      rw [Nat.zero_add, full_len] at hpc
      have hdi : (r.d.size : Int) ≤ 20 := by omega
      have hcv : (convert 33 9 (.slice (some ⟨w.heap.size, 41, none⟩) r.d.size 21)).run Tryd.prog wr = .ok (.string r.d) wr := by
        have h := Wire.conv_cells (w := wr) ⟨w.heap.size, 41, none⟩ (ints r.d) 21 (fun j v hv => ?_)
        · rw [Num.ints_length, Num.strOf_ints] at h
          exact h
        · have hj : j < r.d.size := by have := (List.getElem?_eq_some_iff.1 hv).1; rw [List.length_map, Num.ints_length] at this; exact this
          have hc := (hp.cell (i := 41 + j) (by omega)).1
          rw [Nat.zero_add, full_text hj] at hc
          rw [Addr.add_mid, hc, ← hv, List.getElem?_map, List.getD_eq_getElem?_getD, List.getElem?_eq_getElem (by rw [Num.ints_length]; exact hj)]
          rfl
      have hsl := text_slice w.heap.size r.d.size wr hd
      have hf4 := hR.2.2 4
      have hc4 := hR.2.1
      obtain ⟨hrg, hth⟩ := rec_range hR
      have hi : (Tryd.prog.info? 76).map (·.size) = some r.cells.length := info_rec
      have hi2 : (Tryd.prog.info? 76).map (·.size) = some r.cells.toArray.size := info_rec
      have hone : r.cells.toArray.all (·.oneCell') = true := all_oneCell_toArray r.cells_one
      have hres := run_loadVar_mid (P := Tryd.prog) _ (w.heap.size + 1) 0 76 r.cells _ (World.rangeAt_setCells_same _ _ _ _ hth) Tryd.underlying76 rfl hi
      have hB3 : Below (w.heap.size + 1) w1 ((wr.setCell ⟨w.heap.size + 1, 4, none⟩ (.string r.d)).setCells (w.heap.size + 1) 0 r.cells) := bel_cells (Nat.le_refl _) _ _ _ (hB.setCell (Nat.le_refl _) _)
      go_wp2_with (first | (refine wpList_load_mid rfl 76 (.tmp 2) rfl _ _ rfl _ _ hrg Tryd.underlying76 rfl hi ?_) | (refine wpList_store_mid rfl 76 (.tmp 2) (.tmp 38) rfl _ _ r.cells.toArray rfl rfl hth hi2 hone ?_))
      generalize (wr.setCell ⟨w.heap.size + 1, 4, none⟩ (.string r.d)).setCells (w.heap.size + 1) 0 r.cells = wz at *
      refine bodyPost_ret (v := r.agg) ?_ rfl ⟨rfl, ?_⟩
      · simp only [Act.put, List.setIfInBounds_toArray, List.set_cons_zero, List.set_cons_succ]
        simp [results, Tryd.results74, asAddr, hres]
        rfl
      · exact hbw.trans (hB3.mono (by omega))
end Go.Proofs.YtbebfliimjjohaaDoor.Wal
