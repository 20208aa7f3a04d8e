/-
  What a disk holds when a record is written to it, with power and without: a contract of wal.Disk's write over the turned program.
-/
import Derived.Test.YtbebfliimjjohaaDoorWalDisk
import Derived.Deep.RegionHeld3
namespace Go.Proofs.YtbebfliimjjohaaDoor.Wal
open Go.RowKit
open Num (inB ints strOf)
open Wire (bcell)

theorem Pl.far {w : World} {b q o i : Nat} {l : List Int} {u : Value} (h : Pl w b o l) (hb : b ≠ q) : Pl (w.setCell ⟨q, i, none⟩ u) b o l := by
  obtain ⟨hl, hr, ht⟩ := h
  refine ⟨hl, fun j v hv => ?_, there_setCell ht⟩
  rw [World.cell?_setCell_other _ _ _ _ (by intro e; injection e with e; exact hb e.symm)]
  exact hr j v hv

set_option maxHeartbeats 4000000 in
set_option maxRecDepth 100000 in
theorem write_mid (q : Nat) (rs : List R) (m : Nat) (r : R) (w : World) (h : DiskIs w q rs true 0) (hl : rs.length < 200) (hr : Ok r) (hq : q < w.heap.size) (hm : m ≤ 61) :
    Calls Tryd.prog 76 #[.pointer (some ⟨q, 0, none⟩), .int .i64 rs.length, .agg ((full r).map (Value.int .u8)).toArray, .int .i64 m] w fun e w' => e = .returned (.bool false) ∧ DiskIs w' q rs true 0 ∧ Oq q w w' := by
  have hbx := (Below.refl w.heap.size w).alloc (Nat.le_refl _) (.cells ((full r).map (Value.int .u8)).toArray 65)
  have hD := h.below hbx hq
  have hP := Pl.made (w := w) (full_length hr.1) 65
  have hOb : Oq q w (w.alloc (.cells ((full r).map (Value.int .u8)).toArray 65)) := Oq.of_below hbx
  have c0 := hD.fails
  have c1 := hD.left
  have hm0 : ¬ ((m : Int) < 0) := by omega
  have hm1 : (m : Int) ≤ 61 := by omega
  go_enter Tryd.func76, Tryd.ntmps76
  go_wp2_with fail
  generalize w.alloc (.cells ((full r).map (Value.int .u8)).toArray 65) = wb at *
  go_loopw [24] (fun s wr => ∃ i : Nat, i ≤ m ∧ s = .int .i64 i ∧ DiskIs wr q rs true 0 ∧ Pl wr w.heap.size 0 (full r) ∧ Oq q wb wr) (fun s _ => m - (intOf s).toNat)
  case atStart => exact ⟨0, by omega, rfl, hD, hP, Oq.refl _ _⟩
  case round =>
    obtain ⟨i, hi, rfl, hD, hP, hO⟩ := hrel
    by_cases hlt : i < m
    · have hc := (hP.cell (i := i) (by omega)).1
      rw [Nat.zero_add] at hc
      obtain ⟨y, hy⟩ : ∃ y, (full r).getD i 0 = y := ⟨_, rfl⟩
      rw [hy] at hc
      obtain ⟨u, hu⟩ := Option.isSome_iff_exists.1 (hD.all rs.length hl i (by omega)).1
      have hf := hD.free (rs.length * 62 + i)
      have hliI : (rs.length : Int) < 200 := by omega
      have hDn := hD.beside (u := .int .u8 y) (i := rs.length * 62 + i) (by omega) (fun k => by omega) (by omega) (by omega)
      have hPn := hP.far (u := .int .u8 y) (i := rs.length * 62 + i) (show w.heap.size ≠ q by omega)
      clear hy
      go_wp2_with fail
      go_region
      all_goals go_wp2_with fail
      all_goals exact ⟨⟨i + 1, by omega, by go_num, hDn.below (Below.refl (q + 1) _).drew (by omega), hPn.below (Below.refl (w.heap.size + 1) _).drew (by omega), (hO.setCell _).drew⟩, by simp [intOf]; omega⟩
    · go_wp2_with fail
      go_ret
      exact ⟨rfl, hD, hOb.trans hO⟩

set_option maxHeartbeats 4000000 in
set_option maxRecDepth 100000 in
theorem write_high (q : Nat) (rs : List R) (torn : Int) (r : R) (w : World) (h : DiskIs w q rs true 0) (hl : rs.length < 200) (hr : Ok r) (hq : q < w.heap.size) (hm : 61 < torn) :
    Calls Tryd.prog 76 #[.pointer (some ⟨q, 0, none⟩), .int .i64 rs.length, .agg ((full r).map (Value.int .u8)).toArray, .int .i64 torn] w fun e w' => e = .returned (.bool false) ∧ DiskIs w' q rs true 0 ∧ Oq q w w' := by
  have hbx := (Below.refl w.heap.size w).alloc (Nat.le_refl _) (.cells ((full r).map (Value.int .u8)).toArray 65)
  have hD := h.below hbx hq
  have hP := Pl.made (w := w) (full_length hr.1) 65
  have hOb : Oq q w (w.alloc (.cells ((full r).map (Value.int .u8)).toArray 65)) := Oq.of_below hbx
  have c0 := hD.fails
  have c1 := hD.left
  have hm0 : ¬ (torn < 0) := by omega
  go_enter Tryd.func76, Tryd.ntmps76
  go_wp2_with fail
  generalize w.alloc (.cells ((full r).map (Value.int .u8)).toArray 65) = wb at *
  go_loopw [24] (fun s wr => ∃ i : Nat, i ≤ 61 ∧ s = .int .i64 i ∧ DiskIs wr q rs true 0 ∧ Pl wr w.heap.size 0 (full r) ∧ Oq q wb wr) (fun s _ => 61 - (intOf s).toNat)
  case atStart => exact ⟨0, by omega, rfl, hD, hP, Oq.refl _ _⟩
  case round =>
    obtain ⟨i, hi, rfl, hD, hP, hO⟩ := hrel
    by_cases hlt : i < 61
    · have hc := (hP.cell (i := i) (by omega)).1
      rw [Nat.zero_add] at hc
      obtain ⟨y, hy⟩ : ∃ y, (full r).getD i 0 = y := ⟨_, rfl⟩
      rw [hy] at hc
      obtain ⟨u, hu⟩ := Option.isSome_iff_exists.1 (hD.all rs.length hl i (by omega)).1
      have hf := hD.free (rs.length * 62 + i)
      have hliI : (rs.length : Int) < 200 := by omega
      have hDn := hD.beside (u := .int .u8 y) (i := rs.length * 62 + i) (by omega) (fun k => by omega) (by omega) (by omega)
      have hPn := hP.far (u := .int .u8 y) (i := rs.length * 62 + i) (show w.heap.size ≠ q by omega)
      clear hy
      go_wp2_with fail
      go_region
      all_goals go_wp2_with fail
      all_goals exact ⟨⟨i + 1, by omega, by go_num, hDn.below (Below.refl (q + 1) _).drew (by omega), hPn.below (Below.refl (w.heap.size + 1) _).drew (by omega), (hO.setCell _).drew⟩, by simp [intOf]; omega⟩
    · go_wp2_with fail
      go_ret
      exact ⟨rfl, hD, hOb.trans hO⟩

set_option maxHeartbeats 4000000 in
set_option maxRecDepth 100000 in
theorem write_low (q : Nat) (rs : List R) (torn : Int) (r : R) (w : World) (h : DiskIs w q rs true 0) (hr : Ok r) (hq : q < w.heap.size) (hm : torn < 0) :
    Calls Tryd.prog 76 #[.pointer (some ⟨q, 0, none⟩), .int .i64 rs.length, .agg ((full r).map (Value.int .u8)).toArray, .int .i64 torn] w fun e w' => e = .returned (.bool false) ∧ DiskIs w' q rs true 0 ∧ Oq q w w' := by
  have hbx := (Below.refl w.heap.size w).alloc (Nat.le_refl _) (.cells ((full r).map (Value.int .u8)).toArray 65)
  have hD := h.below hbx hq
  have hP := Pl.made (w := w) (full_length hr.1) 65
  have hOb : Oq q w (w.alloc (.cells ((full r).map (Value.int .u8)).toArray 65)) := Oq.of_below hbx
  have c0 := hD.fails
  have c1 := hD.left
  go_enter Tryd.func76, Tryd.ntmps76
  go_wp2_with fail
  generalize w.alloc (.cells ((full r).map (Value.int .u8)).toArray 65) = wb at *
  go_loopw [24] (fun s wr => ∃ i : Nat, i ≤ 0 ∧ s = .int .i64 i ∧ DiskIs wr q rs true 0 ∧ Pl wr w.heap.size 0 (full r) ∧ Oq q wb wr) (fun s _ => 0 - (intOf s).toNat)
  case atStart => exact ⟨0, by omega, rfl, hD, hP, Oq.refl _ _⟩
  case round =>
    obtain ⟨i, hi, rfl, hD, hP, hO⟩ := hrel
    obtain rfl : i = 0 := by omega
    go_wp2_with fail
    go_ret
    exact ⟨rfl, hD, hOb.trans hO⟩

theorem write_off (q : Nat) (rs : List R) (torn : Int) (r : R) (w : World) (h : DiskIs w q rs true 0) (hl : rs.length < 200) (hr : Ok r) (hq : q < w.heap.size) :
    Calls Tryd.prog 76 #[.pointer (some ⟨q, 0, none⟩), .int .i64 rs.length, .agg ((full r).map (Value.int .u8)).toArray, .int .i64 torn] w fun e w' => e = .returned (.bool false) ∧ DiskIs w' q rs true 0 ∧ Oq q w w' := by
  by_cases h0 : torn < 0
  · exact write_low q rs torn r w h hr hq h0
  · by_cases h1 : 61 < torn
    · exact write_high q rs torn r w h hl hr hq h1
    · obtain ⟨m, rfl⟩ := Int.eq_ofNat_of_zero_le (show 0 ≤ torn by omega)
      exact write_mid q rs m r w h hl hr hq (by omega)

set_option maxHeartbeats 4000000 in
set_option maxRecDepth 100000 in
theorem write_free (q : Nat) (rs : List R) (left torn : Int) (r : R) (w : World) (h : DiskIs w q rs false left) (hl : rs.length < 200) (hr : Ok r) (hq : q < w.heap.size) :
    Calls Tryd.prog 76 #[.pointer (some ⟨q, 0, none⟩), .int .i64 rs.length, .agg ((full r).map (Value.int .u8)).toArray, .int .i64 torn] w fun e w' => e = .returned (.bool true) ∧ DiskIs w' q (rs ++ [r]) false left ∧ Oq q w w' := by
  have hbx := (Below.refl w.heap.size w).alloc (Nat.le_refl _) (.cells ((full r).map (Value.int .u8)).toArray 65)
  have hD := h.below hbx hq
  have hP := Pl.made (w := w) (full_length hr.1) 65
  have hOb : Oq q w (w.alloc (.cells ((full r).map (Value.int .u8)).toArray 65)) := Oq.of_below hbx
  have c0 := hD.fails
  have c1 := hD.left
  have hliI : (rs.length : Int) < 200 := by omega
  have hli0 : (0 : Int) ≤ (rs.length : Int) := by omega
  have hu := Tryd.underlying65
  have hcl : ((full r).map (Value.int .u8)).length = 62 := by rw [List.length_map, full_length hr.1]
  have hi := info_place
  rw [← hcl] at hi
  have hone := ints_oneCell .u8 (full r)
  go_enter Tryd.func76, Tryd.ntmps76
  go_wp2_with fail
  have hrg := hP.2.1
  have hth := hD.all rs.length hl
  have FD := (hD.below (Below.refl (q + 1) _).drew (by omega)).added hl hr
  have FO := hOb.drew.setCells (rs.length * 62) ((full r).map (Value.int .u8))
  clear hD hP hOb c0 c1 hbx h
  generalize (full r).map (Value.int .u8) = cs at *
  generalize w.alloc (.cells cs.toArray 65) = wb at *
  go_region_held3 (fun w' => w'.rangeAt w.heap.size 0 cs ∧ w'.there q (rs.length * 62) 62) (go_keep_ranges) (fail)
  all_goals go_wp2_with fail
  all_goals go_ret
  exact ⟨rfl, FD, FO⟩

set_option maxHeartbeats 4000000 in
set_option maxRecDepth 100000 in
theorem write_cut (q : Nat) (rs : List R) (left torn : Int) (r : R) (w : World) (h : DiskIs w q rs true left) (hl : rs.length < 200) (hr : Ok r) (hq : q < w.heap.size) (hp0 : 0 < left) (hp1 : left ≤ 9223372036854775807) :
    Calls Tryd.prog 76 #[.pointer (some ⟨q, 0, none⟩), .int .i64 rs.length, .agg ((full r).map (Value.int .u8)).toArray, .int .i64 torn] w fun e w' => e = .returned (.bool true) ∧ DiskIs w' q (rs ++ [r]) true (left - 1) ∧ Oq q w w' := by
  have hbx := (Below.refl w.heap.size w).alloc (Nat.le_refl _) (.cells ((full r).map (Value.int .u8)).toArray 65)
  have hD := h.below hbx hq
  have hP := Pl.made (w := w) (full_length hr.1) 65
  have hOb : Oq q w (w.alloc (.cells ((full r).map (Value.int .u8)).toArray 65)) := Oq.of_below hbx
  have c0 := hD.fails
  have c1 := hD.left
  have hf1 := hD.free 12401
  have hpb : (left == 0) = false := by simp; omega
  have hliI : (rs.length : Int) < 200 := by omega
  have hli0 : (0 : Int) ≤ (rs.length : Int) := by omega
  have hu := Tryd.underlying65
  have hcl : ((full r).map (Value.int .u8)).length = 62 := by rw [List.length_map, full_length hr.1]
  have hi := info_place
  rw [← hcl] at hi
  have hone := ints_oneCell .u8 (full r)
  go_enter Tryd.func76, Tryd.ntmps76
  go_wp2_with fail
  have hsw : (w.setCell ⟨q, 12401, none⟩ (.int .i64 (left - 1))).heap.size = w.heap.size := by simp
  replace hbx := (Below.refl w.heap.size (w.setCell ⟨q, 12401, none⟩ (.int .i64 (left - 1)))).alloc (by rw [hsw]; exact Nat.le_refl _) (.cells ((full r).map (Value.int .u8)).toArray 65)
  replace hD := (h.setLeft (left - 1)).below hbx hq
  replace hP := Pl.made (w := w.setCell ⟨q, 12401, none⟩ (.int .i64 (left - 1))) (full_length hr.1) 65
  rw [hsw] at hP
  replace hOb := ((Oq.refl q w).setCell (i := 12401) (.int .i64 (left - 1))).trans (Oq.of_below (hbx.mono (by rw [hsw]; exact Nat.le_refl _)))
  have hrg := hP.2.1
  have hth := hD.all rs.length hl
  have FD := (hD.below (Below.refl (q + 1) _).drew (by omega)).added hl hr
  have FO := hOb.drew.setCells (rs.length * 62) ((full r).map (Value.int .u8))
  clear hD hP hOb c0 c1 hf1 hbx h hsw
  generalize (full r).map (Value.int .u8) = cs at *
  generalize (w.setCell ⟨q, 12401, none⟩ (.int .i64 (left - 1))).alloc (.cells cs.toArray 65) = wb at *
  go_region_held3 (fun w' => w'.rangeAt w.heap.size 0 cs ∧ w'.there q (rs.length * 62) 62) (go_keep_ranges) (fail)
  all_goals go_wp2_with fail
  all_goals go_ret
  exact ⟨rfl, FD, FO⟩
end Go.Proofs.YtbebfliimjjohaaDoor.Wal
