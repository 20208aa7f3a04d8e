/-
  Parts of the proof: WalPut WalGet WalDisk WalWrite.
-/
import Derived.Test.YtbebfliimjjohaaGreatDoorLa07
import Derived.StillTailTactics
import Derived.BigRegion
import Derived.Deep.MidRow
import Derived.Maps.RangeWalk
import Derived.Test.YtbebfliimjjohaaGreatDoorLa03
import Derived.Test.YtbebfliimjjohaaGreatDoorLa01
import Derived.BigQuiet
import Derived.Deep.QuietTactic
import Derived.Deep.RegionHeld3
section
namespace Go.Proofs.YtbebfliimjjohaaGreatDoor.Wal
open Go.RowKit
open Num (inB ints)
open Wire (bcell)
abbrev ptrs (b : Nat) : Array Value := #[.pointer (some ⟨b, 0, none⟩), .pointer (some ⟨b, 1, none⟩), .pointer (some ⟨b, 2, none⟩), .pointer (some ⟨b, 3, none⟩), .pointer (some ⟨b, 5, none⟩)]

def fld (i : Nat) : Nat := if i = 4 then 5 else i

set_option maxHeartbeats 1000000 in
set_option maxRecDepth 100000 in
theorem numbers_any (b : Nat) (w : World) :
    Calls Tryz.prog 136 #[.pointer (some ⟨b, 0, none⟩)] w fun e w' => e = .returned (.agg (ptrs b)) ∧ Below w.heap.size w w' := by
  go_enter Tryz.func136, Tryz.ntmps136
  go_wp2
  go_still_tail 16, (by kernel_rfl)
  change wpList _ _ _ _ _ (World.drew (w.alloc _))
  go_wp2
  refine bodyPost_ret (v := .agg (ptrs b)) (by simp [ptrs, results, Tryz.results136, go_sem]) rfl ⟨rfl, ((Below.refl _ _).alloc (Nat.le_refl _) _).drew⟩

theorem five {Q : Nat → Prop} (h0 : Q 0) (h1 : Q 1) (h2 : Q 2) (h3 : Q 3) (h4 : Q 4) : ∀ k, k < 5 → Q k := by
  intro k hk
  match k, hk with
  | 0, _ => exact h0
  | 1, _ => exact h1
  | 2, _ => exact h2
  | 3, _ => exact h3
  | 4, _ => exact h4

theorem agg_index (b : Nat) : ∀ k : Nat, k < 5 → ∀ w, (Instr.index 211 (.agg (ptrs b)) (.int .i64 (k : Int))).run Tryz.prog w = .ok (.pointer (some ⟨b, fld k, none⟩)) w := by
  apply five <;> (intro w; kernel_rfl)

theorem byte_eq (x : Int) (j : Nat) : x / 2 ^ (8 * j) % 256 = byteAt x j := by
  unfold byteAt
  rw [Int.pow_mul]
  rfl

def Pl (w : World) (b o : Nat) (l : List Int) : Prop := l.length = 62 ∧ w.rangeAt b o (l.map (Value.int .u8)) ∧ w.there b o 62

theorem Pl.cell {w : World} {b o : Nat} {l : List Int} (h : Pl w b o l) {i : Nat} (hi : i < 62) : w.cell? ⟨b, o + i, none⟩ = some (.int .u8 (l.getD i 0)) ∧ w.frozen? ⟨b, o + i, none⟩ = false := by
  obtain ⟨hl, hr, ht⟩ := h
  refine ⟨hr i _ ?_, (ht i hi).2⟩
  rw [List.getElem?_map, List.getD_eq_getElem?_getD, List.getElem?_eq_getElem (by omega)]
  rfl

theorem Pl.set {w : World} {b o : Nat} {l : List Int} (h : Pl w b o l) (i : Nat) (x : Int) : Pl (w.setCell ⟨b, o + i, none⟩ (.int .u8 x)) b o (l.set i x) := by
  obtain ⟨hl, hr, ht⟩ := h
  refine ⟨by rw [List.length_set]; exact hl, fun j v hv => ?_, fun j hj => ⟨?_, ?_⟩⟩
  · rw [List.map_set, List.getElem?_set] at hv
    by_cases hij : i = j
    · subst hij
      rw [if_pos rfl] at hv
      split at hv
      · rename_i hlt
        rw [List.length_map] at hlt
        obtain ⟨u, hu⟩ := Option.isSome_iff_exists.1 (ht i (by omega)).1
        rw [World.cell?_setCell_same _ _ _ hu]
        exact hv
      · cases hv
    · rw [if_neg hij] at hv
      rw [World.cell?_setCell_other _ _ _ _ (by intro e; injection e with _ e; omega)]
      exact hr j v hv
  · obtain ⟨u, hu⟩ := Option.isSome_iff_exists.1 (ht j hj).1
    by_cases hij : i = j
    · subst hij
      rw [World.cell?_setCell_same _ _ _ hu]
      rfl
    · rw [World.cell?_setCell_other _ _ _ _ (by intro e; injection e with _ e; omega), hu]
      rfl
  · rw [World.frozen?_setCell]
    exact (ht j hj).2

theorem Pl.below {w w' : World} {b o C : Nat} {l : List Int} (h : Pl w b o l) (hb : Below C w w') (hC : b < C) : Pl w' b o l := by
  obtain ⟨hl, hr, ht⟩ := h
  exact ⟨hl, fun j v hv => (hb.cell (p := ⟨b, o + j, none⟩) hC).trans (hr j v hv), fun j hj => ⟨by rw [hb.cell (p := ⟨b, o + j, none⟩) hC]; exact (ht j hj).1, (hb.frozen (p := ⟨b, o + j, none⟩) hC).trans (ht j hj).2⟩⟩

theorem Pl.new (w : World) (t : TypeId) : Pl (w.alloc (.cells (Array.replicate 62 (.int .u8 0)) t)) w.heap.size 0 (pad []) := by
  have hc : ∀ j, j < 62 → (w.alloc (.cells (Array.replicate 62 (.int .u8 0)) t)).cell? ⟨w.heap.size, 0 + j, none⟩ = some (.int .u8 0) := fun j hj => by
    rw [cell_of_row _ _ _ _ _ _ (heap_alloc_new w _), Array.getElem?_replicate, if_pos (by omega)]
  refine ⟨rfl, fun j v hv => ?_, fun j hj => ⟨by rw [hc j hj]; rfl, by simp⟩⟩
  have hj : j < 62 := by have := (List.getElem?_eq_some_iff.1 hv).1; simpa [pad] using this
  rw [hc j hj, ← hv, pad_nil, List.map_replicate, List.getElem?_replicate, if_pos hj]

theorem Pl.step {w : World} {b t : Nat} {F : List Int} {v : Int} (h : Pl w b 0 (pad (F.take t))) (hF : F.length = 62) (ht : t < 62) (hv : v = F.getD t 0) : Pl (w.setCell ⟨b, t, none⟩ (.int .u8 v)) b 0 (pad (F.take (t + 1))) := by
  have h1 := h.set t v
  rw [Nat.zero_add, hv, pad_set hF ht] at h1
  rw [hv]
  exact h1

theorem bel_cells {B b : Nat} {a : World} (hb : B ≤ b) : ∀ (vs : List Value) (o : Nat) (w : World), Below B a w → Below B a (w.setCells b o vs)
  | [], _, _, h => h
  | v :: r, o, w, h => bel_cells hb r (o + 1) _ (h.setCell (by exact hb) v)

theorem text_at (d : ByteArray) (m : Nat) (h : m < d.size) : (ints d).getD m 0 = ((d[m]).toNat : Int) := by
  have hj : m < d.data.size := h
  unfold Num.ints
  rw [List.getD_eq_getElem?_getD, List.getElem?_map, Array.getElem?_toList, Array.getElem?_eq_getElem hj]
  rfl

theorem info_place : (Tryz.prog.info? 65).map (·.size) = some 62 := by kernel_rfl

theorem nums_made {w w1 : World} {r : R} {t : TypeId} {o : Obj} (hb : Below ((w.alloc (.cells #[.int .i64 r.c, .int .i64 r.n, .int .i64 r.o, .int .i64 r.v, .string r.d, .int .i64 r.e] t)).alloc o).heap.size ((w.alloc (.cells #[.int .i64 r.c, .int .i64 r.n, .int .i64 r.o, .int .i64 r.v, .string r.d, .int .i64 r.e] t)).alloc o) w1) :
    (∀ i, i < 5 → w1.cell? ⟨w.heap.size, fld i, none⟩ = some (.int .i64 ((nums r).getD i 0))) ∧ w1.cell? ⟨w.heap.size, 4, none⟩ = some (.string r.d) := by
  have hc : ∀ i, w1.cell? ⟨w.heap.size, i, none⟩ = #[Value.int .i64 r.c, .int .i64 r.n, .int .i64 r.o, .int .i64 r.v, .string r.d, .int .i64 r.e][i]? := fun i => by
    rw [hb.cell (p := ⟨w.heap.size, i, none⟩) (by simp; omega), World.cell?_alloc_lt _ _ ⟨w.heap.size, i, none⟩ (by simp), cell_of_row _ _ _ _ _ _ (heap_alloc_new w _)]
  refine ⟨?_, hc 4⟩
  apply five
  · exact hc 0
  · exact hc 1
  · exact hc 2
  · exact hc 3
  · exact hc 5

set_option maxHeartbeats 4000000 in
set_option maxRecDepth 100000 in
theorem written_any (r : R) (w : World) (hd : r.d.size ≤ 20) :
    Calls Tryz.prog 116 #[r.agg] w fun x w' => x = .returned (.agg ((full r).map (Value.int .u8)).toArray) ∧ Below w.heap.size w w' := by
  have hF := full_length hd
  go_enter Tryz.func116, Tryz.ntmps116
  go_wp2_with fail
  refine (numbers_any w.heap.size _).mono ?_
  rintro e w1 ⟨rfl, hb1⟩
  obtain ⟨hr, hs⟩ := nums_made hb1
  have hp := (Pl.new (w.alloc (.cells #[.int .i64 r.c, .int .i64 r.n, .int .i64 r.o, .int .i64 r.v, .string r.d, .int .i64 r.e] 104)) 65).below hb1 (by simp)
  rw [show (w.alloc (.cells #[.int .i64 r.c, .int .i64 r.n, .int .i64 r.o, .int .i64 r.v, .string r.d, .int .i64 r.e] 104)).heap.size = w.heap.size + 1 by simp] at hp
  have hbw : Below w.heap.size w w1 := (((Below.refl _ _).alloc (Nat.le_refl _) _).alloc (by simp) _).trans (hb1.mono (by simp; omega))
  have hz1 : w.heap.size + 1 < w1.heap.size := by have := hb1.size; simp at this; omega
  clear hb1
  go_wp2_with fail
  go_loopw [8] (fun s wr => ∃ i : Nat, i ≤ 5 ∧ s = .int .i64 i ∧ Pl wr (w.heap.size + 1) 0 (pad ((full r).take (i * 8))) ∧ Below (w.heap.size + 1) w1 wr) (fun s _ => 5 - (intOf s).toNat)
  case atStart => exact ⟨0, by omega, rfl, hp, Below.refl _ _⟩
  case round =>
    obtain ⟨i, hi, rfl, hP, hB⟩ := hrel
    by_cases hlt : i < 5
    · have hix := agg_index w.heap.size i hlt
      have hri := hr i hlt
      clear hr
      obtain ⟨x, hx⟩ : ∃ x, (nums r).getD i 0 = x := ⟨_, rfl⟩
      rw [hx] at hri
      have HX : Hid ((nums r).getD i 0 = x) := hx
      clear hx
      go_wp2_with fail
      go_loopw [12] (fun s wr => ∃ j : Nat, j ≤ 8 ∧ s = .int .i64 j ∧ Pl wr (w.heap.size + 1) 0 (pad ((full r).take (i * 8 + j))) ∧ Below (w.heap.size + 1) w1 wr) (fun s _ => 8 - (intOf s).toNat)
      case atStart => exact ⟨0, by omega, rfl, hP, hB⟩
      case round =>
        obtain ⟨j, hj, rfl, hP, hB⟩ := hrel
        by_cases hjl : j < 8
        · have hrj := (hB.cell (p := ⟨w.heap.size, fld i, none⟩) (by dsimp only; omega)).trans hri
          obtain ⟨hc0, hf0⟩ := hP.cell (i := i * 8 + j) (by omega)
          rw [Nat.zero_add] at hc0 hf0
          go_wp2_with fail
          refine ⟨⟨j + 1, by omega, by go_num, ?_, hB.setCell (Nat.le_refl _) _⟩, by simp [intOf]; omega⟩
          refine hP.step hF (by omega) ?_
          rw [byte_eq, full_num (by omega), show (i * 8 + j) / 8 = i by omega, show (i * 8 + j) % 8 = j by omega, HX.out]
        · obtain rfl : j = 8 := by omega
          go_wp2_with fail
          exact ⟨⟨i + 1, by omega, by go_num, by rw [show (i + 1) * 8 = i * 8 + 8 by omega]; exact hP, hB⟩, by simp [intOf]; omega⟩
    · obtain rfl : i = 5 := by omega
      have hsj := (hB.cell (p := ⟨w.heap.size, 4, none⟩) (by dsimp only; omega)).trans hs
      obtain ⟨hc0, hf0⟩ := hP.cell (i := 40) (by omega)
      rw [Nat.zero_add] at hc0 hf0
      have hdi : (r.d.size : Int) ≤ 20 := by omega
      go_wp2_with fail
      have hP1 := hP.step hF (by omega) (full_len (r := r)).symm
      have hB1 := hB.setCell (p := ⟨w.heap.size + 1, 40, none⟩) (Nat.le_refl _) (.int .u8 r.d.size)
      generalize wr.setCell ⟨w.heap.size + 1, 40, none⟩ (.int .u8 r.d.size) = wt at *
      clear hP hB hc0 hf0 hsj
      go_loopw [37] (fun s wr => ∃ m : Nat, m ≤ r.d.size ∧ s = .int .i64 m ∧ Pl wr (w.heap.size + 1) 0 (pad ((full r).take (41 + m))) ∧ Below (w.heap.size + 1) w1 wr) (fun s _ => r.d.size - (intOf s).toNat)
      case atStart => exact ⟨0, by omega, rfl, hP1, hB1⟩
      case round =>
        obtain ⟨m, hm, rfl, hP, hB⟩ := hrel
        have hsj := (hB.cell (p := ⟨w.heap.size, 4, none⟩) (by dsimp only; omega)).trans hs
        by_cases hml : m < r.d.size
        · obtain ⟨hc0, hf0⟩ := hP.cell (i := 41 + m) (by omega)
          rw [Nat.zero_add] at hc0 hf0
          go_wp2_with fail
          refine ⟨⟨m + 1, by omega, by go_num, ?_, hB.setCell (Nat.le_refl _) _⟩, by simp [intOf]; omega⟩
          refine hP.step hF (by omega) ?_
          rw [full_text hml]
          exact (text_at r.d m hml).symm
        · obtain rfl : m = r.d.size := by omega
          obtain ⟨hc0, hf0⟩ := hP.cell (i := 61) (by omega)
          rw [Nat.zero_add] at hc0 hf0
          have hP2 := hP.set 61 1
          rw [Nat.zero_add, pad_end hd] at hP2
          have hB2 := hB.setCell (p := ⟨w.heap.size + 1, 61, none⟩) (Nat.le_refl _) (.int .u8 1)
          have hsz : ((full r).map (Value.int .u8)).toArray.size = 62 := by simp [hF]
          have hi := info_place
          rw [← hF, ← List.length_map (Value.int .u8)] at hi
          have hi2 := info_place
          rw [← hsz] at hi2
          have ht := hP2.2.2
          have hone : ((full r).map (Value.int .u8)).toArray.all (·.oneCell') = true := all_oneCell_toArray (ints_oneCell _ _)
          rw [← hsz] at ht
          have hres := run_loadVar_mid (P := Tryz.prog) _ (w.heap.size + 1) 0 65 ((full r).map (Value.int .u8)) _ (World.rangeAt_setCells_same _ _ _ _ (by rw [List.length_map, hF]; exact hP2.2.2)) Tryz.underlying65 rfl hi
          have hB3 : Below (w.heap.size + 1) w1 ((wr.setCell ⟨w.heap.size + 1, 61, none⟩ (.int .u8 1)).setCells (w.heap.size + 1) 0 ((full r).map (Value.int .u8))) := bel_cells (Nat.le_refl _) _ _ _ hB2
          go_wp2_with (first | (refine wpList_load_mid rfl 65 (.tmp 2) rfl _ _ rfl _ _ hP2.2.1 Tryz.underlying65 rfl hi ?_) | (refine wpList_store_mid rfl 65 (.tmp 2) (.tmp 49) rfl _ _ _ rfl rfl ht hi2 hone ?_))
          generalize (wr.setCell ⟨w.heap.size + 1, 61, none⟩ (.int .u8 1)).setCells (w.heap.size + 1) 0 ((full r).map (Value.int .u8)) = wz at *
          refine bodyPost_ret (v := .agg ((full r).map (Value.int .u8)).toArray) ?_ rfl ⟨rfl, ?_⟩
          · go_frame
            simp [results, Tryz.results116, asAddr, hres]
          · exact hbw.trans (hB3.mono (by omega))

end Go.Proofs.YtbebfliimjjohaaGreatDoor.Wal
end

section
namespace Go.Proofs.YtbebfliimjjohaaGreatDoor.Wal
open Go.RowKit
open Num (inB ints strOf)
open Wire (bcell)
def RecIs (w : World) (b : Nat) (l : List Int) (s : ByteArray) : Prop := (∀ i, i < 5 → w.cell? ⟨b, fld i, none⟩ = some (.int .i64 (l.getD i 0))) ∧ w.cell? ⟨b, 4, none⟩ = some (.string s) ∧ ∀ i, w.frozen? ⟨b, i, none⟩ = false

theorem fld_inj {i k : Nat} (hi : i < 5) (hk : k < 5) (h : fld i = fld k) : i = k := by
  unfold fld at h
  split at h <;> split at h <;> omega

theorem fld_four {i : Nat} (_hi : i < 5) : fld i ≠ 4 := by unfold fld; split <;> omega

theorem RecIs.set {w : World} {b : Nat} {l : List Int} {s : ByteArray} (h : RecIs w b l s) (hl : l.length = 5) {i : Nat} (hi : i < 5) (x : Int) : RecIs (w.setCell ⟨b, fld i, none⟩ (.int .i64 x)) b (l.set i x) s := by
  obtain ⟨h1, h2, h3⟩ := h
  refine ⟨fun k hk => ?_, ?_, fun k => by rw [World.frozen?_setCell]; exact h3 k⟩
  · by_cases e : i = k
    · subst e
      rw [World.cell?_setCell_same _ _ _ (h1 i hi), List.getD_eq_getElem?_getD, List.getElem?_set_self (by omega)]
      rfl
    · rw [World.cell?_setCell_other _ _ _ _ (by intro e'; injection e' with _ e'; exact e (fld_inj hi hk e')), h1 k hk, List.getD_eq_getElem?_getD, List.getD_eq_getElem?_getD, List.getElem?_set_ne e]
  · rw [World.cell?_setCell_other _ _ _ _ (by intro e'; injection e' with _ e'; exact fld_four hi e'), h2]

theorem RecIs.below {w w' : World} {b C : Nat} {l : List Int} {s : ByteArray} (h : RecIs w b l s) (hb : Below C w w') (hC : b < C) : RecIs w' b l s :=
  ⟨fun i hi => (hb.cell (p := ⟨b, fld i, none⟩) hC).trans (h.1 i hi), (hb.cell (p := ⟨b, 4, none⟩) hC).trans h.2.1, fun i => (hb.frozen (p := ⟨b, i, none⟩) hC).trans (h.2.2 i)⟩

def acc (r : R) (i j : Nat) : List Int := (nums r).take i ++ part ((nums r).getD i 0) j :: List.replicate (4 - i) 0

def outer (r : R) (i : Nat) : List Int := (nums r).take i ++ List.replicate (5 - i) 0

theorem outer_acc (r : R) : ∀ i, i < 5 → outer r i = acc r i 0 := by apply five <;> simp [outer, acc, part_zero, List.replicate]

theorem acc_outer (r : R) : ∀ i, i < 5 → acc r i 8 = outer r (i + 1) := by apply five <;> simp [outer, acc, part_end, nums, List.replicate]

theorem acc_length (r : R) : ∀ i, i < 5 → ∀ j, (acc r i j).length = 5 := by apply five <;> (intro j; simp [acc, nums])

theorem acc_at (r : R) (j : Nat) : ∀ i, i < 5 → (acc r i j).getD i 0 = part ((nums r).getD i 0) j := by apply five <;> simp [acc, nums]

theorem acc_set (r : R) (j : Nat) : ∀ i, i < 5 → (acc r i j).set i (part ((nums r).getD i 0) (j + 1)) = acc r i (j + 1) := by apply five <;> simp [acc, nums]

theorem outer_end (r : R) : outer r 5 = nums r := by simp [outer, nums]

theorem rec_new (r : R) (w : World) (t : TypeId) : RecIs (w.alloc (.cells #[.int .i64 0, .int .i64 0, .int .i64 0, .int .i64 0, .string ⟨#[]⟩, .int .i64 0] t)) w.heap.size (outer r 0) ⟨#[]⟩ := by
  have hc : ∀ i, (w.alloc (.cells #[.int .i64 0, .int .i64 0, .int .i64 0, .int .i64 0, .string ⟨#[]⟩, .int .i64 0] t)).cell? ⟨w.heap.size, i, none⟩ = #[Value.int .i64 0, .int .i64 0, .int .i64 0, .int .i64 0, .string ⟨#[]⟩, .int .i64 0][i]? := fun i => cell_of_row _ _ _ _ _ _ (heap_alloc_new w _)
  refine ⟨?_, hc 4, fun i => by simp⟩
  apply five
  · exact hc 0
  · exact hc 1
  · exact hc 2
  · exact hc 3
  · exact hc 5

theorem Pl.made {w : World} {l : List Int} (hl : l.length = 62) (t : TypeId) : Pl (w.alloc (.cells (l.map (Value.int .u8)).toArray t)) w.heap.size 0 l := by
  have hc : ∀ j, (w.alloc (.cells (l.map (Value.int .u8)).toArray t)).cell? ⟨w.heap.size, 0 + j, none⟩ = (l.map (Value.int .u8))[j]? := fun j => by
    rw [cell_of_row _ _ _ _ _ _ (heap_alloc_new w _), Nat.zero_add, List.getElem?_toArray]
  refine ⟨hl, fun j v hv => (hc j).trans hv, fun j hj => ⟨?_, by simp⟩⟩
  rw [hc j, List.getElem?_eq_getElem (by simpa using by omega)]
  rfl

def R.cells (r : R) : List Value := [.int .i64 r.c, .int .i64 r.n, .int .i64 r.o, .int .i64 r.v, .string r.d, .int .i64 r.e]

theorem R.cells_length (r : R) : r.cells.length = 6 := rfl

theorem R.cells_one (r : R) : ∀ u ∈ r.cells, u.oneCell' = true := by
  intro u hu
  simp [R.cells] at hu
  rcases hu with rfl | rfl | rfl | rfl | rfl | rfl <;> rfl

theorem info_rec : (Tryz.prog.info? 104).map (·.size) = some 6 := by kernel_rfl

theorem rec_range {w : World} {b : Nat} {r : R} {s : ByteArray} (h : RecIs w b (nums r) s) : (w.setCell ⟨b, 4, none⟩ (.string r.d)).rangeAt b 0 r.cells ∧ (w.setCell ⟨b, 4, none⟩ (.string r.d)).there b 0 6 := by
  obtain ⟨h1, h2, h3⟩ := h
  have hr : (w.setCell ⟨b, 4, none⟩ (.string r.d)).rangeAt b 0 r.cells := fun j v hv => by
    rw [Nat.zero_add]
    have hj : j < 6 := (List.getElem?_eq_some_iff.1 hv).1
    match j, hj, hv with
    | 0, _, hv => rw [World.cell?_setCell_other _ _ _ _ (by simp)]; exact (h1 0 (by omega)).trans hv
    | 1, _, hv => rw [World.cell?_setCell_other _ _ _ _ (by simp)]; exact (h1 1 (by omega)).trans hv
    | 2, _, hv => rw [World.cell?_setCell_other _ _ _ _ (by simp)]; exact (h1 2 (by omega)).trans hv
    | 3, _, hv => rw [World.cell?_setCell_other _ _ _ _ (by simp)]; exact (h1 3 (by omega)).trans hv
    | 4, _, hv => rw [World.cell?_setCell_same _ _ _ h2]; exact hv
    | 5, _, hv => rw [World.cell?_setCell_other _ _ _ _ (by simp)]; exact (h1 4 (by omega)).trans hv
  exact ⟨hr, fun j hj => ⟨hr.isSome j hj, by rw [World.frozen?_setCell]; exact h3 _⟩⟩

theorem place_row : Tryz.prog.underlying 65 = some (.array (Tryz.prog.arrayLen 65) (Tryz.prog.elem 65)) := by kernel_rfl

theorem place_len : Tryz.prog.arrayLen 65 = 62 := by kernel_rfl

theorem place_size (w : World) : (sizeOf (Tryz.prog.elem 65)).run Tryz.prog w = .ok 1 w := by kernel_rfl

theorem text_slice (b n : Nat) (w : World) (hn : n ≤ 20) : (Instr.sliceAt 65 (.pointer (some ⟨b, 0, none⟩)) (some (.int .i64 41)) (some (.int .i64 (41 + (n : Int)))) none).run Tryz.prog w = .ok (.slice (some ⟨b, 41, none⟩) n 21) w := by
  have hl := place_len
  rw [run_sliceAt_array_lh w _ ⟨b, 0, none⟩ place_row .i64 .i64 41 (41 + (n : Int)) (by omega) (by omega) (by rw [hl]; omega), place_size]
  simp only [Result.andThen_ok, slicedAt, hl]
  rw [if_neg (by decide), show (41 + (n : Int)).toNat - (41 : Int).toNat = n by omega]
  rfl

set_option maxHeartbeats 4000000 in
set_option maxRecDepth 100000 in
theorem read_any (r : R) (w : World) (hd : r.d.size ≤ 20) (hok : ∀ i, i < 5 → okN ((nums r).getD i 0)) :
    Calls Tryz.prog 111 #[.agg ((full r).map (Value.int .u8)).toArray] w fun x w' => x = .returned r.agg ∧ Below w.heap.size w w' := by
  have hF := full_length hd
  go_enter Tryz.func111, Tryz.ntmps111
  go_wp2_with fail
  refine (numbers_any (w.heap.size + 1) _).mono ?_
  rintro e w1 ⟨rfl, hb1⟩
  have hp0 := ((Pl.made hF 65).below ((Below.refl (w.heap.size + 1) (w.alloc (.cells ((full r).map (Value.int .u8)).toArray 65))).alloc (by simp) (.cells #[.int .i64 0, .int .i64 0, .int .i64 0, .int .i64 0, .string ⟨#[]⟩, .int .i64 0] 104)) (by omega)).below hb1 (by simp; omega)
  have hr0 := (rec_new r (w.alloc (.cells ((full r).map (Value.int .u8)).toArray 65)) 104).below hb1 (by simp)
  rw [show (w.alloc (.cells ((full r).map (Value.int .u8)).toArray 65)).heap.size = w.heap.size + 1 by simp] at hr0
  have hbw : Below w.heap.size w w1 := (((Below.refl _ _).alloc (Nat.le_refl _) _).alloc (by simp) _).trans (hb1.mono (by simp; omega))
  have hz1 : w.heap.size + 1 < w1.heap.size := by have := hb1.size; simp at this; omega
  clear hb1
  go_wp2_with fail
  go_loopw [7] (fun s wr => ∃ i : Nat, i ≤ 5 ∧ s = .int .i64 i ∧ RecIs wr (w.heap.size + 1) (outer r i) ⟨#[]⟩ ∧ Below (w.heap.size + 1) w1 wr) (fun s _ => 5 - (intOf s).toNat)
  case atStart => exact ⟨0, by omega, rfl, hr0, Below.refl _ _⟩
  case round =>
    obtain ⟨i, hi, rfl, hR, hB⟩ := hrel
    by_cases hlt : i < 5
    · have hix := agg_index (w.heap.size + 1) i hlt
      rw [outer_acc r i hlt] at hR
      have hoki := hok i hlt
      go_wp2_with fail
      go_loopw [11] (fun s wr => ∃ j : Nat, j ≤ 8 ∧ s = .int .i64 j ∧ RecIs wr (w.heap.size + 1) (acc r i j) ⟨#[]⟩ ∧ Below (w.heap.size + 1) w1 wr) (fun s _ => 8 - (intOf s).toNat)
      case atStart => exact ⟨0, by omega, rfl, hR, hB⟩
      case round =>
        obtain ⟨j, hj, rfl, hR, hB⟩ := hrel
        by_cases hjl : j < 8
        · have hn := hR.1 i hlt
          rw [acc_at r j i hlt] at hn
          have hfz := hR.2.2 (fld i)
          have hpc := ((hp0.below hB (by omega)).cell (i := i * 8 + j) (by omega)).1
          rw [Nat.zero_add, full_num (by omega), show (i * 8 + j) / 8 = i by omega, show (i * 8 + j) % 8 = j by omega] at hpc
          have hS := or_step _ j hoki hjl
          have hbb := byteAt_bd ((nums r).getD i 0) j
          have hset := hR.set (acc_length r i hlt j) hlt (part ((nums r).getD i 0) (j + 1))
          rw [acc_set r j i hlt] at hset
          have HSET : Hid (RecIs (wr.setCell ⟨w.heap.size + 1, fld i, none⟩ (.int .i64 (part ((nums r).getD i 0) (j + 1)))) (w.heap.size + 1) (acc r i (j + 1)) ⟨#[]⟩) := hset
          clear hset
          obtain ⟨x, hx⟩ : ∃ x, (nums r).getD i 0 = x := ⟨_, rfl⟩
          rw [hx] at hn hpc hS hbb HSET
          clear hx
          obtain ⟨y, hy⟩ : ∃ y, byteAt x j = y := ⟨_, rfl⟩
          rw [hy] at hpc hS hbb
          obtain ⟨u, hu⟩ : ∃ u, part x j = u := ⟨_, rfl⟩
          rw [hu] at hn hS
          have HS : Hid (bits .or .i64 u (wrap64 (y * 2 ^ (8 * j))) = part x (j + 1)) := by
            show bits .or .i64 u (wrap64 (y * 2 ^ (8 * j))) = part x (j + 1)
            unfold wrap64
            rw [IntKind.wrap_i64] at hS
            exact hS
          clear hS hy hu
          go_wp2_with fail
          go_region
          go_wp2_with fail
          rw [HS.out]
          exact ⟨⟨j + 1, by omega, by go_num, HSET.out.below (Below.refl (w.heap.size + 1 + 1) _).drew (by omega), (hB.setCell (Nat.le_refl _) _).drew⟩, by simp [intOf]; omega⟩
        · obtain rfl : j = 8 := by omega
          rw [acc_outer r i hlt] at hR
          go_wp2_with fail
          exact ⟨⟨i + 1, by omega, by go_num, hR, hB⟩, by simp [intOf]; omega⟩
    · obtain rfl : i = 5 := by omega
      rw [outer_end] at hR
      have hp := hp0.below hB (by omega)
      have hpc := (hp.cell (i := 40) (by omega)).1
      rw [Nat.zero_add, full_len] at hpc
      have hdi : (r.d.size : Int) ≤ 20 := by omega
      have hcv : (convert 59 9 (.slice (some ⟨w.heap.size, 41, none⟩) r.d.size 21)).run Tryz.prog wr = .ok (.string r.d) wr := by
        have h := Wire.conv_cells (w := wr) ⟨w.heap.size, 41, none⟩ (ints r.d) 21 (fun j v hv => ?_)
        · rw [Num.ints_length, Num.strOf_ints] at h
          exact h
        · have hj : j < r.d.size := by have := (List.getElem?_eq_some_iff.1 hv).1; rw [List.length_map, Num.ints_length] at this; exact this
          have hc := (hp.cell (i := 41 + j) (by omega)).1
          rw [Nat.zero_add, full_text hj] at hc
          rw [Addr.add_mid, hc, ← hv, List.getElem?_map, List.getD_eq_getElem?_getD, List.getElem?_eq_getElem (by rw [Num.ints_length]; exact hj)]
          rfl
      have hsl := text_slice w.heap.size r.d.size wr hd
      have hf4 := hR.2.2 4
      have hc4 := hR.2.1
      obtain ⟨hrg, hth⟩ := rec_range hR
      have hi : (Tryz.prog.info? 104).map (·.size) = some r.cells.length := info_rec
      have hi2 : (Tryz.prog.info? 104).map (·.size) = some r.cells.toArray.size := info_rec
      have hone : r.cells.toArray.all (·.oneCell') = true := all_oneCell_toArray r.cells_one
      have hres := run_loadVar_mid (P := Tryz.prog) _ (w.heap.size + 1) 0 104 r.cells _ (World.rangeAt_setCells_same _ _ _ _ hth) Tryz.underlying104 rfl hi
      have hB3 : Below (w.heap.size + 1) w1 ((wr.setCell ⟨w.heap.size + 1, 4, none⟩ (.string r.d)).setCells (w.heap.size + 1) 0 r.cells) := bel_cells (Nat.le_refl _) _ _ _ (hB.setCell (Nat.le_refl _) _)
      go_wp2_with (first | (refine wpList_load_mid rfl 104 (.tmp 2) rfl _ _ rfl _ _ hrg Tryz.underlying104 rfl hi ?_) | (refine wpList_store_mid rfl 104 (.tmp 2) (.tmp 38) rfl _ _ r.cells.toArray rfl rfl hth hi2 hone ?_))
      generalize (wr.setCell ⟨w.heap.size + 1, 4, none⟩ (.string r.d)).setCells (w.heap.size + 1) 0 r.cells = wz at *
      refine bodyPost_ret (v := r.agg) ?_ rfl ⟨rfl, ?_⟩
      · go_frame
        simp [results, Tryz.results111, asAddr, hres]
        rfl
      · exact hbw.trans (hB3.mono (by omega))

end Go.Proofs.YtbebfliimjjohaaGreatDoor.Wal
end

section
namespace Go.Proofs.YtbebfliimjjohaaGreatDoor.Wal
open Go.RowKit
open Num (inB ints strOf)
open Wire (bcell)
def Ok (r : R) : Prop := r.d.size ≤ 20 ∧ ∀ i, i < 5 → okN ((nums r).getD i 0)

structure DiskIs (w : World) (q : Nat) (rs : List R) (fails : Bool) (left : Int) : Prop where
  recs : ∀ k (h : k < rs.length), Pl w q (3 + k * 62) (full rs[k])
  all : ∀ k, k < 200 → w.there q (3 + k * 62) 62
  mark : ∀ k, rs.length ≤ k → k < 200 → w.cell? ⟨q, 3 + k * 62 + 61, none⟩ = some (.int .u8 0)
  fails : w.cell? ⟨q, 12403, none⟩ = some (.bool fails)
  left : w.cell? ⟨q, 12404, none⟩ = some (.int .i64 left)
  free : ∀ i, w.frozen? ⟨q, i, none⟩ = false
  len : rs.length ≤ 200
  ok : ∀ r ∈ rs, Ok r

theorem DiskIs.below {w w' : World} {q C : Nat} {rs : List R} {fails : Bool} {left : Int} (h : DiskIs w q rs fails left) (hb : Below C w w') (hC : q < C) : DiskIs w' q rs fails left :=
  ⟨fun k hk => (h.recs k hk).below hb hC, fun k hk j hj => ⟨by rw [hb.cell (p := ⟨q, 3 + k * 62 + j, none⟩) hC]; exact (h.all k hk j hj).1, (hb.frozen (p := ⟨q, 3 + k * 62 + j, none⟩) hC).trans (h.all k hk j hj).2⟩,
   fun k h1 h2 => (hb.cell (p := ⟨q, 3 + k * 62 + 61, none⟩) hC).trans (h.mark k h1 h2), (hb.cell (p := ⟨q, 12403, none⟩) hC).trans h.fails, (hb.cell (p := ⟨q, 12404, none⟩) hC).trans h.left,
   fun i => (hb.frozen (p := ⟨q, i, none⟩) hC).trans (h.free i), h.len, h.ok⟩

structure Oq (q : Nat) (w w' : World) : Prop where
  os : w'.os = w.os
  tape : w'.tape = w.tape
  output : w'.output = w.output
  size : w.heap.size ≤ w'.heap.size
  block : ∀ k, k < w.heap.size → k ≠ q → w'.heap[k]? = w.heap[k]?
  cell : ∀ i, q < w.heap.size → (i < 3 ∨ 12405 ≤ i) → w'.cell? ⟨q, i, none⟩ = w.cell? ⟨q, i, none⟩
  fro : ∀ i, q < w.heap.size → w'.frozen? ⟨q, i, none⟩ = w.frozen? ⟨q, i, none⟩
  typ : ∀ t, (∃ cs f, w.heap[q]? = some (.cells cs t f)) → ∃ cs f, w'.heap[q]? = some (.cells cs t f)

theorem typ_setCell {w : World} {u q i : Nat} {v : Value} {t : TypeId} (h : ∃ cs f, w.heap[u]? = some (.cells cs t f)) : ∃ cs f, (w.setCell ⟨q, i, none⟩ v).heap[u]? = some (.cells cs t f) := by
  obtain ⟨cs, f, h⟩ := h
  by_cases e : q = u
  · subst e
    refine ⟨cs.setIfInBounds i v, f, ?_⟩
    simp [World.setCell, Array.getElem?_modify, h]
  · exact ⟨cs, f, (Below.heap_setCell _ _ _ _ (fun k => e k.symm)).trans h⟩

theorem Oq.refl (q : Nat) (w : World) : Oq q w w := ⟨rfl, rfl, rfl, Nat.le_refl _, fun _ _ _ => rfl, fun _ _ _ => rfl, fun _ _ => rfl, fun _ h => h⟩

theorem Oq.trans {q : Nat} {a b c : World} (h : Oq q a b) (k : Oq q b c) : Oq q a c :=
  ⟨k.os.trans h.os, k.tape.trans h.tape, k.output.trans h.output, Nat.le_trans h.size k.size, fun i hi hq => by rw [k.block i (Nat.lt_of_lt_of_le hi h.size) hq, h.block i hi hq],
   fun i hq hi => (k.cell i (Nat.lt_of_lt_of_le hq h.size) hi).trans (h.cell i hq hi), fun i hq => (k.fro i (Nat.lt_of_lt_of_le hq h.size)).trans (h.fro i hq), fun t ht => k.typ t (h.typ t ht)⟩

theorem Oq.of_below {q : Nat} {a b : World} (h : Below a.heap.size a b) : Oq q a b := ⟨h.os, h.tape, h.output, h.size, fun k hk _ => h.block k hk,
   fun _ hq _ => World.cell?_of_block (h.block q hq), fun _ hq => World.frozen?_of_block (h.block q hq), fun _ ht => ht.imp fun _ ht => ht.imp fun _ ht => (h.block q (Array.getElem?_eq_some_iff.1 ht).1).trans ht⟩

theorem Oq.setCell {q i : Nat} {a b : World} (h : Oq q a b) (u : Value) (h0 : 3 ≤ i) (h1 : i < 12405) : Oq q a (b.setCell ⟨q, i, none⟩ u) :=
  h.trans ⟨rfl, rfl, rfl, by simp, fun k _ hq => Below.heap_setCell b ⟨q, i, none⟩ u k hq, fun k _ hk => World.cell?_setCell_other _ _ _ _ (by intro e; injection e with _ e; omega), fun k _ => World.frozen?_setCell _ _ _ _, fun _ ht => typ_setCell ht⟩

theorem Oq.drew {q : Nat} {a b : World} (h : Oq q a b) : Oq q a b.drew := ⟨h.os, h.tape, h.output, h.size, h.block, h.cell, h.fro, h.typ⟩

theorem Oq.setCells {q : Nat} {a : World} : ∀ (vs : List Value) (o : Nat) (b : World), Oq q a b → 3 ≤ o → o + vs.length ≤ 12405 → Oq q a (b.setCells q o vs)
  | [], _, _, h, _, _ => h
  | v :: r, o, b, h, h0, h1 => by
    rw [World.setCells]
    rw [List.length_cons] at h1
    exact Oq.setCells r (o + 1) _ (h.setCell v h0 (by omega)) (by omega) (by omega)

set_option maxHeartbeats 1000000 in
set_option maxRecDepth 100000 in
theorem many_any (q : Nat) (rs : List R) (fails : Bool) (left : Int) (w : World) (h : DiskIs w q rs fails left) :
    Calls Tryz.prog 110 #[.pointer (some ⟨q, 3, none⟩)] w fun e w' => e = .returned (.int .i64 rs.length) ∧ w' = w := by
  have hlen := h.len
  go_enter Tryz.func110, Tryz.ntmps110
  go_wp2_with fail
  go_loop [4] (fun s => ∃ k : Nat, k ≤ rs.length ∧ s = .int .i64 k) (fun s => 200 - (intOf s).toNat)
  case atStart => exact ⟨0, by omega, rfl⟩
  case round =>
    obtain ⟨k, hk, rfl⟩ := hrel
    by_cases hlt : k < rs.length
    · have hc := ((h.recs k hlt).cell (i := 61) (by omega)).1
      rw [full_mark (h.ok _ (List.getElem_mem hlt)).1] at hc
      have hk200 : (k : Int) < 200 := by omega
      clear h
      go_wp2_with fail
      go_round
      case rel => exact ⟨k + 1, by omega, by go_num⟩
      case measure => simp [intOf]; omega
    · obtain rfl : k = rs.length := by omega
      by_cases h200 : rs.length < 200
      · have hc := h.mark rs.length (Nat.le_refl _) h200
        have hk200 : (rs.length : Int) < 200 := by omega
        clear h
        go_wp2_with fail
        go_ret
        exact ⟨rfl, rfl⟩
      · have hk200 : ¬ (rs.length : Int) < 200 := by omega
        clear h
        go_wp2_with fail
        go_ret
        exact ⟨by rw [show (rs.length : Int) = 200 by omega]; rfl, rfl⟩

theorem there_setCell {w : World} {q o n b i : Nat} {u : Value} (h : w.there q o n) : (w.setCell ⟨b, i, none⟩ u).there q o n := fun j hj => by
  obtain ⟨v, hv⟩ := Option.isSome_iff_exists.1 (h j hj).1
  refine ⟨?_, by rw [World.frozen?_setCell]; exact (h j hj).2⟩
  by_cases e : (⟨b, i, none⟩ : Addr) = ⟨q, o + j, none⟩
  · rw [e, World.cell?_setCell_same _ _ _ hv]; rfl
  · rw [World.cell?_setCell_other _ _ _ _ e, hv]; rfl

theorem Pl.off {w : World} {q o i : Nat} {l : List Int} {u : Value} (h : Pl w q o l) (hi : i < o ∨ o + 62 ≤ i) : Pl (w.setCell ⟨q, i, none⟩ u) q o l := by
  obtain ⟨hl, hr, ht⟩ := h
  refine ⟨hl, fun j v hv => ?_, there_setCell ht⟩
  have hj : j < 62 := by have := (List.getElem?_eq_some_iff.1 hv).1; rw [List.length_map] at this; omega
  rw [World.cell?_setCell_other _ _ _ _ (by intro e; injection e with _ e; omega)]
  exact hr j v hv

theorem DiskIs.beside {w : World} {q i : Nat} {rs : List R} {f : Bool} {l : Int} {u : Value} (h : DiskIs w q rs f l) (hi : 3 + rs.length * 62 ≤ i) (hm : ∀ k, i ≠ 3 + k * 62 + 61) (h0 : i ≠ 12403) (h1 : i ≠ 12404) : DiskIs (w.setCell ⟨q, i, none⟩ u) q rs f l :=
  ⟨fun k hk => (h.recs k hk).off (by right; omega), fun k hk => there_setCell (h.all k hk), fun k h1 h2 => by rw [World.cell?_setCell_other _ _ _ _ (by intro e; injection e with _ e; exact hm k e)]; exact h.mark k h1 h2,
   by rw [World.cell?_setCell_other _ _ _ _ (by intro e; injection e with _ e; exact h0 e)]; exact h.fails, by rw [World.cell?_setCell_other _ _ _ _ (by intro e; injection e with _ e; exact h1 e)]; exact h.left, fun i => by rw [World.frozen?_setCell]; exact h.free i, h.len, h.ok⟩

theorem DiskIs.setFails {w : World} {q : Nat} {rs : List R} {f : Bool} {l : Int} (h : DiskIs w q rs f l) (f' : Bool) : DiskIs (w.setCell ⟨q, 12403, none⟩ (.bool f')) q rs f' l :=
  ⟨fun k hk => (h.recs k hk).off (by have := h.len; right; omega), fun k hk => there_setCell (h.all k hk), fun k h1 h2 => by rw [World.cell?_setCell_other _ _ _ _ (by intro e; injection e with _ e; omega)]; exact h.mark k h1 h2,
   by rw [World.cell?_setCell_same _ _ _ h.fails], by rw [World.cell?_setCell_other _ _ _ _ (by simp)]; exact h.left, fun i => by rw [World.frozen?_setCell]; exact h.free i, h.len, h.ok⟩

theorem DiskIs.setLeft {w : World} {q : Nat} {rs : List R} {f : Bool} {l : Int} (h : DiskIs w q rs f l) (l' : Int) : DiskIs (w.setCell ⟨q, 12404, none⟩ (.int .i64 l')) q rs f l' :=
  ⟨fun k hk => (h.recs k hk).off (by have := h.len; right; omega), fun k hk => there_setCell (h.all k hk), fun k h1 h2 => by rw [World.cell?_setCell_other _ _ _ _ (by intro e; injection e with _ e; omega)]; exact h.mark k h1 h2,
   by rw [World.cell?_setCell_other _ _ _ _ (by simp)]; exact h.fails, by rw [World.cell?_setCell_same _ _ _ h.left], fun i => by rw [World.frozen?_setCell]; exact h.free i, h.len, h.ok⟩

theorem DiskIs.added {w : World} {q : Nat} {rs : List R} {f : Bool} {l : Int} {r : R} (h : DiskIs w q rs f l) (hl : rs.length < 200) (hr : Ok r) : DiskIs (w.setCells q (3 + rs.length * 62) ((full r).map (Value.int .u8))) q (rs ++ [r]) f l := by
  have hF : ((full r).map (Value.int .u8)).length = 62 := by rw [List.length_map, full_length hr.1]
  have hth := h.all rs.length hl
  have hout : ∀ i, (i < 3 + rs.length * 62 ∨ 3 + rs.length * 62 + 62 ≤ i) → (w.setCells q (3 + rs.length * 62) ((full r).map (Value.int .u8))).cell? ⟨q, i, none⟩ = w.cell? ⟨q, i, none⟩ := fun i hi => World.cell?_setCells_out q _ _ w ⟨q, i, none⟩ (fun _ _ => by rw [hF]; exact hi)
  refine ⟨fun k hk => ?_, fun k hk => World.there_setCells (h.all k hk) _ _ _, fun k h1 h2 => ?_, ?_, ?_, fun i => by rw [World.frozen?_setCells]; exact h.free i, by simp; omega, fun x hx => ?_⟩
  · rw [List.length_append, List.length_singleton] at hk
    by_cases hkl : k < rs.length
    · rw [List.getElem_append_left hkl]
      obtain ⟨p1, p2, p3⟩ := h.recs k hkl
      refine ⟨p1, World.rangeAt_setCells_apart p2 _ _ _ (by right; left; rw [List.length_map]; omega), World.there_setCells p3 _ _ _⟩
    · obtain rfl : k = rs.length := by omega
      rw [List.getElem_append_right (by omega)]
      simp only [Nat.sub_self, List.getElem_cons_zero]
      exact ⟨full_length hr.1, World.rangeAt_setCells_same _ _ _ _ (by rw [hF]; exact hth), World.there_setCells hth _ _ _⟩
  · rw [List.length_append, List.length_singleton] at h1
    rw [hout _ (by right; omega)]
    exact h.mark k (by omega) h2
  · rw [hout _ (by right; omega)]
    exact h.fails
  · rw [hout _ (by right; omega)]
    exact h.left
  · rcases List.mem_append.1 hx with hx | hx
    · exact h.ok x hx
    · obtain rfl := List.mem_singleton.1 hx
      exact hr

set_option maxHeartbeats 1000000 in
set_option maxRecDepth 100000 in
theorem cut_any (q : Nat) (rs : List R) (fails : Bool) (left n : Int) (w : World) (h : DiskIs w q rs fails left) :
    Calls Tryz.prog 52 #[.pointer (some ⟨q, 3, none⟩), .int .i64 n] w fun e w' => e = .returned (.tuple #[]) ∧ DiskIs w' q rs (decide (0 ≤ n)) (max n 0) ∧ Oq q w w' := by
  have f0 := h.free 12403
  have f1 := h.free 12404
  have c0 := h.fails
  have c1 := h.left
  by_cases hn : 0 ≤ n
  · have e1 : decide (0 ≤ n) = true := decide_eq_true hn
    have F := (h.setFails true).setLeft n
    have e2 : max n 0 = n := by omega
    rw [e2, e1]
    clear e1 e2
    go_enter Tryz.func52, Tryz.ntmps52
    go_wp2_with fail
    go_end0
    exact ⟨rfl, F, ((Oq.refl _ _).setCell _ (by omega) (by omega)).setCell _ (by omega) (by omega)⟩
  · have e1 : decide (0 ≤ n) = false := decide_eq_false hn
    have F := (h.setFails false).setLeft 0
    have e2 : max n 0 = 0 := by omega
    rw [e2, e1]
    clear e2
    have hn' : n < 0 := by omega
    go_enter Tryz.func52, Tryz.ntmps52
    go_wp2_with fail
    go_end0
    exact ⟨rfl, F, ((Oq.refl _ _).setCell _ (by omega) (by omega)).setCell _ (by omega) (by omega)⟩

end Go.Proofs.YtbebfliimjjohaaGreatDoor.Wal
end

section
namespace Go.Proofs.YtbebfliimjjohaaGreatDoor.Wal
open Go.RowKit
open Num (inB ints strOf)
open Wire (bcell)
theorem Pl.far {w : World} {b q o i : Nat} {l : List Int} {u : Value} (h : Pl w b o l) (hb : b ≠ q) : Pl (w.setCell ⟨q, i, none⟩ u) b o l := by
  obtain ⟨hl, hr, ht⟩ := h
  refine ⟨hl, fun j v hv => ?_, there_setCell ht⟩
  rw [World.cell?_setCell_other _ _ _ _ (by intro e; injection e with e; exact hb e.symm)]
  exact hr j v hv

set_option maxHeartbeats 4000000 in
set_option maxRecDepth 100000 in
theorem write_mid (q : Nat) (rs : List R) (m : Nat) (r : R) (w : World) (h : DiskIs w q rs true 0) (hl : rs.length < 200) (hr : Ok r) (hq : q < w.heap.size) (hm : m ≤ 61) :
    Calls Tryz.prog 115 #[.pointer (some ⟨q, 3, none⟩), .int .i64 rs.length, .agg ((full r).map (Value.int .u8)).toArray, .int .i64 m] w fun e w' => e = .returned (.bool false) ∧ DiskIs w' q rs true 0 ∧ Oq q w w' := by
  have hbx := (Below.refl w.heap.size w).alloc (Nat.le_refl _) (.cells ((full r).map (Value.int .u8)).toArray 65)
  have hD := h.below hbx hq
  have hP := Pl.made (w := w) (full_length hr.1) 65
  have hOb : Oq q w (w.alloc (.cells ((full r).map (Value.int .u8)).toArray 65)) := Oq.of_below hbx
  have c0 := hD.fails
  have c1 := hD.left
  have hm0 : ¬ ((m : Int) < 0) := by omega
  have hm1 : (m : Int) ≤ 61 := by omega
  go_enter Tryz.func115, Tryz.ntmps115
  go_wp2_with fail
  generalize w.alloc (.cells ((full r).map (Value.int .u8)).toArray 65) = wb at *
  go_loopw [24] (fun s wr => ∃ i : Nat, i ≤ m ∧ s = .int .i64 i ∧ DiskIs wr q rs true 0 ∧ Pl wr w.heap.size 0 (full r) ∧ Oq q wb wr) (fun s _ => m - (intOf s).toNat)
  case atStart => exact ⟨0, by omega, rfl, hD, hP, Oq.refl _ _⟩
  case round =>
    obtain ⟨i, hi, rfl, hD, hP, hO⟩ := hrel
    by_cases hlt : i < m
    · have hc := (hP.cell (i := i) (by omega)).1
      rw [Nat.zero_add] at hc
      obtain ⟨y, hy⟩ : ∃ y, (full r).getD i 0 = y := ⟨_, rfl⟩
      rw [hy] at hc
      obtain ⟨u, hu⟩ := Option.isSome_iff_exists.1 (hD.all rs.length hl i (by omega)).1
      have hf := hD.free (3 + rs.length * 62 + i)
      have hliI : (rs.length : Int) < 200 := by omega
      have hDn := hD.beside (u := .int .u8 y) (i := 3 + rs.length * 62 + i) (by omega) (fun k => by omega) (by omega) (by omega)
      have hPn := hP.far (u := .int .u8 y) (i := 3 + rs.length * 62 + i) (show w.heap.size ≠ q by omega)
      clear hy
      go_wp2_with fail
      go_region
      all_goals go_wp2_with fail
      all_goals exact ⟨⟨i + 1, by omega, by go_num, hDn.below (Below.refl (q + 1) _).drew (by omega), hPn.below (Below.refl (w.heap.size + 1) _).drew (by omega), (hO.setCell _ (by omega) (by omega)).drew⟩, by simp [intOf]; omega⟩
    · go_wp2_with fail
      go_ret
      exact ⟨rfl, hD, hOb.trans hO⟩

set_option maxHeartbeats 4000000 in
set_option maxRecDepth 100000 in
theorem write_high (q : Nat) (rs : List R) (torn : Int) (r : R) (w : World) (h : DiskIs w q rs true 0) (hl : rs.length < 200) (hr : Ok r) (hq : q < w.heap.size) (hm : 61 < torn) :
    Calls Tryz.prog 115 #[.pointer (some ⟨q, 3, none⟩), .int .i64 rs.length, .agg ((full r).map (Value.int .u8)).toArray, .int .i64 torn] w fun e w' => e = .returned (.bool false) ∧ DiskIs w' q rs true 0 ∧ Oq q w w' := by
  have hbx := (Below.refl w.heap.size w).alloc (Nat.le_refl _) (.cells ((full r).map (Value.int .u8)).toArray 65)
  have hD := h.below hbx hq
  have hP := Pl.made (w := w) (full_length hr.1) 65
  have hOb : Oq q w (w.alloc (.cells ((full r).map (Value.int .u8)).toArray 65)) := Oq.of_below hbx
  have c0 := hD.fails
  have c1 := hD.left
  have hm0 : ¬ (torn < 0) := by omega
  go_enter Tryz.func115, Tryz.ntmps115
  go_wp2_with fail
  generalize w.alloc (.cells ((full r).map (Value.int .u8)).toArray 65) = wb at *
  go_loopw [24] (fun s wr => ∃ i : Nat, i ≤ 61 ∧ s = .int .i64 i ∧ DiskIs wr q rs true 0 ∧ Pl wr w.heap.size 0 (full r) ∧ Oq q wb wr) (fun s _ => 61 - (intOf s).toNat)
  case atStart => exact ⟨0, by omega, rfl, hD, hP, Oq.refl _ _⟩
  case round =>
    obtain ⟨i, hi, rfl, hD, hP, hO⟩ := hrel
    by_cases hlt : i < 61
    · have hc := (hP.cell (i := i) (by omega)).1
      rw [Nat.zero_add] at hc
      obtain ⟨y, hy⟩ : ∃ y, (full r).getD i 0 = y := ⟨_, rfl⟩
      rw [hy] at hc
      obtain ⟨u, hu⟩ := Option.isSome_iff_exists.1 (hD.all rs.length hl i (by omega)).1
      have hf := hD.free (3 + rs.length * 62 + i)
      have hliI : (rs.length : Int) < 200 := by omega
      have hDn := hD.beside (u := .int .u8 y) (i := 3 + rs.length * 62 + i) (by omega) (fun k => by omega) (by omega) (by omega)
      have hPn := hP.far (u := .int .u8 y) (i := 3 + rs.length * 62 + i) (show w.heap.size ≠ q by omega)
      clear hy
      go_wp2_with fail
      go_region
      all_goals go_wp2_with fail
      all_goals exact ⟨⟨i + 1, by omega, by go_num, hDn.below (Below.refl (q + 1) _).drew (by omega), hPn.below (Below.refl (w.heap.size + 1) _).drew (by omega), (hO.setCell _ (by omega) (by omega)).drew⟩, by simp [intOf]; omega⟩
    · go_wp2_with fail
      go_ret
      exact ⟨rfl, hD, hOb.trans hO⟩

set_option maxHeartbeats 4000000 in
set_option maxRecDepth 100000 in
theorem write_low (q : Nat) (rs : List R) (torn : Int) (r : R) (w : World) (h : DiskIs w q rs true 0) (hr : Ok r) (hq : q < w.heap.size) (hm : torn < 0) :
    Calls Tryz.prog 115 #[.pointer (some ⟨q, 3, none⟩), .int .i64 rs.length, .agg ((full r).map (Value.int .u8)).toArray, .int .i64 torn] w fun e w' => e = .returned (.bool false) ∧ DiskIs w' q rs true 0 ∧ Oq q w w' := by
  have hbx := (Below.refl w.heap.size w).alloc (Nat.le_refl _) (.cells ((full r).map (Value.int .u8)).toArray 65)
  have hD := h.below hbx hq
  have hP := Pl.made (w := w) (full_length hr.1) 65
  have hOb : Oq q w (w.alloc (.cells ((full r).map (Value.int .u8)).toArray 65)) := Oq.of_below hbx
  have c0 := hD.fails
  have c1 := hD.left
  go_enter Tryz.func115, Tryz.ntmps115
  go_wp2_with fail
  generalize w.alloc (.cells ((full r).map (Value.int .u8)).toArray 65) = wb at *
  go_loopw [24] (fun s wr => ∃ i : Nat, i ≤ 0 ∧ s = .int .i64 i ∧ DiskIs wr q rs true 0 ∧ Pl wr w.heap.size 0 (full r) ∧ Oq q wb wr) (fun s _ => 0 - (intOf s).toNat)
  case atStart => exact ⟨0, by omega, rfl, hD, hP, Oq.refl _ _⟩
  case round =>
    obtain ⟨i, hi, rfl, hD, hP, hO⟩ := hrel
    obtain rfl : i = 0 := by omega
    go_wp2_with fail
    go_ret
    exact ⟨rfl, hD, hOb.trans hO⟩

theorem write_off (q : Nat) (rs : List R) (torn : Int) (r : R) (w : World) (h : DiskIs w q rs true 0) (hl : rs.length < 200) (hr : Ok r) (hq : q < w.heap.size) :
    Calls Tryz.prog 115 #[.pointer (some ⟨q, 3, none⟩), .int .i64 rs.length, .agg ((full r).map (Value.int .u8)).toArray, .int .i64 torn] w fun e w' => e = .returned (.bool false) ∧ DiskIs w' q rs true 0 ∧ Oq q w w' := by
  by_cases h0 : torn < 0
  · exact write_low q rs torn r w h hr hq h0
  · by_cases h1 : 61 < torn
    · exact write_high q rs torn r w h hl hr hq h1
    · obtain ⟨m, rfl⟩ := Int.eq_ofNat_of_zero_le (show 0 ≤ torn by omega)
      exact write_mid q rs m r w h hl hr hq (by omega)

set_option maxHeartbeats 4000000 in
set_option maxRecDepth 100000 in
theorem write_free (q : Nat) (rs : List R) (left torn : Int) (r : R) (w : World) (h : DiskIs w q rs false left) (hl : rs.length < 200) (hr : Ok r) (hq : q < w.heap.size) :
    Calls Tryz.prog 115 #[.pointer (some ⟨q, 3, none⟩), .int .i64 rs.length, .agg ((full r).map (Value.int .u8)).toArray, .int .i64 torn] w fun e w' => e = .returned (.bool true) ∧ DiskIs w' q (rs ++ [r]) false left ∧ Oq q w w' := by
  have hbx := (Below.refl w.heap.size w).alloc (Nat.le_refl _) (.cells ((full r).map (Value.int .u8)).toArray 65)
  have hD := h.below hbx hq
  have hP := Pl.made (w := w) (full_length hr.1) 65
  have hOb : Oq q w (w.alloc (.cells ((full r).map (Value.int .u8)).toArray 65)) := Oq.of_below hbx
  have c0 := hD.fails
  have c1 := hD.left
  have hliI : (rs.length : Int) < 200 := by omega
  have hli0 : (0 : Int) ≤ (rs.length : Int) := by omega
  have hu := Tryz.underlying65
  have hcl : ((full r).map (Value.int .u8)).length = 62 := by rw [List.length_map, full_length hr.1]
  have hi := info_place
  rw [← hcl] at hi
  have hone := ints_oneCell .u8 (full r)
  go_enter Tryz.func115, Tryz.ntmps115
  go_wp2_with fail
  have hrg := hP.2.1
  have hth := hD.all rs.length hl
  have FD := (hD.below (Below.refl (q + 1) _).drew (by omega)).added hl hr
  have FO := Oq.setCells ((full r).map (Value.int .u8)) (3 + rs.length * 62) _ hOb.drew (by omega) (by rw [hcl]; omega)
  clear hD hP hOb c0 c1 hbx h
  generalize (full r).map (Value.int .u8) = cs at *
  generalize w.alloc (.cells cs.toArray 65) = wb at *
  go_region_held3 (fun w' => w'.rangeAt w.heap.size 0 cs ∧ w'.there q (3 + rs.length * 62) 62) (go_keep_ranges) (fail)
  all_goals go_wp2_with fail
  all_goals go_ret
  exact ⟨rfl, FD, FO⟩

set_option maxHeartbeats 4000000 in
set_option maxRecDepth 100000 in
theorem write_cut (q : Nat) (rs : List R) (left torn : Int) (r : R) (w : World) (h : DiskIs w q rs true left) (hl : rs.length < 200) (hr : Ok r) (hq : q < w.heap.size) (hp0 : 0 < left) (hp1 : left ≤ 9223372036854775807) :
    Calls Tryz.prog 115 #[.pointer (some ⟨q, 3, none⟩), .int .i64 rs.length, .agg ((full r).map (Value.int .u8)).toArray, .int .i64 torn] w fun e w' => e = .returned (.bool true) ∧ DiskIs w' q (rs ++ [r]) true (left - 1) ∧ Oq q w w' := by
  have hbx := (Below.refl w.heap.size w).alloc (Nat.le_refl _) (.cells ((full r).map (Value.int .u8)).toArray 65)
  have hD := h.below hbx hq
  have hP := Pl.made (w := w) (full_length hr.1) 65
  have hOb : Oq q w (w.alloc (.cells ((full r).map (Value.int .u8)).toArray 65)) := Oq.of_below hbx
  have c0 := hD.fails
  have c1 := hD.left
  have hf1 := hD.free 12404
  have hpb : (left == 0) = false := by simp; omega
  have hliI : (rs.length : Int) < 200 := by omega
  have hli0 : (0 : Int) ≤ (rs.length : Int) := by omega
  have hu := Tryz.underlying65
  have hcl : ((full r).map (Value.int .u8)).length = 62 := by rw [List.length_map, full_length hr.1]
  have hi := info_place
  rw [← hcl] at hi
  have hone := ints_oneCell .u8 (full r)
  go_enter Tryz.func115, Tryz.ntmps115
  go_wp2_with fail
  have hsw : (w.setCell ⟨q, 12404, none⟩ (.int .i64 (left - 1))).heap.size = w.heap.size := by simp
  replace hbx := (Below.refl w.heap.size (w.setCell ⟨q, 12404, none⟩ (.int .i64 (left - 1)))).alloc (by rw [hsw]; exact Nat.le_refl _) (.cells ((full r).map (Value.int .u8)).toArray 65)
  replace hD := (h.setLeft (left - 1)).below hbx hq
  replace hP := Pl.made (w := w.setCell ⟨q, 12404, none⟩ (.int .i64 (left - 1))) (full_length hr.1) 65
  rw [hsw] at hP
  replace hOb := ((Oq.refl q w).setCell (i := 12404) (.int .i64 (left - 1)) (by omega) (by omega)).trans (Oq.of_below (hbx.mono (by rw [hsw]; exact Nat.le_refl _)))
  have hrg := hP.2.1
  have hth := hD.all rs.length hl
  have FD := (hD.below (Below.refl (q + 1) _).drew (by omega)).added hl hr
  have FO := Oq.setCells ((full r).map (Value.int .u8)) (3 + rs.length * 62) _ hOb.drew (by omega) (by rw [hcl]; omega)
  clear hD hP hOb c0 c1 hf1 hbx h hsw
  generalize (full r).map (Value.int .u8) = cs at *
  generalize (w.setCell ⟨q, 12404, none⟩ (.int .i64 (left - 1))).alloc (.cells cs.toArray 65) = wb at *
  go_region_held3 (fun w' => w'.rangeAt w.heap.size 0 cs ∧ w'.there q (3 + rs.length * 62) 62) (go_keep_ranges) (fail)
  all_goals go_wp2_with fail
  all_goals go_ret
  exact ⟨rfl, FD, FO⟩

end Go.Proofs.YtbebfliimjjohaaGreatDoor.Wal
end
