/-
  A record as it lies in its place: contracts of wal.numbers and wal.written over the turned program.
-/
import Derived.Test.YtbebfliimjjohaaDoorWalMath
import Derived.StillTailTactics
import Derived.BigRegion
import Derived.Deep.MidRow
namespace Go.Proofs.YtbebfliimjjohaaDoor.Wal
open Go.RowKit
open Num (inB ints)
open Wire (bcell)

/-- Where a record's numbers lie. -/
abbrev ptrs (b : Nat) : Array Value := #[.pointer (some ⟨b, 0, none⟩), .pointer (some ⟨b, 1, none⟩), .pointer (some ⟨b, 2, none⟩), .pointer (some ⟨b, 3, none⟩), .pointer (some ⟨b, 5, none⟩)]
/-- The field of the i-th number. -/
def fld (i : Nat) : Nat := if i = 4 then 5 else i

set_option maxHeartbeats 1000000 in
set_option maxRecDepth 100000 in
theorem numbers_any (b : Nat) (w : World) :
    Calls Tryd.prog 88 #[.pointer (some ⟨b, 0, none⟩)] w fun e w' => e = .returned (.agg (ptrs b)) ∧ Below w.heap.size w w' := by
  go_enter Tryd.func88, Tryd.ntmps88
  go_wp2
  go_still_tail 16, (by kernel_rfl)
  change wpList _ _ _ _ _ (World.drew (w.alloc _))
  go_wp2
  refine bodyPost_ret (v := .agg (ptrs b)) (by simp [ptrs, results, Tryd.results88, go_sem]) rfl ⟨rfl, ((Below.refl _ _).alloc (Nat.le_refl _) _).drew⟩

theorem five {Q : Nat → Prop} (h0 : Q 0) (h1 : Q 1) (h2 : Q 2) (h3 : Q 3) (h4 : Q 4) : ∀ k, k < 5 → Q k := by
  intro k hk
  match k, hk with
  | 0, _ => exact h0
  | 1, _ => exact h1
  | 2, _ => exact h2
  | 3, _ => exact h3
  | 4, _ => exact h4
theorem agg_index (b : Nat) : ∀ k : Nat, k < 5 → ∀ w, (Instr.index 181 (.agg (ptrs b)) (.int .i64 (k : Int))).run Tryd.prog w = .ok (.pointer (some ⟨b, fld k, none⟩)) w := by
  apply five <;> (intro w; kernel_rfl)

theorem byte_eq (x : Int) (j : Nat) : x / 2 ^ (8 * j) % 256 = byteAt x j := by
  unfold byteAt
  rw [Int.pow_mul]
  rfl

/-- The bytes l lie in block b from o on, and may be written. -/
def Pl (w : World) (b o : Nat) (l : List Int) : Prop := l.length = 62 ∧ w.rangeAt b o (l.map (Value.int .u8)) ∧ w.there b o 62

theorem Pl.cell {w : World} {b o : Nat} {l : List Int} (h : Pl w b o l) {i : Nat} (hi : i < 62) : w.cell? ⟨b, o + i, none⟩ = some (.int .u8 (l.getD i 0)) ∧ w.frozen? ⟨b, o + i, none⟩ = false := by
  obtain ⟨hl, hr, ht⟩ := h
  refine ⟨hr i _ ?_, (ht i hi).2⟩
  rw [List.getElem?_map, List.getD_eq_getElem?_getD, List.getElem?_eq_getElem (by omega)]
  rfl
theorem Pl.set {w : World} {b o : Nat} {l : List Int} (h : Pl w b o l) (i : Nat) (x : Int) : Pl (w.setCell ⟨b, o + i, none⟩ (.int .u8 x)) b o (l.set i x) := by
  obtain ⟨hl, hr, ht⟩ := h
  refine ⟨by rw [List.length_set]; exact hl, fun j v hv => ?_, fun j hj => ⟨?_, ?_⟩⟩
  · rw [List.map_set, List.getElem?_set] at hv
    by_cases hij : i = j
    · subst hij
      rw [if_pos rfl] at hv
      split at hv
      · rename_i hlt
        rw [List.length_map] at hlt
        obtain ⟨u, hu⟩ := Option.isSome_iff_exists.1 (ht i (by omega)).1
        rw [World.cell?_setCell_same _ _ _ hu]
        exact hv
      · cases hv
    · rw [if_neg hij] at hv
      rw [World.cell?_setCell_other _ _ _ _ (by intro e; injection e with _ e; omega)]
      exact hr j v hv
  · obtain ⟨u, hu⟩ := Option.isSome_iff_exists.1 (ht j hj).1
    by_cases hij : i = j
    · subst hij
      rw [World.cell?_setCell_same _ _ _ hu]
      rfl
    · rw [World.cell?_setCell_other _ _ _ _ (by intro e; injection e with _ e; omega), hu]
      rfl
  · rw [World.frozen?_setCell]
    exact (ht j hj).2
theorem Pl.below {w w' : World} {b o C : Nat} {l : List Int} (h : Pl w b o l) (hb : Below C w w') (hC : b < C) : Pl w' b o l := by
  obtain ⟨hl, hr, ht⟩ := h
  exact ⟨hl, fun j v hv => (hb.cell (p := ⟨b, o + j, none⟩) hC).trans (hr j v hv), fun j hj => ⟨by rw [hb.cell (p := ⟨b, o + j, none⟩) hC]; exact (ht j hj).1, (hb.frozen (p := ⟨b, o + j, none⟩) hC).trans (ht j hj).2⟩⟩

/-- A new place. -/
theorem Pl.new (w : World) (t : TypeId) : Pl (w.alloc (.cells (Array.replicate 62 (.int .u8 0)) t)) w.heap.size 0 (pad []) := by
  have hc : ∀ j, j < 62 → (w.alloc (.cells (Array.replicate 62 (.int .u8 0)) t)).cell? ⟨w.heap.size, 0 + j, none⟩ = some (.int .u8 0) := fun j hj => by
    rw [cell_of_row _ _ _ _ _ _ (heap_alloc_new w _), Array.getElem?_replicate, if_pos (by omega)]
  refine ⟨rfl, fun j v hv => ?_, fun j hj => ⟨by rw [hc j hj]; rfl, by simp⟩⟩
  have hj : j < 62 := by have := (List.getElem?_eq_some_iff.1 hv).1; simpa [pad] using this
  rw [hc j hj, ← hv, pad_nil, List.map_replicate, List.getElem?_replicate, if_pos hj]

theorem Pl.step {w : World} {b t : Nat} {F : List Int} {v : Int} (h : Pl w b 0 (pad (F.take t))) (hF : F.length = 62) (ht : t < 62) (hv : v = F.getD t 0) : Pl (w.setCell ⟨b, t, none⟩ (.int .u8 v)) b 0 (pad (F.take (t + 1))) := by
  have h1 := h.set t v
  rw [Nat.zero_add, hv, pad_set hF ht] at h1
  rw [hv]
  exact h1

theorem bel_cells {B b : Nat} {a : World} (hb : B ≤ b) : ∀ (vs : List Value) (o : Nat) (w : World), Below B a w → Below B a (w.setCells b o vs)
  | [], _, _, h => h
  | v :: r, o, w, h => bel_cells hb r (o + 1) _ (h.setCell (by exact hb) v)
theorem text_at (d : ByteArray) (m : Nat) (h : m < d.size) : (ints d).getD m 0 = ((d[m]).toNat : Int) := by
  have hj : m < d.data.size := h
  unfold Num.ints
  rw [List.getD_eq_getElem?_getD, List.getElem?_map, Array.getElem?_toList, Array.getElem?_eq_getElem hj]
  rfl
theorem info_place : (Tryd.prog.info? 65).map (·.size) = some 62 := by kernel_rfl

theorem nums_made {w w1 : World} {r : R} {t : TypeId} {o : Obj} (hb : Below ((w.alloc (.cells #[.int .i64 r.c, .int .i64 r.n, .int .i64 r.o, .int .i64 r.v, .string r.d, .int .i64 r.e] t)).alloc o).heap.size ((w.alloc (.cells #[.int .i64 r.c, .int .i64 r.n, .int .i64 r.o, .int .i64 r.v, .string r.d, .int .i64 r.e] t)).alloc o) w1) :
    (∀ i, i < 5 → w1.cell? ⟨w.heap.size, fld i, none⟩ = some (.int .i64 ((nums r).getD i 0))) ∧ w1.cell? ⟨w.heap.size, 4, none⟩ = some (.string r.d) := by
  have hc : ∀ i, w1.cell? ⟨w.heap.size, i, none⟩ = #[Value.int .i64 r.c, .int .i64 r.n, .int .i64 r.o, .int .i64 r.v, .string r.d, .int .i64 r.e][i]? := fun i => by
    rw [hb.cell (p := ⟨w.heap.size, i, none⟩) (by simp; omega), World.cell?_alloc_lt _ _ ⟨w.heap.size, i, none⟩ (by simp), cell_of_row _ _ _ _ _ _ (heap_alloc_new w _)]
  refine ⟨?_, hc 4⟩
  apply five
  · exact hc 0
  · exact hc 1
  · exact hc 2
  · exact hc 3
  · exact hc 5

set_option maxHeartbeats 4000000 in
set_option maxRecDepth 100000 in
theorem written_any (r : R) (w : World) (hd : r.d.size ≤ 20) :
    Calls Tryd.prog 77 #[r.agg] w fun x w' => x = .returned (.agg ((full r).map (Value.int .u8)).toArray) ∧ Below w.heap.size w w' := by
  have hF := full_length hd
  go_enter Tryd.func77, Tryd.ntmps77
  go_wp2_with fail
  refine (numbers_any w.heap.size _).mono ?_
  rintro e w1 ⟨rfl, hb1⟩
  obtain ⟨hr, hs⟩ := nums_made hb1
  have hp := (Pl.new (w.alloc (.cells #[.int .i64 r.c, .int .i64 r.n, .int .i64 r.o, .int .i64 r.v, .string r.d, .int .i64 r.e] 76)) 65).below hb1 (by simp)
  rw [show (w.alloc (.cells #[.int .i64 r.c, .int .i64 r.n, .int .i64 r.o, .int .i64 r.v, .string r.d, .int .i64 r.e] 76)).heap.size = w.heap.size + 1 by simp] at hp
  have hbw : Below w.heap.size w w1 := (((Below.refl _ _).alloc (Nat.le_refl _) _).alloc (by simp) _).trans (hb1.mono (by simp; omega))
  have hz1 : w.heap.size + 1 < w1.heap.size := by have := hb1.size; simp at this; omega
  clear hb1
  go_wp2_with fail
  go_loopw [8] (fun s wr => ∃ i : Nat, i ≤ 5 ∧ s = .int .i64 i ∧ Pl wr (w.heap.size + 1) 0 (pad ((full r).take (i * 8))) ∧ Below (w.heap.size + 1) w1 wr) (fun s _ => 5 - (intOf s).toNat)
  case atStart => exact ⟨0, by omega, rfl, hp, Below.refl _ _⟩
  case round =>
    obtain ⟨i, hi, rfl, hP, hB⟩ := hrel
    by_cases hlt : i < 5
    · have hix := agg_index w.heap.size i hlt
      have hri := hr i hlt
      clear hr
      obtain ⟨x, hx⟩ : ∃ x, (nums r).getD i 0 = x := ⟨_, rfl⟩
      rw [hx] at hri
      have HX : Hid ((nums r).getD i 0 = x) := hx
      clear hx
      go_wp2_with fail
      go_loopw [12] (fun s wr => ∃ j : Nat, j ≤ 8 ∧ s = .int .i64 j ∧ Pl wr (w.heap.size + 1) 0 (pad ((full r).take (i * 8 + j))) ∧ Below (w.heap.size + 1) w1 wr) (fun s _ => 8 - (intOf s).toNat)
      case atStart => exact ⟨0, by omega, rfl, hP, hB⟩
      case round =>
        obtain ⟨j, hj, rfl, hP, hB⟩ := hrel
        by_cases hjl : j < 8
        · have hrj := (hB.cell (p := ⟨w.heap.size, fld i, none⟩) (by dsimp only; omega)).trans hri
          obtain ⟨hc0, hf0⟩ := hP.cell (i := i * 8 + j) (by omega)
          rw [Nat.zero_add] at hc0 hf0
          go_wp2_with fail
          refine ⟨⟨j + 1, by omega, by go_num, ?_, hB.setCell (Nat.le_refl _) _⟩, by simp [intOf]; omega⟩
          refine hP.step hF (by omega) ?_
          rw [byte_eq, full_num (by omega), show (i * 8 + j) / 8 = i by omega, show (i * 8 + j) % 8 = j by omega, HX.out]
        · obtain rfl : j = 8 := by omega
          go_wp2_with fail
          exact ⟨⟨i + 1, by omega, by go_num, by rw [show (i + 1) * 8 = i * 8 + 8 by omega]; exact hP, hB⟩, by simp [intOf]; omega⟩
    · obtain rfl : i = 5 := by omega
      have hsj := (hB.cell (p := ⟨w.heap.size, 4, none⟩) (by dsimp only; omega)).trans hs
      obtain ⟨hc0, hf0⟩ := hP.cell (i := 40) (by omega)
      rw [Nat.zero_add] at hc0 hf0
      have hdi : (r.d.size : Int) ≤ 20 := by omega
      go_wp2_with fail
      have hP1 := hP.step hF (by omega) (full_len (r := r)).symm
      have hB1 := hB.setCell (p := ⟨w.heap.size + 1, 40, none⟩) (Nat.le_refl _) (.int .u8 r.d.size)
      generalize wr.setCell ⟨w.heap.size + 1, 40, none⟩ (.int .u8 r.d.size) = wt at *
      clear hP hB hc0 hf0 hsj
      go_loopw [37] (fun s wr => ∃ m : Nat, m ≤ r.d.size ∧ s = .int .i64 m ∧ Pl wr (w.heap.size + 1) 0 (pad ((full r).take (41 + m))) ∧ Below (w.heap.size + 1) w1 wr) (fun s _ => r.d.size - (intOf s).toNat)
      case atStart => exact ⟨0, by omega, rfl, hP1, hB1⟩
      case round =>
        obtain ⟨m, hm, rfl, hP, hB⟩ := hrel
        have hsj := (hB.cell (p := ⟨w.heap.size, 4, none⟩) (by dsimp only; omega)).trans hs
        by_cases hml : m < r.d.size
        · obtain ⟨hc0, hf0⟩ := hP.cell (i := 41 + m) (by omega)
          rw [Nat.zero_add] at hc0 hf0
          go_wp2_with fail
          refine ⟨⟨m + 1, by omega, by go_num, ?_, hB.setCell (Nat.le_refl _) _⟩, by simp [intOf]; omega⟩
          refine hP.step hF (by omega) ?_
          rw [full_text hml]
          exact (text_at r.d m hml).symm
        · obtain rfl : m = r.d.size := by omega
          obtain ⟨hc0, hf0⟩ := hP.cell (i := 61) (by omega)
          rw [Nat.zero_add] at hc0 hf0
          have hP2 := hP.set 61 1
          rw [Nat.zero_add, pad_end hd] at hP2
          have hB2 := hB.setCell (p := ⟨w.heap.size + 1, 61, none⟩) (Nat.le_refl _) (.int .u8 1)
          have hsz : ((full r).map (Value.int .u8)).toArray.size = 62 := by simp [hF]
          have hi := info_place
          rw [← hF, ← List.length_map (Value.int .u8)] at hi
          have hi2 := info_place
          rw [← hsz] at hi2
          have ht := hP2.2.2
          have hone : ((full r).map (Value.int .u8)).toArray.all (·.oneCell') = true := all_oneCell_toArray (ints_oneCell _ _)
          rw [← hsz] at ht
          have hres := run_loadVar_mid (P := Tryd.prog) _ (w.heap.size + 1) 0 65 ((full r).map (Value.int .u8)) _ (World.rangeAt_setCells_same _ _ _ _ (by rw [List.length_map, hF]; exact hP2.2.2)) Tryd.underlying65 rfl hi
          have hB3 : Below (w.heap.size + 1) w1 ((wr.setCell ⟨w.heap.size + 1, 61, none⟩ (.int .u8 1)).setCells (w.heap.size + 1) 0 ((full r).map (Value.int .u8))) := bel_cells (Nat.le_refl _) _ _ _ hB2
          go_wp2_with (first | (refine wpList_load_mid rfl 65 (.tmp 2) rfl _ _ rfl _ _ hP2.2.1 Tryd.underlying65 rfl hi ?_) | (refine wpList_store_mid rfl 65 (.tmp 2) (.tmp 49) rfl _ _ _ rfl rfl ht hi2 hone ?_))
          generalize (wr.setCell ⟨w.heap.size + 1, 61, none⟩ (.int .u8 1)).setCells (w.heap.size + 1) 0 ((full r).map (Value.int .u8)) = wz at *
          refine bodyPost_ret (v := .agg ((full r).map (Value.int .u8)).toArray) ?_ rfl ⟨rfl, ?_⟩
          · simp only [Act.put, List.setIfInBounds_toArray, List.set_cons_zero, List.set_cons_succ]
            simp [results, Tryd.results77, asAddr, hres]
          · exact hbw.trans (hB3.mono (by omega))
end Go.Proofs.YtbebfliimjjohaaDoor.Wal
