/-
  Which record may be, by the document's own answer: a contract of tenureref.May over the turned program.
-/
import Derived.Test.YtbebfliimjjohaaDoorWalMay
namespace Go.Proofs.YtbebfliimjjohaaDoor.Wal
open Go.RowKit
open Num (inB)

set_option maxHeartbeats 4000000 in
set_option maxRecDepth 100000 in
theorem ref_epoch (c n v e : Int) (d : ByteArray) (w : World) :
    Calls Tryd.prog 31 #[R.agg ⟨c, n, -1, v, d, e⟩] w fun x w' => x = .returned (.bool (epochB ⟨c, n, -1, v, d, e⟩)) ∧ Below w.heap.size w w' := by
  dsimp only [R.agg]
  have hs := size0 (d := d)
  cases hte : timeB e with
  | false =>
    have hin : inB e 0 1099511627776 = false := hte
    have HF : Hid (epochB ⟨c, n, -1, v, d, e⟩ = false) := by show epochB ⟨c, n, -1, v, d, e⟩ = _; simp [epochB, hte]
    go_enter Tryd.func31, Tryd.ntmps31
    go_wp2_with (first | (go_at_call 60; refine (Wire.in_any _ _ _ _).mono ?_; rintro x w' ⟨rfl, rfl⟩))
    go_ret
    exact ⟨by rw [HF.out]; rfl, (Below.refl _ _).alloc (Nat.le_refl _) _⟩
  | true =>
    have hin : inB e 0 1099511627776 = true := hte
    by_cases hc : c = 0
    · by_cases hn : n = 0
      · by_cases hv : v = 0
        · by_cases hd : d.size = 0
          · rw [decide_eq_true hd] at hs
            subst hc hn hv
            have HF : Hid (epochB ⟨0, 0, -1, 0, d, e⟩ = true) := by show epochB ⟨0, 0, -1, 0, d, e⟩ = _; simp [epochB, hte, hd]
            clear hd
            go_enter Tryd.func31, Tryd.ntmps31
            go_wp2_with (first | (go_at_call 60; refine (Wire.in_any _ _ _ _).mono ?_; rintro x w' ⟨rfl, rfl⟩))
            go_ret
            exact ⟨by rw [HF.out]; rfl, (Below.refl _ _).alloc (Nat.le_refl _) _⟩
          · rw [decide_eq_false hd] at hs
            have HF : Hid (epochB ⟨c, n, -1, v, d, e⟩ = false) := by show epochB ⟨c, n, -1, v, d, e⟩ = _; simp [epochB, hd]
            subst hc hn hv
            clear hd
            go_enter Tryd.func31, Tryd.ntmps31
            go_wp2_with (first | (go_at_call 60; refine (Wire.in_any _ _ _ _).mono ?_; rintro x w' ⟨rfl, rfl⟩))
            go_ret
            exact ⟨by rw [HF.out]; rfl, (Below.refl _ _).alloc (Nat.le_refl _) _⟩
        · have hb : (v == 0) = false := by simp [hv]
          have HF : Hid (epochB ⟨c, n, -1, v, d, e⟩ = false) := by show epochB ⟨c, n, -1, v, d, e⟩ = _; simp [epochB, hv]
          subst hc hn
          go_enter Tryd.func31, Tryd.ntmps31
          go_wp2_with (first | (go_at_call 60; refine (Wire.in_any _ _ _ _).mono ?_; rintro x w' ⟨rfl, rfl⟩))
          go_ret
          exact ⟨by rw [HF.out]; rfl, (Below.refl _ _).alloc (Nat.le_refl _) _⟩
      · have hb : (n == 0) = false := by simp [hn]
        have HF : Hid (epochB ⟨c, n, -1, v, d, e⟩ = false) := by show epochB ⟨c, n, -1, v, d, e⟩ = _; simp [epochB, hn]
        subst hc
        go_enter Tryd.func31, Tryd.ntmps31
        go_wp2_with (first | (go_at_call 60; refine (Wire.in_any _ _ _ _).mono ?_; rintro x w' ⟨rfl, rfl⟩))
        go_ret
        exact ⟨by rw [HF.out]; rfl, (Below.refl _ _).alloc (Nat.le_refl _) _⟩
    · have hb : (c == 0) = false := by simp [hc]
      have HF : Hid (epochB ⟨c, n, -1, v, d, e⟩ = false) := by show epochB ⟨c, n, -1, v, d, e⟩ = _; simp [epochB, hc]
      go_enter Tryd.func31, Tryd.ntmps31
      go_wp2_with (first | (go_at_call 60; refine (Wire.in_any _ _ _ _).mono ?_; rintro x w' ⟨rfl, rfl⟩))
      go_ret
      exact ⟨by rw [HF.out]; rfl, (Below.refl _ _).alloc (Nat.le_refl _) _⟩

/-- The three times of a write's record. -/
def times (r : R) : List Int := [r.c, r.n, r.v]
theorem times_made (w : World) (c n v : Int) (t : TypeId) : ∀ k, k < 3 → (w.alloc (.cells #[.int .i64 c, .int .i64 n, .int .i64 v] t)).cell? ⟨w.heap.size, k, none⟩ = some (.int .i64 ([c, n, v].getD k 0)) := by
  intro k hk
  rw [cell_of_row _ _ _ _ _ _ (heap_alloc_new w _)]
  match k, hk with
  | 0, _ => rfl
  | 1, _ => rfl
  | 2, _ => rfl
theorem writeB_times {r : R} {k : Nat} (hk : k < 3) (h : timeB ((times r).getD k 0) = false) : writeB r = false := by
  match k, hk, h with
  | 0, _, h => simp [times] at h; simp [writeB, h]
  | 1, _, h => simp [times] at h; simp [writeB, h]
  | 2, _, h => simp [times] at h; simp [writeB, h]
theorem writeB_rest {r : R} (h : ∀ j, j < 3 → timeB ((times r).getD j 0) = true) : writeB r = decide (0 ≤ r.o ∧ r.o < 8 ∧ r.d.size ≤ 20 ∧ r.e = 0) := by
  have h0 : timeB r.c = true := h 0 (by omega)
  have h1 : timeB r.n = true := h 1 (by omega)
  have h2 : timeB r.v = true := h 2 (by omega)
  simp [writeB, h0, h1, h2]

set_option maxHeartbeats 4000000 in
set_option maxRecDepth 100000 in
theorem ref_write (r : R) (w : World) (ho : r.o ≠ -1) (hsz : r.d.size ≤ 1000) :
    Calls Tryd.prog 31 #[r.agg] w fun x w' => x = .returned (.bool (writeB r)) ∧ Below w.heap.size w w' := by
  have HT : Hid (∀ k, k < 3 → timeB ((times r).getD k 0) = false → writeB r = false) := fun k hk h => writeB_times hk h
  have HR : Hid ((∀ j, j < 3 → timeB ((times r).getD j 0) = true) → writeB r = decide (0 ≤ r.o ∧ r.o < 8 ∧ r.d.size ≤ 20 ∧ r.e = 0)) := writeB_rest
  generalize hB : writeB r = B at *
  clear hB
  obtain ⟨c, n, o, v, d, e⟩ := r
  dsimp only [R.agg, times] at *
  have hob : (o == -1) = false := by simp [ho]
  have hcell := times_made (w.alloc (.cells #[.int .i64 c, .int .i64 n, .int .i64 o, .int .i64 v, .string d, .int .i64 e] 77)) c n v 3
  have hbel : Below w.heap.size w ((w.alloc (.cells #[.int .i64 c, .int .i64 n, .int .i64 o, .int .i64 v, .string d, .int .i64 e] 77)).alloc (.cells #[.int .i64 c, .int .i64 n, .int .i64 v] 3)) := ((Below.refl _ _).alloc (Nat.le_refl _) _).alloc (by simp) _
  have hbox : ∀ i, ((w.alloc (.cells #[.int .i64 c, .int .i64 n, .int .i64 o, .int .i64 v, .string d, .int .i64 e] 77)).alloc (.cells #[.int .i64 c, .int .i64 n, .int .i64 v] 3)).cell? ⟨w.heap.size, i, none⟩ = #[Value.int .i64 c, .int .i64 n, .int .i64 o, .int .i64 v, .string d, .int .i64 e][i]? := fun i => by
    rw [World.cell?_alloc_lt _ _ ⟨w.heap.size, i, none⟩ (by simp), cell_of_row _ _ _ _ _ _ (heap_alloc_new w _)]
  have hsz2 : (w.alloc (.cells #[.int .i64 c, .int .i64 n, .int .i64 o, .int .i64 v, .string d, .int .i64 e] 77)).heap.size = w.heap.size + 1 := by simp
  rw [hsz2] at hcell
  clear hsz2
  go_enter Tryd.func31, Tryd.ntmps31
  go_wp2_with fail
  generalize ((w.alloc (.cells #[.int .i64 c, .int .i64 n, .int .i64 o, .int .i64 v, .string d, .int .i64 e] 77)).alloc (.cells #[.int .i64 c, .int .i64 n, .int .i64 v] 3)) = wt at *
  have b2 : wt.cell? ⟨w.heap.size, 2, none⟩ = some (.int .i64 o) := hbox 2
  have b4 : wt.cell? ⟨w.heap.size, 4, none⟩ = some (.string d) := hbox 4
  have b5 : wt.cell? ⟨w.heap.size, 5, none⟩ = some (.int .i64 e) := hbox 5
  clear hbox
  go_loop [39] (fun i => ∃ k : Nat, k ≤ 3 ∧ i = .int .i64 k ∧ ∀ j, j < k → timeB ([c, n, v].getD j 0) = true) (fun i => 3 - (intOf i).toNat)
  case atStart => exact ⟨0, by omega, rfl, fun j hj => by omega⟩
  case round =>
    obtain ⟨k, hk, rfl, hgood⟩ := hrel
    by_cases hlt : k < 3
    · have hck := hcell k hlt
      have hT := HT.out k hlt
      obtain ⟨x, hx⟩ : ∃ x, [c, n, v].getD k 0 = x := ⟨_, rfl⟩
      rw [hx] at hck hT
      have HX : Hid ([c, n, v].getD k 0 = x) := hx
      have HG : Hid (∀ j, j < k → timeB ([c, n, v].getD j 0) = true) := hgood
      have HB : Hid (timeB x = false → B = false) := hT
      clear hx hgood hcell hT
      cases hb : timeB x with
      | true =>
        have hin : inB x 0 1099511627776 = true := hb
        go_wp2_with (first | (go_at_call 60; refine (Wire.in_any _ _ _ _).mono ?_; rintro x w' ⟨rfl, rfl⟩))
        go_round
        case rel =>
          refine ⟨k + 1, by omega, by go_num, fun j hj => ?_⟩
          rcases Nat.lt_or_ge j k with h | h
          · exact HG.out j h
          · obtain rfl : j = k := by omega
            rw [HX.out]; exact hb
        case measure => simp [intOf]; omega
      | false =>
        have hin : inB x 0 1099511627776 = false := hb
        have hB := HB.out hb
        subst hB
        go_wp2_with (first | (go_at_call 60; refine (Wire.in_any _ _ _ _).mono ?_; rintro x w' ⟨rfl, rfl⟩))
        go_ret
        exact ⟨rfl, hbel⟩
    · have HF := HR.out (fun j hj => hgood j (by omega))
      clear hgood hcell
      by_cases h0 : 0 ≤ o
      · by_cases h1 : o < 8
        · have hin : inB o 0 7 = true := Num.inB_true h0 (by omega)
          by_cases h2 : d.size ≤ 20
          · have h2i : (d.size : Int) ≤ 20 := by omega
            by_cases h3 : e = 0
            · have hb : (e == 0) = true := by simp [h3]
              have hB : B = true := by rw [HF]; exact decide_eq_true ⟨h0, h1, h2, h3⟩
              clear HF h3
              subst hB
              go_wp2_with (first | (go_at_call 60; refine (Wire.in_any _ _ _ _).mono ?_; rintro x w' ⟨rfl, rfl⟩))
              go_ret
              exact ⟨rfl, hbel⟩
            · have hb : (e == 0) = false := by simp [h3]
              have hB : B = false := by rw [HF]; exact decide_eq_false (by omega)
              clear HF
              subst hB
              go_wp2_with (first | (go_at_call 60; refine (Wire.in_any _ _ _ _).mono ?_; rintro x w' ⟨rfl, rfl⟩))
              go_ret
              exact ⟨rfl, hbel⟩
          · have hb : decide ((d.size : Int) ≤ 20) = false := decide_eq_false (by omega)
            have hB : B = false := by rw [HF]; exact decide_eq_false (by omega)
            clear HF
            subst hB
            go_wp2_with (first | (go_at_call 60; refine (Wire.in_any _ _ _ _).mono ?_; rintro x w' ⟨rfl, rfl⟩))
            go_ret
            exact ⟨rfl, hbel⟩
        · have hin : inB o 0 7 = false := Num.inB_above (by omega)
          have hB : B = false := by rw [HF]; exact decide_eq_false (by omega)
          clear HF
          subst hB
          go_wp2_with (first | (go_at_call 60; refine (Wire.in_any _ _ _ _).mono ?_; rintro x w' ⟨rfl, rfl⟩))
          go_ret
          exact ⟨rfl, hbel⟩
      · have hin : inB o 0 7 = false := Num.inB_below (by omega)
        have hB : B = false := by rw [HF]; exact decide_eq_false (by omega)
        clear HF
        subst hB
        go_wp2_with (first | (go_at_call 60; refine (Wire.in_any _ _ _ _).mono ?_; rintro x w' ⟨rfl, rfl⟩))
        go_ret
        exact ⟨rfl, hbel⟩

theorem ref_any (r : R) (w : World) (hsz : r.d.size ≤ 1000) :
    Calls Tryd.prog 31 #[r.agg] w fun x w' => x = .returned (.bool (mayB r)) ∧ Below w.heap.size w w' := by
  by_cases ho : r.o = -1
  · have hE : mayB r = epochB r := by simp [mayB, ho]
    rw [hE]
    obtain ⟨c, n, o, v, d, e⟩ := r
    dsimp only at ho
    subst ho
    exact ref_epoch c n v e d w
  · have hE : mayB r = writeB r := by simp [mayB, ho]
    rw [hE]
    exact ref_write r w ho hsz
end Go.Proofs.YtbebfliimjjohaaDoor.Wal
