/-
  Which record may be: contracts of wal.isTime, wal.mayBe, tenureref.May and tenurelaw.recorded over the turned program.
-/
import Derived.Test.YtbebfliimjjohaaDoorRefn
import Derived.Laws.StructEq
namespace Go.Proofs.YtbebfliimjjohaaDoor.Wal
open Go.RowKit
open Num (inB)

/-- A record. -/
structure R where
  c : Int
  n : Int
  o : Int
  v : Int
  d : ByteArray
  e : Int

abbrev R.agg (r : R) : Value := .agg #[.int .i64 r.c, .int .i64 r.n, .int .i64 r.o, .int .i64 r.v, .string r.d, .int .i64 r.e]

/-- Is it from 0 to MaxTime? -/
def timeB (n : Int) : Bool := inB n 0 1099511627776
/-- Is an epoch's record one that may be? -/
def epochB (r : R) : Bool := timeB r.e && decide (r.c = 0 ∧ r.n = 0 ∧ r.v = 0 ∧ r.d.size = 0)
/-- Is a write's record one that may be? -/
def writeB (r : R) : Bool := timeB r.c && timeB r.n && timeB r.v && decide (0 ≤ r.o ∧ r.o < 8 ∧ r.d.size ≤ 20 ∧ r.e = 0)
def mayB (r : R) : Bool := if r.o = -1 then epochB r else writeB r

theorem time_any (n : Int) (w : World) :
    Calls Tryd.prog 89 #[.int .i64 n] w fun e w' => e = .returned (.bool (timeB n)) ∧ w' = w := by
  unfold timeB
  by_cases h0 : 0 ≤ n
  · by_cases h1 : n ≤ 1099511627776
    · rw [Num.inB_true h0 h1]
      go_enter Tryd.func89, Tryd.ntmps89
      go_wp2
      go_ret
      exact ⟨rfl, rfl⟩
    · rw [Num.inB_above (by omega)]
      have h2 : decide (n ≤ 1099511627776) = false := decide_eq_false h1
      go_enter Tryd.func89, Tryd.ntmps89
      go_wp2
      go_ret
      exact ⟨rfl, rfl⟩
  · rw [Num.inB_below (by omega)]
    have h2 : decide (0 ≤ n) = false := decide_eq_false h0
    go_enter Tryd.func89, Tryd.ntmps89
    go_wp2
    go_ret
    exact ⟨rfl, rfl⟩

set_option maxHeartbeats 1000000 in
set_option maxRecDepth 100000 in
theorem recorded_any (r : R) (w : World) :
    Calls Tryd.prog 32 #[r.agg] w fun e w' => e = .returned r.agg ∧ Below w.heap.size w w' := by
  obtain ⟨c, n, o, v, d, e⟩ := r
  dsimp only [R.agg]
  go_enter Tryd.func32, Tryd.ntmps32
  go_wp2
  refine bodyPost_ret (v := .agg #[.int .i64 c, .int .i64 n, .int .i64 o, .int .i64 v, .string d, .int .i64 e]) (by simp [results, Tryd.results32, go_sem]) rfl ⟨rfl, ?_⟩
  exact ((Below.refl _ _).alloc (Nat.le_refl _) _).alloc (by simp) _

theorem size0 {d : ByteArray} : (d.toList == []) = decide (d.size = 0) := by
  rw [Bool.eq_iff_iff]
  simp only [beq_iff_eq, decide_eq_true_eq]
  constructor
  · intro h
    have := congrArg List.length h
    rw [Go.ByteArray.toList_eq] at this
    simpa using this
  · intro h
    rw [Go.ByteArray.toList_eq]
    exact List.length_eq_zero_iff.1 (by rw [Array.length_toList]; exact h)

set_option maxHeartbeats 4000000 in
set_option maxRecDepth 100000 in
theorem may_epoch (c n v e : Int) (d : ByteArray) (w : World) :
    Calls Tryd.prog 75 #[R.agg ⟨c, n, -1, v, d, e⟩] w fun x w' => x = .returned (.bool (epochB ⟨c, n, -1, v, d, e⟩)) ∧ Below w.heap.size w w' := by
  dsimp only [R.agg]
  have hs := size0 (d := d)
  have hee : (e == e) = true := by simp
  cases hte : timeB e with
  | false =>
    have HF : Hid (epochB ⟨c, n, -1, v, d, e⟩ = false) := by show epochB ⟨c, n, -1, v, d, e⟩ = _; simp [epochB, hte]
    go_enter Tryd.func75, Tryd.ntmps75
    go_wp2_with (first | (go_at_call 89; refine (time_any _ _).mono ?_; rintro x w' ⟨rfl, rfl⟩))
    go_ret
    exact ⟨by rw [HF.out]; rfl, (Below.refl _ _).alloc (Nat.le_refl _) _⟩
  | true =>
    by_cases hc : c = 0
    · by_cases hn : n = 0
      · by_cases hv : v = 0
        · by_cases hd : d.size = 0
          · rw [decide_eq_true hd] at hs
            subst hc hn hv
            have HF : Hid (epochB ⟨0, 0, -1, 0, d, e⟩ = true) := by show epochB ⟨0, 0, -1, 0, d, e⟩ = _; simp [epochB, hte, hd]
            clear hd
            go_enter Tryd.func75, Tryd.ntmps75
            go_wp2_with (first | (go_at_call 89; refine (time_any _ _).mono ?_; rintro x w' ⟨rfl, rfl⟩))
            go_ret
            exact ⟨by rw [HF.out]; rfl, (Below.refl _ _).alloc (Nat.le_refl _) _⟩
          · rw [decide_eq_false hd] at hs
            have HF : Hid (epochB ⟨c, n, -1, v, d, e⟩ = false) := by show epochB ⟨c, n, -1, v, d, e⟩ = _; simp [epochB, hd]
            subst hc hn hv
            clear hd
            go_enter Tryd.func75, Tryd.ntmps75
            go_wp2_with (first | (go_at_call 89; refine (time_any _ _).mono ?_; rintro x w' ⟨rfl, rfl⟩))
            go_ret
            exact ⟨by rw [HF.out]; rfl, (Below.refl _ _).alloc (Nat.le_refl _) _⟩
        · have hb : (v == 0) = false := by simp [hv]
          have HF : Hid (epochB ⟨c, n, -1, v, d, e⟩ = false) := by show epochB ⟨c, n, -1, v, d, e⟩ = _; simp [epochB, hv]
          subst hc hn
          go_enter Tryd.func75, Tryd.ntmps75
          go_wp2_with (first | (go_at_call 89; refine (time_any _ _).mono ?_; rintro x w' ⟨rfl, rfl⟩))
          go_ret
          exact ⟨by rw [HF.out]; rfl, (Below.refl _ _).alloc (Nat.le_refl _) _⟩
      · have hb : (n == 0) = false := by simp [hn]
        have HF : Hid (epochB ⟨c, n, -1, v, d, e⟩ = false) := by show epochB ⟨c, n, -1, v, d, e⟩ = _; simp [epochB, hn]
        subst hc
        go_enter Tryd.func75, Tryd.ntmps75
        go_wp2_with (first | (go_at_call 89; refine (time_any _ _).mono ?_; rintro x w' ⟨rfl, rfl⟩))
        go_ret
        exact ⟨by rw [HF.out]; rfl, (Below.refl _ _).alloc (Nat.le_refl _) _⟩
    · have hb : (c == 0) = false := by simp [hc]
      have HF : Hid (epochB ⟨c, n, -1, v, d, e⟩ = false) := by show epochB ⟨c, n, -1, v, d, e⟩ = _; simp [epochB, hc]
      go_enter Tryd.func75, Tryd.ntmps75
      go_wp2_with (first | (go_at_call 89; refine (time_any _ _).mono ?_; rintro x w' ⟨rfl, rfl⟩))
      go_ret
      exact ⟨by rw [HF.out]; rfl, (Below.refl _ _).alloc (Nat.le_refl _) _⟩

set_option maxHeartbeats 4000000 in
set_option maxRecDepth 100000 in
theorem may_write (r : R) (w : World) (ho : r.o ≠ -1) (hsz : r.d.size ≤ 1000) :
    Calls Tryd.prog 75 #[r.agg] w fun x w' => x = .returned (.bool (writeB r)) ∧ Below w.heap.size w w' := by
  obtain ⟨c, n, o, v, d, e⟩ := r
  dsimp only [R.agg] at *
  have hob : (o == -1) = false := by simp [ho]
  cases hc : timeB c with
  | false =>
    have HF : Hid (writeB ⟨c, n, o, v, d, e⟩ = false) := by show writeB ⟨c, n, o, v, d, e⟩ = _; simp [writeB, hc]
    go_enter Tryd.func75, Tryd.ntmps75
    go_wp2_with (first | (go_at_call 89; refine (time_any _ _).mono ?_; rintro x w' ⟨rfl, rfl⟩))
    go_ret
    exact ⟨by rw [HF.out]; rfl, (Below.refl _ _).alloc (Nat.le_refl _) _⟩
  | true =>
    cases hn : timeB n with
    | false =>
      have HF : Hid (writeB ⟨c, n, o, v, d, e⟩ = false) := by show writeB ⟨c, n, o, v, d, e⟩ = _; simp [writeB, hn]
      go_enter Tryd.func75, Tryd.ntmps75
      go_wp2_with (first | (go_at_call 89; refine (time_any _ _).mono ?_; rintro x w' ⟨rfl, rfl⟩))
      go_ret
      exact ⟨by rw [HF.out]; rfl, (Below.refl _ _).alloc (Nat.le_refl _) _⟩
    | true =>
      cases hv : timeB v with
      | false =>
        have HF : Hid (writeB ⟨c, n, o, v, d, e⟩ = false) := by show writeB ⟨c, n, o, v, d, e⟩ = _; simp [writeB, hv]
        go_enter Tryd.func75, Tryd.ntmps75
        go_wp2_with (first | (go_at_call 89; refine (time_any _ _).mono ?_; rintro x w' ⟨rfl, rfl⟩))
        go_ret
        exact ⟨by rw [HF.out]; rfl, (Below.refl _ _).alloc (Nat.le_refl _) _⟩
      | true =>
        by_cases h0 : 0 ≤ o
        · by_cases h1 : o < 8
          · by_cases h2 : d.size ≤ 20
            · have h2i : (d.size : Int) ≤ 20 := by omega
              by_cases h3 : e = 0
              · have hb : (e == 0) = true := by simp [h3]
                have HF : Hid (writeB ⟨c, n, o, v, d, e⟩ = true) := by show writeB ⟨c, n, o, v, d, e⟩ = _; simp [writeB, hc, hn, hv, h0, h1, h2, h3]
                clear h3
                go_enter Tryd.func75, Tryd.ntmps75
                go_wp2_with (first | (go_at_call 89; refine (time_any _ _).mono ?_; rintro x w' ⟨rfl, rfl⟩))
                go_ret
                exact ⟨by rw [HF.out]; rfl, (Below.refl _ _).alloc (Nat.le_refl _) _⟩
              · have hb : (e == 0) = false := by simp [h3]
                have HF : Hid (writeB ⟨c, n, o, v, d, e⟩ = false) := by show writeB ⟨c, n, o, v, d, e⟩ = _; simp [writeB, h3]
                go_enter Tryd.func75, Tryd.ntmps75
                go_wp2_with (first | (go_at_call 89; refine (time_any _ _).mono ?_; rintro x w' ⟨rfl, rfl⟩))
                go_ret
                exact ⟨by rw [HF.out]; rfl, (Below.refl _ _).alloc (Nat.le_refl _) _⟩
            · have hb : decide ((d.size : Int) ≤ 20) = false := decide_eq_false (by omega)
              have HF : Hid (writeB ⟨c, n, o, v, d, e⟩ = false) := by show writeB ⟨c, n, o, v, d, e⟩ = _; simp [writeB]; omega
              go_enter Tryd.func75, Tryd.ntmps75
              go_wp2_with (first | (go_at_call 89; refine (time_any _ _).mono ?_; rintro x w' ⟨rfl, rfl⟩))
              go_ret
              exact ⟨by rw [HF.out]; rfl, (Below.refl _ _).alloc (Nat.le_refl _) _⟩
          · have hb : decide (o < 8) = false := decide_eq_false h1
            have HF : Hid (writeB ⟨c, n, o, v, d, e⟩ = false) := by show writeB ⟨c, n, o, v, d, e⟩ = _; simp [writeB]; omega
            go_enter Tryd.func75, Tryd.ntmps75
            go_wp2_with (first | (go_at_call 89; refine (time_any _ _).mono ?_; rintro x w' ⟨rfl, rfl⟩))
            go_ret
            exact ⟨by rw [HF.out]; rfl, (Below.refl _ _).alloc (Nat.le_refl _) _⟩
        · have hb : decide (0 ≤ o) = false := decide_eq_false h0
          have HF : Hid (writeB ⟨c, n, o, v, d, e⟩ = false) := by show writeB ⟨c, n, o, v, d, e⟩ = _; simp [writeB]; omega
          go_enter Tryd.func75, Tryd.ntmps75
          go_wp2_with (first | (go_at_call 89; refine (time_any _ _).mono ?_; rintro x w' ⟨rfl, rfl⟩))
          go_ret
          exact ⟨by rw [HF.out]; rfl, (Below.refl _ _).alloc (Nat.le_refl _) _⟩

theorem may_any (r : R) (w : World) (hsz : r.d.size ≤ 1000) :
    Calls Tryd.prog 75 #[r.agg] w fun x w' => x = .returned (.bool (mayB r)) ∧ Below w.heap.size w w' := by
  by_cases ho : r.o = -1
  · have hE : mayB r = epochB r := by simp [mayB, ho]
    rw [hE]
    obtain ⟨c, n, o, v, d, e⟩ := r
    dsimp only at ho
    subst ho
    exact may_epoch c n v e d w
  · have hE : mayB r = writeB r := by simp [mayB, ho]
    rw [hE]
    exact may_write r w ho hsz
end Go.Proofs.YtbebfliimjjohaaDoor.Wal
