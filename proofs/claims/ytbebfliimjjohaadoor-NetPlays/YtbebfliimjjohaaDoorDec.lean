/-
  What wire.Decode answers: the message that some bytes are, or that they are none, over the turned program.
-/
import Derived.Test.YtbebfliimjjohaaDoorRead
namespace Go.Proofs.YtbebfliimjjohaaDoor.Wire
open Go.RowKit
open Num (inB numB okB M NoMsg Reads strOf)

theorem conv_sees {w : World} {B : Nat} {v : Value} {l : List Int} (h : Sees w B v l) : (convert 33 9 v).run Tryd.prog w = .ok (.string (strOf l)) w := by
  obtain ⟨ao, c, rfl, _, _, _, h5⟩ := h
  by_cases hl : 0 < l.length
  · obtain ⟨b, off, rfl, _, h8⟩ := h5 hl
    refine conv_cells _ l c (fun j v hj => ?_)
    have hlt : j < l.length := by
      have := (List.getElem?_eq_some_iff.1 hj).1
      simpa using this
    have h2 := h8 j hlt
    rw [List.getElem?_map, List.getElem?_eq_getElem hlt] at hj
    rw [List.getD_eq_getElem?_getD, List.getElem?_eq_getElem hlt] at h2
    simp at hj h2
    subst hj
    have e : (⟨b, off, none⟩ : Addr).add j = ⟨b, off + j, none⟩ := by unfold Addr.add; split <;> simp_all
    rw [e]
    exact h2
  · have : l = [] := List.eq_nil_of_length_eq_zero (by omega)
    subst this
    cases ao with
    | none => exact conv_nil w c
    | some a => exact conv_cells a [] c (fun j v hj => by simp at hj)

theorem equal_yes (v1 v2 : Value) (s : ByteArray) (w : World) (h1 : (convert 33 9 v1).run Tryd.prog w = .ok (.string s) w) (h2 : (convert 33 9 v2).run Tryd.prog w = .ok (.string s) w) :
    Calls Tryd.prog 69 #[v1, v2] w fun e w' => e = .returned (.bool true) ∧ w' = w := by
  go_enter Tryd.func69, Tryd.ntmps69
  go_wp2
  go_ret
  exact ⟨rfl, rfl⟩

theorem bytes_ne {s t : ByteArray} (h : s ≠ t) : (s.toList == t.toList) = false := by
  rw [beq_eq_false_iff_ne]
  intro h2
  apply h
  rw [ByteArray.toList_eq, ByteArray.toList_eq] at h2
  obtain ⟨⟨a⟩⟩ := s
  obtain ⟨⟨b⟩⟩ := t
  have h3 : a = b := h2
  rw [h3]

theorem equal_no (v1 v2 : Value) (s t : ByteArray) (w : World) (hne : s ≠ t) (h1 : (convert 33 9 v1).run Tryd.prog w = .ok (.string s) w) (h2 : (convert 33 9 v2).run Tryd.prog w = .ok (.string t) w) :
    Calls Tryd.prog 69 #[v1, v2] w fun e w' => e = .returned (.bool false) ∧ w' = w := by
  go_enter Tryd.func69, Tryd.ntmps69
  go_wp2
  go_ret
  refine ⟨?_, rfl⟩
  show Ending.returned (.bool (s.toList == t.toList)) = _
  rw [bytes_ne hne]

/-- What a decoding leaves. -/
def DPost (l : List Int) (w : World) (e : Ending) (w' : World) : Prop :=
  ∃ m er, e = .returned (.tuple #[M.agg m, er]) ∧ Below w.heap.size w w' ∧ ((er = .nilIface ∧ okB m = true ∧ l = m.bytes) ∨ (er = .iface 22 (.int .i64 3) ∧ m = zeroM ∧ NoMsg l))

theorem DPost.no {l : List Int} {w W : World} (hB : Below w.heap.size w W) (h : NoMsg l) : DPost l w (.returned (.tuple #[M.agg zeroM, .iface 22 (.int .i64 3)])) W := ⟨zeroM, _, rfl, hB, .inr ⟨rfl, rfl, h⟩⟩
theorem DPost.yes {l : List Int} {m : M} {w W : World} (hB : Below w.heap.size w W) (h1 : okB m = true) (h2 : l = m.bytes) : DPost l w (.returned (.tuple #[M.agg m, .nilIface])) W := ⟨m, _, rfl, hB, .inl ⟨rfl, h1, h2⟩⟩

/-- A box that holds the zero message. -/
def IsZero (w : World) (q : Nat) : Prop :=
  w.cell? ⟨q, 0, none⟩ = some (.int .i64 0) ∧ w.cell? ⟨q, 1, none⟩ = some (.int .i64 0) ∧ w.cell? ⟨q, 2, none⟩ = some (.int .i64 0) ∧ w.cell? ⟨q, 3, none⟩ = some (.int .i64 0) ∧ w.cell? ⟨q, 4, none⟩ = some (.int .i64 0) ∧ w.cell? ⟨q, 5, none⟩ = some (.int .i64 0) ∧ w.cell? ⟨q, 6, none⟩ = some (.int .i64 0) ∧ w.cell? ⟨q, 7, none⟩ = some (.bool false) ∧ w.cell? ⟨q, 8, none⟩ = some (.string ⟨#[]⟩) ∧ ∀ i, w.frozen? ⟨q, i, none⟩ = false

theorem IsZero.start {w w1 : World} {t : TypeId}
    (hb1 : Below (w.alloc (.cells #[.int .i64 0, .int .i64 0, .int .i64 0, .int .i64 0, .int .i64 0, .int .i64 0, .int .i64 0, .bool false, .string ⟨#[]⟩] t)).heap.size (w.alloc (.cells #[.int .i64 0, .int .i64 0, .int .i64 0, .int .i64 0, .int .i64 0, .int .i64 0, .int .i64 0, .bool false, .string ⟨#[]⟩] t)) w1) : IsZero w1 w.heap.size := by
  have hc := fun i => (bcell hb1).1 w.heap.size i (by simp)
  have hf := fun i => (bcell hb1).2 w.heap.size i (by simp)
  exact ⟨by rw [hc]; simp, by rw [hc]; simp, by rw [hc]; simp, by rw [hc]; simp, by rw [hc]; simp, by rw [hc]; simp, by rw [hc]; simp, by rw [hc]; simp, by rw [hc]; simp, fun i => by rw [hf]; simp⟩

theorem IsZero.later {w w1 w3 : World} {o : Obj} (h : IsZero w1 w.heap.size) (hz : w.heap.size < w1.heap.size) (hbw : Below w.heap.size w w1) (hb : Below (w1.alloc o).heap.size (w1.alloc o) w3) : IsZero w3 w.heap.size ∧ Below w.heap.size w w3 ∧ w1.heap.size < w3.heap.size := by
  have h13 : Below w1.heap.size w1 w3 := ((Below.refl _ _).alloc (Nat.le_refl _) _).trans (hb.mono (by simp))
  obtain ⟨hc, hf⟩ := bcell h13
  obtain ⟨g0, g1, g2, g3, g4, g5, g6, g7, g8, hfz⟩ := h
  have hs := hb.size
  simp at hs
  exact ⟨⟨(hc _ _ hz).trans g0, (hc _ _ hz).trans g1, (hc _ _ hz).trans g2, (hc _ _ hz).trans g3, (hc _ _ hz).trans g4, (hc _ _ hz).trans g5, (hc _ _ hz).trans g6, (hc _ _ hz).trans g7, (hc _ _ hz).trans g8, fun i => (hf _ _ hz).trans (hfz i)⟩, hbw.trans (h13.mono (by omega)), by omega⟩

theorem IsZero.box {w1 w3 : World} {t : TypeId} {k c n e s o v : Int} {l : Bool} {d : ByteArray}
    (hb : Below (w1.alloc (.cells #[.int .i64 k, .int .i64 c, .int .i64 n, .int .i64 e, .int .i64 s, .int .i64 o, .int .i64 v, .bool l, .string d] t)).heap.size (w1.alloc (.cells #[.int .i64 k, .int .i64 c, .int .i64 n, .int .i64 e, .int .i64 s, .int .i64 o, .int .i64 v, .bool l, .string d] t)) w3) :
    w3.cell? ⟨w1.heap.size, 0, none⟩ = some (.int .i64 k) ∧ w3.cell? ⟨w1.heap.size, 1, none⟩ = some (.int .i64 c) ∧ w3.cell? ⟨w1.heap.size, 2, none⟩ = some (.int .i64 n) ∧ w3.cell? ⟨w1.heap.size, 3, none⟩ = some (.int .i64 e) ∧ w3.cell? ⟨w1.heap.size, 4, none⟩ = some (.int .i64 s) ∧ w3.cell? ⟨w1.heap.size, 5, none⟩ = some (.int .i64 o) ∧ w3.cell? ⟨w1.heap.size, 6, none⟩ = some (.int .i64 v) ∧ w3.cell? ⟨w1.heap.size, 7, none⟩ = some (.bool l) ∧ w3.cell? ⟨w1.heap.size, 8, none⟩ = some (.string d) := by
  have hc := fun i => (bcell hb).1 w1.heap.size i (by simp)
  exact ⟨by rw [hc]; simp, by rw [hc]; simp, by rw [hc]; simp, by rw [hc]; simp, by rw [hc]; simp, by rw [hc]; simp, by rw [hc]; simp, by rw [hc]; simp, by rw [hc]; simp⟩

theorem zero9_size (w : World) (q : Nat) : (zero9 w q).heap.size = w.heap.size := by
  unfold zero9
  simp only [World.setCells, World.size_setCell]

set_option maxHeartbeats 4000000 in
set_option maxRecDepth 100000 in
theorem dec_any (B : Nat) (v : Value) (l : List Int) (w : World) (h : Sees w B v l) (h300 : l.length ≤ 300) (hB : B ≤ w.heap.size) :
    Calls Tryd.prog 21 #[v] w (DPost l w) := by
  have hby : ∀ x ∈ l, 0 ≤ x ∧ x < 256 := by obtain ⟨_, _, _, _, _, h4, _⟩ := h; exact h4
  go_enter Tryd.func21, Tryd.ntmps21
  go_wp2_with fail
  refine (read_any B _ l _ (h.below ((Below.refl _ _).alloc hB _) (Nat.le_refl _)) h300 (by simp; omega)).mono ?_
  rintro e w1 ⟨⟨k0, k1, k2, k3, k4, k5, k6, lb, dt⟩, ok, rfl, hb1, hno, hyes⟩
  dsimp only [M.agg]
  have hz1 : w.heap.size < w1.heap.size := by have := hb1.size; simp at this; omega
  have hbw : Below w.heap.size w w1 := ((Below.refl _ _).alloc (Nat.le_refl _) _).trans (hb1.mono (by simp))
  have hZ := IsZero.start hb1
  cases ok with
  | false =>
    have hnm := hno rfl
    obtain ⟨g0, g1, g2, g3, g4, g5, g6, g7, g8, hfz⟩ := hZ
    clear hb1 hno hyes
    go_wp2_with fail
    change bodyPost _ _ _ _ _ ((zero9 w1 w.heap.size).alloc _)
    obtain ⟨z0, z1, z2, z3, z4, z5, z6, z7, z8⟩ := zero9_cells g0 g1 g2 g3 g4 g5 g6 g7 g8
    have hB2 : Below w.heap.size w (zero9 w1 w.heap.size) := zero9_below hbw
    have hB2 := hB2.alloc hB2.size (.cells #[.int .i64 k0, .int .i64 k1, .int .i64 k2, .int .i64 k3, .int .i64 k4, .int .i64 k5, .int .i64 k6, .bool lb, .string dt] 32)
    have hlt : w.heap.size < (zero9 w1 w.heap.size).heap.size := by rw [zero9_size]; exact hz1
    generalize zero9 w1 w.heap.size = W0 at *
    have z0 := (World.cell?_alloc_lt W0 (.cells #[.int .i64 k0, .int .i64 k1, .int .i64 k2, .int .i64 k3, .int .i64 k4, .int .i64 k5, .int .i64 k6, .bool lb, .string dt] 32) ⟨w.heap.size, 0, none⟩ hlt).trans z0
    have z1 := (World.cell?_alloc_lt W0 (.cells #[.int .i64 k0, .int .i64 k1, .int .i64 k2, .int .i64 k3, .int .i64 k4, .int .i64 k5, .int .i64 k6, .bool lb, .string dt] 32) ⟨w.heap.size, 1, none⟩ hlt).trans z1
    have z2 := (World.cell?_alloc_lt W0 (.cells #[.int .i64 k0, .int .i64 k1, .int .i64 k2, .int .i64 k3, .int .i64 k4, .int .i64 k5, .int .i64 k6, .bool lb, .string dt] 32) ⟨w.heap.size, 2, none⟩ hlt).trans z2
    have z3 := (World.cell?_alloc_lt W0 (.cells #[.int .i64 k0, .int .i64 k1, .int .i64 k2, .int .i64 k3, .int .i64 k4, .int .i64 k5, .int .i64 k6, .bool lb, .string dt] 32) ⟨w.heap.size, 3, none⟩ hlt).trans z3
    have z4 := (World.cell?_alloc_lt W0 (.cells #[.int .i64 k0, .int .i64 k1, .int .i64 k2, .int .i64 k3, .int .i64 k4, .int .i64 k5, .int .i64 k6, .bool lb, .string dt] 32) ⟨w.heap.size, 4, none⟩ hlt).trans z4
    have z5 := (World.cell?_alloc_lt W0 (.cells #[.int .i64 k0, .int .i64 k1, .int .i64 k2, .int .i64 k3, .int .i64 k4, .int .i64 k5, .int .i64 k6, .bool lb, .string dt] 32) ⟨w.heap.size, 5, none⟩ hlt).trans z5
    have z6 := (World.cell?_alloc_lt W0 (.cells #[.int .i64 k0, .int .i64 k1, .int .i64 k2, .int .i64 k3, .int .i64 k4, .int .i64 k5, .int .i64 k6, .bool lb, .string dt] 32) ⟨w.heap.size, 6, none⟩ hlt).trans z6
    have z7 := (World.cell?_alloc_lt W0 (.cells #[.int .i64 k0, .int .i64 k1, .int .i64 k2, .int .i64 k3, .int .i64 k4, .int .i64 k5, .int .i64 k6, .bool lb, .string dt] 32) ⟨w.heap.size, 7, none⟩ hlt).trans z7
    have z8 := (World.cell?_alloc_lt W0 (.cells #[.int .i64 k0, .int .i64 k1, .int .i64 k2, .int .i64 k3, .int .i64 k4, .int .i64 k5, .int .i64 k6, .bool lb, .string dt] 32) ⟨w.heap.size, 8, none⟩ hlt).trans z8
    generalize W0.alloc (.cells #[.int .i64 k0, .int .i64 k1, .int .i64 k2, .int .i64 k3, .int .i64 k4, .int .i64 k5, .int .i64 k6, .bool lb, .string dt] 32) = W at *
    clear g0 g1 g2 g3 g4 g5 g6 g7 g8 hfz
    exact bodyPost_ret (v := .tuple #[M.agg zeroM, .iface 22 (.int .i64 3)]) (by simp [zeroM, results, Tryd.results21, go_sem, M.agg, z0, z1, z2, z3, z4, z5, z6, z7, z8]) rfl (DPost.no hB2 hnm)
  | true =>
    have hread := hyes rfl
    have hl3 : dt.size ≤ 1000 := by have h3 : dt.size ≤ l.length := hread.1; omega
    clear hno hyes
    go_wp2_with fail
    cases hok : okB ⟨k0, k1, k2, k3, k4, k5, k6, lb, dt⟩ with
    | false =>
      have hnm : NoMsg l := fun m0 h0 h1 => by
        have := hread.2 m0 h0 h1
        rw [← this, hok] at h0
        cases h0
      refine (enc_bad ⟨k0, k1, k2, k3, k4, k5, k6, lb, dt⟩ _ hl3 hok).mono ?_
      rintro e w3 ⟨rfl, hb3⟩
      obtain ⟨hZ3, hb4, hz3⟩ := IsZero.later hZ hz1 hbw hb3
      obtain ⟨g0, g1, g2, g3, g4, g5, g6, g7, g8, hfz⟩ := hZ3
      clear hb1 hb3 hZ hread hok
      go_wp2_with fail
      change bodyPost _ _ _ _ _ (zero9 w3 w.heap.size)
      obtain ⟨z0, z1, z2, z3, z4, z5, z6, z7, z8⟩ := zero9_cells g0 g1 g2 g3 g4 g5 g6 g7 g8
      have hB2 : Below w.heap.size w (zero9 w3 w.heap.size) := zero9_below hb4
      generalize zero9 w3 w.heap.size = W at *
      clear g0 g1 g2 g3 g4 g5 g6 g7 g8 hfz
      exact bodyPost_ret (v := .tuple #[M.agg zeroM, .iface 22 (.int .i64 3)]) (by simp [zeroM, results, Tryd.results21, go_sem, M.agg, z0, z1, z2, z3, z4, z5, z6, z7, z8]) rfl (DPost.no hB2 hnm)
    | true =>
      refine (enc_ok ⟨k0, k1, k2, k3, k4, k5, k6, lb, dt⟩ _ hl3 hok).mono ?_
      rintro e w3 ⟨v3, rfl, hw3, hb3⟩
      obtain ⟨hZ3, hb4, hz3⟩ := IsZero.later hZ hz1 hbw hb3
      have hcv3 := conv_has hw3
      have hcv := conv_sees (h.below hb4 hB)
      have hm3 := IsZero.box hb3
      clear hb1 hb3 hZ
      go_wp2_with fail
      by_cases heq : l = M.bytes ⟨k0, k1, k2, k3, k4, k5, k6, lb, dt⟩
      · rw [← heq] at hcv3
        refine (equal_yes _ _ _ _ hcv3 hcv).mono ?_
        rintro e w5 ⟨rfl, rfl⟩
        clear hw3 hcv3 hcv
        obtain ⟨g0, g1, g2, g3, g4, g5, g6, g7, g8, hfz⟩ := hZ3
        obtain ⟨b0, b1, b2, b3, b4, b5, b6, b7, b8⟩ := hm3
        go_wp2_with fail
        change bodyPost _ _ _ _ _ (w5.setCells w.heap.size 0 [.int .i64 k0, .int .i64 k1, .int .i64 k2, .int .i64 k3, .int .i64 k4, .int .i64 k5, .int .i64 k6, .bool lb, .string dt])
        have hp := put_cells (.int .i64 k0) (.int .i64 k1) (.int .i64 k2) (.int .i64 k3) (.int .i64 k4) (.int .i64 k5) (.int .i64 k6) (.bool lb) (.string dt) g0 g1 g2 g3 g4 g5 g6 g7 g8
        have hB2 := below_setCells [.int .i64 k0, .int .i64 k1, .int .i64 k2, .int .i64 k3, .int .i64 k4, .int .i64 k5, .int .i64 k6, .bool lb, .string dt] 0 w5 hb4
        generalize w5.setCells w.heap.size 0 [.int .i64 k0, .int .i64 k1, .int .i64 k2, .int .i64 k3, .int .i64 k4, .int .i64 k5, .int .i64 k6, .bool lb, .string dt] = W at *
        have z0 := hp 0 (by decide)
        have z1 := hp 1 (by decide)
        have z2 := hp 2 (by decide)
        have z3 := hp 3 (by decide)
        have z4 := hp 4 (by decide)
        have z5 := hp 5 (by decide)
        have z6 := hp 6 (by decide)
        have z7 := hp 7 (by decide)
        have z8 := hp 8 (by decide)
        simp only [List.getElem_cons_zero, List.getElem_cons_succ] at z0 z1 z2 z3 z4 z5 z6 z7 z8
        clear hp g0 g1 g2 g3 g4 g5 g6 g7 g8 b0 b1 b2 b3 b4 b5 b6 b7 b8 hfz
        exact bodyPost_ret (v := .tuple #[M.agg ⟨k0, k1, k2, k3, k4, k5, k6, lb, dt⟩, .nilIface]) (by simp [results, Tryd.results21, go_sem, M.agg, z0, z1, z2, z3, z4, z5, z6, z7, z8]) rfl (DPost.yes hB2 hok heq)
      · have hnm : NoMsg l := fun m0 h0 h1 => by
          have := hread.2 m0 h0 h1
          rw [this] at heq
          exact heq h1
        have hne : strOf (M.bytes ⟨k0, k1, k2, k3, k4, k5, k6, lb, dt⟩) ≠ strOf l := fun hs => heq (Num.strOf_inj (Num.bytes_byte hok) hby hs).symm
        refine (equal_no _ _ _ _ _ hne hcv3 hcv).mono ?_
        rintro e w5 ⟨rfl, rfl⟩
        clear hw3 hcv3 hcv hm3 hread hok heq hne
        obtain ⟨g0, g1, g2, g3, g4, g5, g6, g7, g8, hfz⟩ := hZ3
        go_wp2_with fail
        change bodyPost _ _ _ _ _ (zero9 w5 w.heap.size)
        obtain ⟨z0, z1, z2, z3, z4, z5, z6, z7, z8⟩ := zero9_cells g0 g1 g2 g3 g4 g5 g6 g7 g8
        have hB2 : Below w.heap.size w (zero9 w5 w.heap.size) := zero9_below hb4
        generalize zero9 w5 w.heap.size = W at *
        clear g0 g1 g2 g3 g4 g5 g6 g7 g8 hfz
        exact bodyPost_ret (v := .tuple #[M.agg zeroM, .iface 22 (.int .i64 3)]) (by simp [zeroM, results, Tryd.results21, go_sem, M.agg, z0, z1, z2, z3, z4, z5, z6, z7, z8]) rfl (DPost.no hB2 hnm)

end Go.Proofs.YtbebfliimjjohaaDoor.Wire
