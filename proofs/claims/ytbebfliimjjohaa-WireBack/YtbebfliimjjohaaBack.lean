/-
  That tenurekeep.WireBack is true at every message and every cut, over the turned program.
-/
import Derived.Test.YtbebfliimjjohaaDec
import Derived.Test.YtbebfliimjjohaaInj
import Derived.Laws.StructEq
namespace Go.Proofs.Ytbebfliimjjohaa.Wire
open Go.RowKit
open Num (inB numB okB M NoMsg)

/-- A message in a box. -/
def Boxed (w : World) (q : Nat) (m : M) : Prop :=
  w.cell? ⟨q, 0, none⟩ = some (.int .i64 m.k) ∧ w.cell? ⟨q, 1, none⟩ = some (.int .i64 m.c) ∧ w.cell? ⟨q, 2, none⟩ = some (.int .i64 m.n) ∧ w.cell? ⟨q, 3, none⟩ = some (.int .i64 m.e) ∧ w.cell? ⟨q, 4, none⟩ = some (.int .i64 m.s) ∧ w.cell? ⟨q, 5, none⟩ = some (.int .i64 m.o) ∧ w.cell? ⟨q, 6, none⟩ = some (.int .i64 m.v) ∧ w.cell? ⟨q, 7, none⟩ = some (.bool m.l) ∧ w.cell? ⟨q, 8, none⟩ = some (.string m.d)

theorem Boxed.below {w w' : World} {q : Nat} {m : M} (h : Boxed w q m) (hb : Below w.heap.size w w') (hq : q < w.heap.size) : Boxed w' q m := by
  obtain ⟨hc, _⟩ := bcell hb
  obtain ⟨g0, g1, g2, g3, g4, g5, g6, g7, g8⟩ := h
  exact ⟨(hc _ _ hq).trans g0, (hc _ _ hq).trans g1, (hc _ _ hq).trans g2, (hc _ _ hq).trans g3, (hc _ _ hq).trans g4, (hc _ _ hq).trans g5, (hc _ _ hq).trans g6, (hc _ _ hq).trans g7, (hc _ _ hq).trans g8⟩

theorem Boxed.made (w : World) (k c n e s o v : Int) (l : Bool) (d : ByteArray) (t : TypeId) :
    Boxed (w.alloc (.cells #[.int .i64 k, .int .i64 c, .int .i64 n, .int .i64 e, .int .i64 s, .int .i64 o, .int .i64 v, .bool l, .string d] t)) w.heap.size ⟨k, c, n, e, s, o, v, l, d⟩ := by
  unfold Boxed
  simp

theorem has_sees {w : World} {B : Nat} {v : Value} {l : List Int} (h : Has w B v l) (hl : 0 < l.length) (hb : ∀ x ∈ l, 0 ≤ x ∧ x < 256) : ∃ g cap, v = .slice (some ⟨g, 0, none⟩) l.length cap ∧ l.length ≤ cap ∧ cap ≤ 9223372036854775807 ∧ Sees w w.heap.size v l := by
  have hlt := h.row.lt
  have hc := @World.ownsRow.cells w B 5 1 v l.length (l.map (Value.int .u8)) h
  rcases h.2 with ⟨_, h0⟩ | ⟨g, cap, cur, rfl, _, _, hn, hm, _⟩
  · omega
  · have hm' : cap ≤ 9223372036854775807 := hm
    refine ⟨g, cap, rfl, hn, hm', _, cap, rfl, hn, hm', hb, fun _ => ⟨g, 0, rfl, (hlt g rfl).2, fun j hj => ?_⟩⟩
    have h1 := hc (g := g) rfl j (.int .u8 (l.getD j 0)) (by rw [List.getElem?_map, List.getElem?_eq_getElem hj, List.getD_eq_getElem?_getD, List.getElem?_eq_getElem hj]; rfl)
    have e : (⟨g, 0, none⟩ : Addr).add j = ⟨g, 0 + j, none⟩ := by unfold Addr.add; split <;> simp_all
    rw [e] at h1
    exact h1

theorem Sees.cut {w : World} {B g n cap r : Nat} {l : List Int} (hn : n = l.length) (h : Sees w B (.slice (some ⟨g, 0, none⟩) n cap) l) (hr : r ≤ l.length) (hl : 0 < l.length) : Sees w B (.slice (some ⟨g, 0, none⟩) r cap) (l.take r) := by
  subst hn
  obtain ⟨ao, c', he, h2, h3, h4, h5⟩ := h
  obtain ⟨b', off', h6, h7, h8⟩ := h5 hl
  subst h6
  injection he with e1 e2 e3
  injection e1 with e4
  injection e4 with e5 e6
  subst e3 e5 e6
  have e : (l.take r).length = r := by rw [List.length_take]; omega
  refine ⟨_, cap, by rw [e], by omega, h3, fun x hx => h4 x (List.mem_of_mem_take hx), fun _ => ⟨g, 0, rfl, h7, fun j hj => ?_⟩⟩
  rw [h8 j (by omega)]
  simp only [List.getD_eq_getElem?_getD, List.getElem?_take]
  rw [if_pos (by omega)]

theorem bytes_len {m : M} (h : okB m = true) : m.bytes.length ≤ 64 ∧ 0 < m.bytes.length := by
  simp only [okB, Bool.and_eq_true, decide_eq_true_eq] at h
  have h1 := (Num.body_small _ h.2).1
  have h2 : m.nums.length = 7 := rfl
  rw [Num.M.bytes_eq, List.length_append]
  simp only [Num.M.tail, List.cons_append, List.nil_append, List.length_cons, Num.ints_length]
  omega

theorem dec_back (m : M) (hok : okB m = true) (B : Nat) (v : Value) (w : World) (h : Sees w B v m.bytes) (hB : B ≤ w.heap.size) :
    Calls Try.prog 11 #[v] w fun e w' => e = .returned (.tuple #[M.agg m, .nilIface]) ∧ Below w.heap.size w w' := by
  have hl := bytes_len hok
  refine (dec_any B v m.bytes w h (by omega) hB).mono ?_
  rintro e w' ⟨m2, er, rfl, hb, ⟨rfl, h2, h3⟩ | ⟨_, _, h3⟩⟩
  · rw [Num.bytes_inj hok h2 h3]
    exact ⟨rfl, hb⟩
  · exact absurd rfl (h3 m hok)

theorem dec_short (m : M) (hok : okB m = true) (r : Nat) (hr : r < m.bytes.length) (B : Nat) (v : Value) (w : World) (h : Sees w B v (m.bytes.take r)) (hB : B ≤ w.heap.size) :
    Calls Try.prog 11 #[v] w fun e w' => e = .returned (.tuple #[M.agg zeroM, .iface 40 (.int .i64 3)]) ∧ Below w.heap.size w w' := by
  have hl := bytes_len hok
  refine (dec_any B v (m.bytes.take r) w h (by rw [List.length_take]; omega) hB).mono ?_
  rintro e w' ⟨m2, er, rfl, hb, ⟨_, h2, h3⟩ | ⟨rfl, rfl, _⟩⟩
  · have h4 : m2.bytes ++ m.bytes.drop r = m.bytes := by rw [← h3, List.take_append_drop]
    have h5 := (Num.bytes_cut h2 hok h4).2
    have h6 := congrArg List.length h5
    rw [List.length_drop] at h6
    simp at h6
    omega
  · exact ⟨rfl, hb⟩

theorem pick_range (x n : Int) (hx : 0 ≤ x) (h : 0 < n) (h1 : n ≤ 1099511627776) : 0 ≤ wrap64 (x.tmod n) ∧ wrap64 (x.tmod n) < n := by
  have h2 : 0 ≤ x.tmod n := Int.tmod_nonneg n hx
  have h3 : x.tmod n < n := Int.tmod_lt_of_pos x h
  unfold wrap64
  omega

theorem wrap_u64_nonneg (a : Int) : 0 ≤ IntKind.u64.wrap a := by
  simp [IntKind.wrap, IntKind.signed, IntKind.bits]
  omega

theorem pick_any (a n : Int) (w : World) (h : 0 < n) (h1 : n ≤ 1099511627776) :
    Calls Try.prog 6 #[.int .i64 a, .int .i64 n] w fun e w' => ∃ r : Int, 0 ≤ r ∧ r < n ∧ e = .returned (.int .i64 r) ∧ w' = w := by
  go_enter Try.func6, Try.ntmps6
  go_wp2
  go_ret
  exact ⟨_, (pick_range _ n (wrap_u64_nonneg a) h h1).1, (pick_range _ n (wrap_u64_nonneg a) h h1).2, rfl, rfl⟩

/-- The message of the fact. -/
def factM : M := ⟨5, 2, 0, 0, 0, 0, 300, true, ⟨#[120]⟩⟩
theorem factM_ok : okB factM = true := by decide

set_option maxHeartbeats 4000000 in
set_option maxRecDepth 100000 in
theorem told_true (w : World) :
    Calls Try.prog 9 #[] w fun e w' => e = .returned (.bool true) ∧ Below w.heap.size w w' := by
  have hlen := bytes_len factM_ok
  have enc := fun w => enc_ok factM w (by decide) factM_ok
  have hby := Num.bytes_byte factM_ok
  have dec := fun B v w => dec_back factM factM_ok B v w
  generalize M.bytes factM = bs at *
  dsimp only [M.agg, factM] at enc dec
  go_enter Try.func9, Try.ntmps9
  go_wp2_with fail
  refine (enc _).mono ?_
  rintro e w1 ⟨v1, rfl, hw1, hb1⟩
  obtain ⟨g, cap, rfl, _, _, hs1⟩ := has_sees hw1 hlen.2 hby
  have B1 := (Boxed.made w 5 2 0 0 0 0 300 true ⟨#[120]⟩ 31).below hb1 (by simp)
  go_wp2_with fail
  refine (dec _ _ _ hs1 (Nat.le_refl _)).mono ?_
  rintro e w2 ⟨rfl, hb2⟩
  have hz1 := hb1.size
  simp at hz1
  have B2 := B1.below hb2 (by omega)
  have hz2 := hb2.size
  obtain ⟨b0, b1, b2, b3, b4, b5, b6, b7, b8⟩ := B2
  dsimp only at b0 b1 b2 b3 b4 b5 b6 b7 b8
  have hlt2 : w.heap.size < w2.heap.size := by omega
  go_wp2_with fail
  go_ret
  exact ⟨rfl, ((((Below.refl _ _).alloc (Nat.le_refl _) _).trans (hb1.mono (by simp))).trans (hb2.mono (by omega))).alloc (by omega) _⟩

set_option maxHeartbeats 4000000 in
set_option maxRecDepth 100000 in
theorem back (m : M) (cut : Int) (w : World) (hm : m.d.size ≤ maxLen) :
    Calls Try.prog 4 #[M.agg m, .int .i64 cut] w fun e w' => e = .returned (.bool true) ∧ Below w.heap.size w w' := by
  unfold maxLen at hm
  by_cases h100 : 100 < m.d.size
  · obtain ⟨k, c, n, e, s, o, v, l, d⟩ := m
    dsimp only [M.agg] at *
    go_enter Try.func4, Try.ntmps4
    go_wp2_with fail
    go_ret
    exact ⟨rfl, (Below.refl _ _).alloc (Nat.le_refl _) _⟩
  · cases hok : okB m with
    | false =>
      have enc := fun w => enc_bad m w (by omega) hok
      clear hok
      obtain ⟨k, c, n, e, s, o, v, l, d⟩ := m
      dsimp only [M.agg] at *
      go_enter Try.func4, Try.ntmps4
      go_wp2_with fail
      refine (told_true _).mono ?_
      rintro e w1 ⟨rfl, hb1⟩
      obtain ⟨b0, b1, b2, b3, b4, b5, b6, b7, b8⟩ := (Boxed.made w k c n e s o v l d 31).below hb1 (by simp)
      go_wp2_with fail
      refine (enc _).mono ?_
      rintro e w2 ⟨rfl, hb2⟩
      go_wp2_with fail
      go_ret
      have hz1 := hb1.size
      simp at hz1
      exact ⟨rfl, (((Below.refl _ _).alloc (Nat.le_refl _) _).trans (hb1.mono (by simp))).trans (hb2.mono (by omega))⟩
    | true =>
      have hlen := bytes_len hok
      have enc := fun w => enc_ok m w (by omega) hok
      have hby := Num.bytes_byte hok
      have dec := fun B v w => dec_back m hok B v w
      have dsh := fun r hr B v w => dec_short m hok r hr B v w
      generalize M.bytes m = bs at *
      clear hok
      obtain ⟨k, c, n, e, s, o, v, l, d⟩ := m
      dsimp only [M.agg, zeroM] at *
      go_enter Try.func4, Try.ntmps4
      go_wp2_with fail
      refine (told_true _).mono ?_
      rintro e w1 ⟨rfl, hb1⟩
      have hz1 := hb1.size
      simp at hz1
      have B1 := (Boxed.made w k c n e s o v l d 31).below hb1 (by simp)
      have B1k := B1
      obtain ⟨b0, b1, b2, b3, b4, b5, b6, b7, b8⟩ := B1
      dsimp only at b0 b1 b2 b3 b4 b5 b6 b7 b8
      go_wp2_with fail
      refine (enc _).mono ?_
      rintro e w2 ⟨v2, rfl, hw2, hb2⟩
      obtain ⟨g, cap, rfl, hc1, hc2, hs2⟩ := has_sees hw2 hlen.2 hby
      have hz2 := hb2.size
      have B2 := B1k.below hb2 (by omega)
      have hbw2 : Below w.heap.size w w2 := (((Below.refl _ _).alloc (Nat.le_refl _) _).trans (hb1.mono (by simp))).trans (hb2.mono (by omega))
      clear b0 b1 b2 b3 b4 b5 b6 b7 b8 B1k hb1 hb2
      go_wp2_with fail
      refine (dec _ _ _ hs2 (Nat.le_refl _)).mono ?_
      rintro e w3 ⟨rfl, hb3⟩
      have hz3 := hb3.size
      have B3 := B2.below hb3 (by omega)
      go_wp2_with fail
      refine (pick_any _ _ _ (by omega) (by omega)).mono ?_
      rintro e w4 ⟨r, hr0, hr1, rfl, rfl⟩
      obtain ⟨r, rfl⟩ := Int.eq_ofNat_of_zero_le hr0
      go_wp2_with fail
      refine (dsh r (by omega) w2.heap.size _ _ ((hs2.below (hb3.alloc hz3 _) (Nat.le_refl _)).cut rfl (by omega) hlen.2) (by simp; omega)).mono ?_
      rintro e w5 ⟨rfl, hb5⟩
      have hz5 := hb5.size
      simp at hz5
      obtain ⟨b0, b1, b2, b3, b4, b5, b6, b7, b8⟩ := (B3.below ((Below.refl _ _).alloc (Nat.le_refl _) _) (by omega)).below hb5 (by simp; omega)
      obtain ⟨c0, c1, c2, c3, c4, c5, c6, c7, c8⟩ := (Boxed.made w3 k c n e s o v l d 31).below hb5 (by simp)
      dsimp only at b0 b1 b2 b3 b4 b5 b6 b7 b8 c0 c1 c2 c3 c4 c5 c6 c7 c8
      have hl1 : w.heap.size < w5.heap.size := by omega
      have hl2 : w3.heap.size < w5.heap.size := by omega
      have hbw5 : Below w.heap.size w w5 := ((hbw2.trans (hb3.mono (by omega))).alloc (by omega) _).trans (hb5.mono (by simp; omega))
      clear hs2 hw2 B2 B3 hb3 hb5 hbw2 enc dec dsh
      go_wp2_with fail
      go_ret
      exact ⟨rfl, hbw5.alloc (by omega) _⟩
end Go.Proofs.Ytbebfliimjjohaa.Wire
