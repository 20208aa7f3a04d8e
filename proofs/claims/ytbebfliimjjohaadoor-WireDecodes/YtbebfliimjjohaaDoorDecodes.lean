/-
  That tenurelaw.WireDecodes is true at all bytes, over the turned program.
-/
import Derived.Test.YtbebfliimjjohaaDoorRefw
import Derived.Test.YtbebfliimjjohaaDoorInj
import Derived.Test.YtbebfliimjjohaaDoorEncodes
import Derived.Laws.StructEq
import Derived.Deep.RegionHeld3
namespace Go.Proofs.YtbebfliimjjohaaDoor.Wire
open Go.RowKit
open Num (inB numB okB M NoMsg)

theorem decodes_long (ao : Option Addr) (n c : Nat) (w : World) (hn : 200 < n) (hm : n ≤ 9223372036854775807) :
    Calls Tryd.prog 5 #[.slice ao n c] w fun e w' => e = .returned (.bool true) ∧ w' = w := by
  go_enter Tryd.func5, Tryd.ntmps5
  go_wp2_with fail
  go_ret
  exact ⟨rfl, rfl⟩

/-- A message in a box. -/
def Boxed (w : World) (q : Nat) (m : M) : Prop :=
  w.cell? ⟨q, 0, none⟩ = some (.int .i64 m.k) ∧ w.cell? ⟨q, 1, none⟩ = some (.int .i64 m.c) ∧ w.cell? ⟨q, 2, none⟩ = some (.int .i64 m.n) ∧ w.cell? ⟨q, 3, none⟩ = some (.int .i64 m.e) ∧ w.cell? ⟨q, 4, none⟩ = some (.int .i64 m.s) ∧ w.cell? ⟨q, 5, none⟩ = some (.int .i64 m.o) ∧ w.cell? ⟨q, 6, none⟩ = some (.int .i64 m.v) ∧ w.cell? ⟨q, 7, none⟩ = some (.bool m.l) ∧ w.cell? ⟨q, 8, none⟩ = some (.string m.d)

theorem Boxed.below {w w' : World} {q : Nat} {m : M} (h : Boxed w q m) (hb : Below w.heap.size w w') (hq : q < w.heap.size) : Boxed w' q m := by
  obtain ⟨hc, _⟩ := bcell hb
  obtain ⟨g0, g1, g2, g3, g4, g5, g6, g7, g8⟩ := h
  exact ⟨(hc _ _ hq).trans g0, (hc _ _ hq).trans g1, (hc _ _ hq).trans g2, (hc _ _ hq).trans g3, (hc _ _ hq).trans g4, (hc _ _ hq).trans g5, (hc _ _ hq).trans g6, (hc _ _ hq).trans g7, (hc _ _ hq).trans g8⟩

theorem Boxed.made (w : World) (k c n e s o v : Int) (l : Bool) (d : ByteArray) (t : TypeId) :
    Boxed (w.alloc (.cells #[.int .i64 k, .int .i64 c, .int .i64 n, .int .i64 e, .int .i64 s, .int .i64 o, .int .i64 v, .bool l, .string d] t)) w.heap.size ⟨k, c, n, e, s, o, v, l, d⟩ := by
  unfold Boxed
  simp

theorem Boxed.both {w w1 w2 : World} {k c n e s o v : Int} {l : Bool} {d : ByteArray} {t t2 : TypeId} (hb1 : Below w.heap.size w w1)
    (hb2 : Below (w1.alloc (.cells #[.int .i64 k, .int .i64 c, .int .i64 n, .int .i64 e, .int .i64 s, .int .i64 o, .int .i64 v, .bool l, .string d] t)).heap.size (w1.alloc (.cells #[.int .i64 k, .int .i64 c, .int .i64 n, .int .i64 e, .int .i64 s, .int .i64 o, .int .i64 v, .bool l, .string d] t)) w2) :
    Boxed (w2.alloc (.cells #[.int .i64 k, .int .i64 c, .int .i64 n, .int .i64 e, .int .i64 s, .int .i64 o, .int .i64 v, .bool l, .string d] t2)) w1.heap.size ⟨k, c, n, e, s, o, v, l, d⟩ ∧
      Boxed (w2.alloc (.cells #[.int .i64 k, .int .i64 c, .int .i64 n, .int .i64 e, .int .i64 s, .int .i64 o, .int .i64 v, .bool l, .string d] t2)) w2.heap.size ⟨k, c, n, e, s, o, v, l, d⟩ ∧
      Below w.heap.size w (w2.alloc (.cells #[.int .i64 k, .int .i64 c, .int .i64 n, .int .i64 e, .int .i64 s, .int .i64 o, .int .i64 v, .bool l, .string d] t2)) ∧
      w1.heap.size < (w2.alloc (.cells #[.int .i64 k, .int .i64 c, .int .i64 n, .int .i64 e, .int .i64 s, .int .i64 o, .int .i64 v, .bool l, .string d] t2)).heap.size ∧ w2.heap.size < (w2.alloc (.cells #[.int .i64 k, .int .i64 c, .int .i64 n, .int .i64 e, .int .i64 s, .int .i64 o, .int .i64 v, .bool l, .string d] t2)).heap.size := by
  have hz1 := hb1.size
  have hz2 := hb2.size
  simp at hz2
  have hb12 : Below w1.heap.size w1 w2 := ((Below.refl _ _).alloc (Nat.le_refl _) _).trans (hb2.mono (by simp))
  have h1 := (Boxed.made w1 k c n e s o v l d t).below hb2 (by simp)
  exact ⟨h1.below ((Below.refl _ _).alloc (Nat.le_refl _) _) (by omega), Boxed.made w2 k c n e s o v l d t2, (hb1.trans (hb12.mono hz1)).alloc (by omega) _, by simp; omega, by simp⟩

set_option maxHeartbeats 4000000 in
set_option maxRecDepth 100000 in
theorem decodes (v : Value) (l : List Int) (w : World) (hg : Bare.Laid w) (h : Sees w w.heap.size v l) (h200 : l.length ≤ 200) :
    Calls Tryd.prog 5 #[v] w fun e w' => e = .returned (.bool true) ∧ Below w.heap.size w w' := by
  have hpos := hg.size
  have hv : ∃ ao c, v = .slice ao l.length c := by obtain ⟨ao, c, h1, _⟩ := h; exact ⟨ao, c, h1⟩
  obtain ⟨ao, c, rfl⟩ := hv
  have tl := fun m w => told_any m w
  go_enter Tryd.func5, Tryd.ntmps5
  go_wp2_with fail
  refine (refd_any w.heap.size _ l _ h (by omega) (Nat.le_refl _)).mono ?_
  rintro e w1 ⟨⟨k0, k1, k2, k3, k4, k5, k6, lb, dt⟩, q, rfl, hb1, hq⟩
  dsimp only [M.agg]
  go_wp2_with fail
  refine (dec_any w.heap.size _ l _ (h.below (hb1.alloc hb1.size _) (Nat.le_refl _)) (by omega) (by have := hb1.size; simp; omega)).mono ?_
  rintro e w2 ⟨m2, er, rfl, hb2, hd⟩
  have hm : ((⟨k0, k1, k2, k3, k4, k5, k6, lb, dt⟩ : M) = m2) ∧ ((q = 0 ∧ er = .nilIface) ∨ (q = 3 ∧ er = .iface 22 (.int .i64 3))) := by
    rcases hq with ⟨e1, e2, e3⟩ | ⟨e1, e2, e3⟩
    · rcases hd with ⟨f1, f2, f3⟩ | ⟨f1, f2, f3⟩
      · exact ⟨Num.bytes_inj e2 f2 (e3.symm.trans f3), .inl ⟨e1, f1⟩⟩
      · exact absurd e3 (f3 _ e2)
    · rcases hd with ⟨f1, f2, f3⟩ | ⟨f1, f2, f3⟩
      · exact absurd f3 (e3 _ f2)
      · exact ⟨e2.trans f2.symm, .inr ⟨e1, f1⟩⟩
  obtain ⟨rfl, her⟩ := hm
  dsimp only [M.agg]
  clear hq hd
  obtain ⟨B1, B2, hbW, hq1, hq2⟩ := Boxed.both hb1 hb2
  go_wp2_with fail
  have hlW := hg.below hbW hpos
  generalize w2.alloc (.cells #[.int .i64 k0, .int .i64 k1, .int .i64 k2, .int .i64 k3, .int .i64 k4, .int .i64 k5, .int .i64 k6, .bool lb, .string dt] 32) = W at *
  generalize w1.heap.size = q1 at *
  generalize w2.heap.size = q2 at *
  have B1k := B1
  have B2k := B2
  obtain ⟨b0, b1, b2, b3, b4, b5, b6, b7, b8⟩ := B1
  obtain ⟨c0, c1, c2, c3, c4, c5, c6, c7, c8⟩ := B2
  have hsW := hbW.size
  clear hb1 hb2 h
  rcases her with ⟨rfl, rfl⟩ | ⟨rfl, rfl⟩
  · go_region_with (first | (go_at_call 14; refine (Bare.bare_nil _ _).mono ?_; rintro e w3 ⟨rfl, rfl⟩) | (go_at_call 18; refine (told_any ⟨k0, k1, k2, k3, k4, k5, k6, lb, dt⟩ _).mono ?_; rintro e w4 ⟨rfl, hb4⟩; dsimp only [M.agg]; obtain ⟨d0, d1, d2, d3, d4, d5, d6, d7, d8⟩ := B1k.below (below_undrew hb4) hq1))
    all_goals
      go_wp2
      go_ret
      refine ⟨rfl, hbW.trans ((below_undrew hb4).mono hsW)⟩
  · have hlWd : Bare.Laid W.drew := hlW
    go_region_with (first | (go_at_call 14; refine (Bare.bare_errno 3 3 _ hlWd).mono ?_; rintro e w3 ⟨rfl, hb3⟩; have hs3 := (below_undrew hb3).size; have B1m := B1k.below (below_undrew hb3) hq1; have B1c := B1m; obtain ⟨f0, f1, f2, f3, f4, f5, f6, f7, f8⟩ := B1c; obtain ⟨g0, g1, g2, g3, g4, g5, g6, g7, g8⟩ := B2k.below (below_undrew hb3) hq2) | (go_at_call 18; refine (told_any ⟨k0, k1, k2, k3, k4, k5, k6, lb, dt⟩ _).mono ?_; rintro e w4 ⟨rfl, hb4⟩; dsimp only [M.agg]; obtain ⟨d0, d1, d2, d3, d4, d5, d6, d7, d8⟩ := B1m.below hb4 (by omega)))
    all_goals
      go_wp2
      go_ret
      refine ⟨rfl, hbW.trans (((below_undrew hb3).trans (hb4.mono hs3)).mono hsW)⟩
end Go.Proofs.YtbebfliimjjohaaDoor.Wire
