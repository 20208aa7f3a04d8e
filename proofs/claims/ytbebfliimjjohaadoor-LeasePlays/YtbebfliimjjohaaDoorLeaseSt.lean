/-
  The state of the law's play on a table of leases.
-/
import Derived.Test.YtbebfliimjjohaaDoorLeaseNew
import Derived.Test.YtbebfliimjjohaaDoorBare
import Derived.Deep.Cut
import Derived.Deep.CutRange
import Derived.Deep.CutBlock
namespace Go.Proofs.YtbebfliimjjohaaDoor.Lease
open Go.RowKit Go.Maps
open Num (inB)

/-- The state: both tables, by the world's blocks. -/
structure St (W : World) (t m r a b d : Nat) (D E Dv Ds : Dat) (v s : Int → Int) (n : Nat) (w : World) : Prop where
  tab : TabIs w t m D v s n
  ref : RefIs w r a b d E Dv Ds n
  same : Same D E
  vol : VolIs Dv v
  ses : VolIs Ds s
  le : ∀ c : Int, s c ≤ n
  below : Below W.heap.size W w
  ge : W.heap.size ≤ t ∧ W.heap.size ≤ m ∧ W.heap.size ≤ r ∧ W.heap.size ≤ a ∧ W.heap.size ≤ b ∧ W.heap.size ≤ d
  ne : t ≠ r ∧ t ≠ a ∧ t ≠ b ∧ t ≠ d ∧ m ≠ r ∧ m ≠ a ∧ m ≠ b ∧ m ≠ d

theorem St.other {W w w' : World} {t m r a b d n : Nat} {D E Dv Ds : Dat} {v s : Int → Int} (h : St W t m r a b d D E Dv Ds v s n w) (hb : Below w.heap.size w w') : St W t m r a b d D E Dv Ds v s n w' :=
  ⟨h.tab.below hb, h.ref.below hb, h.same, h.vol, h.ses, h.le, h.below.trans (hb.mono h.below.size), h.ge, h.ne⟩
theorem St.drewN {W w : World} {t m r a b d n : Nat} {D E Dv Ds : Dat} {v s : Int → Int} (h : St W t m r a b d D E Dv Ds v s n w) (k : Nat) : St W t m r a b d D E Dv Ds v s n (w.drewN k) :=
  ⟨h.tab.drewN k, h.ref.drewN k, h.same, h.vol, h.ses, h.le, below_drewN h.below k, h.ge, h.ne⟩
theorem St.drew {W w : World} {t m r a b d n : Nat} {D E Dv Ds : Dat} {v s : Int → Int} (h : St W t m r a b d D E Dv Ds v s n w) : St W t m r a b d D E Dv Ds v s n w.drew :=
  ⟨h.tab.drew, h.ref.drew, h.same, h.vol, h.ses, h.le, h.below.drew, h.ge, h.ne⟩
theorem St.mono {W w : World} {t m r a b d n n' : Nat} {D E Dv Ds : Dat} {v s : Int → Int} (h : St W t m r a b d D E Dv Ds v s n w) (hn : n ≤ n') : St W t m r a b d D E Dv Ds v s n' w :=
  ⟨h.tab.mono hn, h.ref.mono hn, h.same, h.vol, h.ses, fun c => by have := h.le c; omega, h.below, h.ge, h.ne⟩
theorem St.lt {W w : World} {t m r a b d n : Nat} {D E Dv Ds : Dat} {v s : Int → Int} (h : St W t m r a b d D E Dv Ds v s n w) : W.heap.size < w.heap.size := by have := h.tab.lt.1; have := h.ge.1; omega

/-- What holds behind some steps. -/
def Rel (W : World) (t m r a b d n : Nat) (w : World) : Prop := ∃ (D E Dv Ds : Dat) (v s : Int → Int), St W t m r a b d D E Dv Ds v s n w
theorem St.rel {W w : World} {t m r a b d n : Nat} {D E Dv Ds : Dat} {v s : Int → Int} (h : St W t m r a b d D E Dv Ds v s n w) : Rel W t m r a b d n w := ⟨D, E, Dv, Ds, v, s, h⟩

/-- One step, as it was handed in. -/
structure Stp where
  wh : Int
  c : Int
  o : Int
  u : Int
  now : Int
def Stp.ok (x : Stp) : Prop := I64 x.c ∧ I64 x.o
/-- The steps lie behind this address. -/
def Steps (w : World) (ao : Option Addr) (xs : List Stp) : Prop :=
  0 < xs.length → ∃ b off, ao = some ⟨b, off, none⟩ ∧ b < w.heap.size ∧ ∀ j (h : j < xs.length),
    (∀ i, i < 5 → w.cell? ⟨b, off + j * 5 + i, none⟩ = [Value.int .i64 xs[j].wh, .int .i64 xs[j].c, .int .i64 xs[j].o, .int .i64 xs[j].u, .int .i64 xs[j].now][i]?) ∧ xs[j].ok

/-- A step's box. -/
def PB (w : World) (b : Nat) (wh c o u now : Int) : Prop := w.heap[b]? = some (.cells #[.int .i64 wh, .int .i64 c, .int .i64 o, .int .i64 u, .int .i64 now] 93)
theorem PB.cells {w : World} {b : Nat} {wh c o u now : Int} (h : PB w b wh c o u now) : w.cell? ⟨b, 0, none⟩ = some (.int .i64 wh) ∧ w.cell? ⟨b, 1, none⟩ = some (.int .i64 c) ∧ w.cell? ⟨b, 2, none⟩ = some (.int .i64 o) ∧ w.cell? ⟨b, 3, none⟩ = some (.int .i64 u) ∧ w.cell? ⟨b, 4, none⟩ = some (.int .i64 now) := by
  refine ⟨?_, ?_, ?_, ?_, ?_⟩ <;> (rw [cell_of_row _ _ _ _ _ _ h]; rfl)
theorem PB.lt {w : World} {b : Nat} {wh c o u now : Int} (h : PB w b wh c o u now) : b < w.heap.size := (Array.getElem?_eq_some_iff.1 h).1
theorem PB.below {w w' : World} {b : Nat} {wh c o u now : Int} (h : PB w b wh c o u now) (hb : Below w.heap.size w w') : PB w' b wh c o u now := (hb.block b h.lt).trans h
theorem PB.ob {w w' : World} {b : Nat} {wh c o u now : Int} {bs : List Nat} (h : PB w b wh c o u now) (hb : Ob bs w w') (hn : b ∉ bs) : PB w' b wh c o u now := (hb.block b h.lt hn).trans h
theorem PB.drewN {w : World} {b : Nat} {wh c o u now : Int} (h : PB w b wh c o u now) (k : Nat) : PB (w.drewN k) b wh c o u now := h
theorem PB.drew {w : World} {b : Nat} {wh c o u now : Int} (h : PB w b wh c o u now) : PB w.drew b wh c o u now := h
theorem PB.made (w : World) (wh c o u now : Int) : PB (w.alloc (.cells #[.int .i64 wh, .int .i64 c, .int .i64 o, .int .i64 u, .int .i64 now] 93)) w.heap.size wh c o u now := heap_alloc_new w _

/-- The box is none of the tables' blocks. -/
theorem box_ne {W w : World} {t m r a b d n B : Nat} {D E Dv Ds : Dat} {v s : Int → Int} (h : St W t m r a b d D E Dv Ds v s n w) (hB : B = w.heap.size) : B ≠ t ∧ B ≠ m ∧ B ≠ r ∧ B ≠ a ∧ B ≠ b ∧ B ≠ d := by
  have := h.tab.lt
  have := h.ref.lt
  omega

/-- A lease of an object is given. -/
theorem St.object {W w w1 w2 : World} {t m r a b d n : Nat} {D E Dv Ds : Dat} {v s : Int → Int} (h : St W t m r a b d D E Dv Ds v s n w) {c o u x : Int} (hu : 0 ≤ u) (hx : D.atKey (kk c o) (num 0) = num x)
    (hT : TabIs w1 t m (D.put (kk c o) (num (mx x u))) v s (n + 1)) (hO : Ob [m] w w1) (hR : RefIs w2 r a b d (if (!Maps.has E (kk c o) || decide (x < u)) then E.put (kk c o) (num u) else E) Dv Ds (n + 1)) (hP : Ob [a] w1 w2) :
    Rel W t m r a b d (n + 1) w2 := by
  obtain ⟨g1, g2, g3, g4, g5, g6⟩ := h.ge
  obtain ⟨n1, n2, n3, n4, n5, n6, n7, n8⟩ := h.ne
  have hsz := h.below.size
  refine ⟨_, _, _, _, _, _, hT.ob hP (by simpa using n2) (by simpa using n6), hR, ?_, h.vol, h.ses, fun c => by have := h.le c; omega, (h.below.trans (hO.below (by simpa using g2) hsz)).trans (hP.below (by simpa using g4) (by have := hO.size; omega)), h.ge, h.ne⟩
  rw [← h.same.has]
  cases hb : Maps.has D (kk c o) with
  | false =>
    have hz := atKey_of_not_has hb (num 0)
    rw [hx] at hz
    obtain rfl : x = 0 := by simpa [num] using hz
    have e : mx 0 u = u := by unfold mx; split <;> omega
    rw [e]
    exact h.same.put (kk_key _ _) _
  | true =>
    by_cases hlt : x < u
    · have e : mx x u = u := by unfold mx; rw [if_pos hlt]
      rw [e]
      simp only [hlt, decide_true, Bool.or_true, if_true]
      exact h.same.put (kk_key _ _) _
    · have e : mx x u = x := by unfold mx; rw [if_neg hlt]
      rw [e]
      simp only [hlt, decide_false, Bool.not_true, Bool.or_false, Bool.false_eq_true, if_false]
      exact h.same.again (kk_key _ _) hb hx
/-- A lease of the volume is given. -/
theorem St.volume {W w w1 w2 : World} {t m r a b d n : Nat} {D E Dv Ds : Dat} {v s : Int → Int} (h : St W t m r a b d D E Dv Ds v s n w) {c u : Int} (hc : cliB c = true)
    (hT : TabIs w1 t m D (upd v c (mx (v c) u)) s n) (hO : Ob [t] w w1) (hR : RefIs w2 r a b d E (Dv.put (.int .i64 c) (num (mx (v c) u))) Ds (n + 1)) (hP : Ob [b] w1 w2) :
    Rel W t m r a b d (n + 1) w2 := by
  obtain ⟨g1, g2, g3, g4, g5, g6⟩ := h.ge
  obtain ⟨n1, n2, n3, n4, n5, n6, n7, n8⟩ := h.ne
  have hsz := h.below.size
  exact ⟨_, _, _, _, _, _, (hT.ob hP (by simpa using n3) (by simpa using n7)).mono (Nat.le_succ n), hR, h.same, h.vol.put (cliB_true hc) _, h.ses, fun c => by have := h.le c; omega, (h.below.trans (hO.below (by simpa using g1) hsz)).trans (hP.below (by simpa using g5) (by have := hO.size; omega)), h.ge, h.ne⟩
/-- A lease of an object is taken back. -/
theorem St.drop {W w w1 w2 : World} {t m r a b d n : Nat} {D E Dv Ds : Dat} {v s : Int → Int} (h : St W t m r a b d D E Dv Ds v s n w) {c o : Int}
    (hT : TabIs w1 t m (D.del (kk c o)) v s n) (hO : Ob [m] w w1) (hR : RefIs w2 r a b d (E.del (kk c o)) Dv Ds n) (hP : Ob [a] w1 w2) :
    Rel W t m r a b d (n + 1) w2 := by
  obtain ⟨g1, g2, g3, g4, g5, g6⟩ := h.ge
  obtain ⟨n1, n2, n3, n4, n5, n6, n7, n8⟩ := h.ne
  have hsz := h.below.size
  exact ⟨_, _, _, _, _, _, (hT.ob hP (by simpa using n2) (by simpa using n6)).mono (Nat.le_succ n), hR.mono (Nat.le_succ n), h.same.del _, h.vol, h.ses, fun c => by have := h.le c; omega, (h.below.trans (hO.below (by simpa using g2) hsz)).trans (hP.below (by simpa using g4) (by have := hO.size; omega)), h.ge, h.ne⟩
/-- A client is flushed. -/
theorem St.flush {W w w1 w2 : World} {t m r a b d n : Nat} {D E Dv Ds : Dat} {v s : Int → Int} (h : St W t m r a b d D E Dv Ds v s n w) {c : Int} (hc : cliB c = true)
    (hT : TabIs w1 t m (dels D c 8) (upd v c 0) (upd s c (s c + 1)) n) (hO : Ob [t, m] w w1) (hR : RefIs w2 r a b d (dels E c 8) (Dv.del (.int .i64 c)) (Ds.put (.int .i64 c) (num (s c + 1))) (n + 1)) (hP : Ob [a, b, d] w1 w2) :
    Rel W t m r a b d (n + 1) w2 := by
  obtain ⟨g1, g2, g3, g4, g5, g6⟩ := h.ge
  obtain ⟨n1, n2, n3, n4, n5, n6, n7, n8⟩ := h.ne
  have hsz := h.below.size
  refine ⟨_, _, _, _, _, _, (hT.ob hP (by simp; omega) (by simp; omega)).mono (Nat.le_succ n), hR, h.same.dels c 8, h.vol.del c, h.ses.put (cliB_true hc) _, fun y => ?_, (h.below.trans (hO.below (by simp; omega) hsz)).trans (hP.below (by simp; omega) (by have := hO.size; omega)), h.ge, h.ne⟩
  have h1 := h.le c
  have h2 := h.le y
  unfold upd
  split <;> omega
end Go.Proofs.YtbebfliimjjohaaDoor.Lease
