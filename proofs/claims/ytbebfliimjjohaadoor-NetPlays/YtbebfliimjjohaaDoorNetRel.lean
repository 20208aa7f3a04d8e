/-
  The play's argument, its relation, and the two counts that are asked behind each step.
-/
import Derived.Test.YtbebfliimjjohaaDoorNetSt
import Derived.Test.YtbebfliimjjohaaDoorGenHeld
import Derived.Test.YtbebfliimjjohaaDoorBare
import Derived.BigQuiet
import Derived.Deep.QuietTactic
namespace Go.Proofs.YtbebfliimjjohaaDoor.Net
open Go.RowKit
open Wire (Has bcell Sees conv_sees)
open Num (strOf ints)

/-- One step of the play, as it was handed in. -/
structure Stp where
  wh : Int
  k : Int
  at_ : Int
  to : Int
  sa : Option Addr
  sc : Nat
  bs : List Int

/-- The steps lie behind this address. -/
def Goes (w : World) (ao : Option Addr) (xs : List Stp) : Prop :=
  0 < xs.length → ∃ b off, ao = some ⟨b, off, none⟩ ∧ b < w.heap.size ∧ ∀ j (h : j < xs.length),
    w.cell? ⟨b, off + j * 5, none⟩ = some (.int .i64 xs[j].wh) ∧ w.cell? ⟨b, off + j * 5 + 1, none⟩ = some (.int .i64 xs[j].k) ∧ w.cell? ⟨b, off + j * 5 + 2, none⟩ = some (.int .i64 xs[j].at_) ∧
    w.cell? ⟨b, off + j * 5 + 3, none⟩ = some (.int .i64 xs[j].to) ∧ w.cell? ⟨b, off + j * 5 + 4, none⟩ = some (.slice xs[j].sa xs[j].bs.length xs[j].sc) ∧ Src w (.slice xs[j].sa xs[j].bs.length xs[j].sc) xs[j].bs

/-- What holds behind j steps. -/
def Rel (w : World) (j : Nat) (wr : World) : Prop := ∃ gs l, St w.heap.size (gs.map pk) l gs l wr ∧ Below w.heap.size w wr ∧ 0 ≤ l ∧ l ≤ (j : Int)

theorem below_drewN {B : Nat} {a w : World} (h : Below B a w) (n : Nat) : Below B a (w.drewN n) := ⟨h.os, h.tape, h.output, h.size, h.block⟩
theorem St.drewN {N : Nat} {ps : List (Int × ByteArray)} {ln l : Int} {gs : List G} {w : World} (h : St N ps ln gs l w) (n : Nat) : St N ps ln gs l (w.drewN n) := h.other (below_drewN (Below.refl _ _) n)

theorem c_many (N : Nat) (ln l : Int) (gs : List G) (w : World) (h : St N (gs.map pk) ln gs l w) :
    Calls Tryd.prog 27 #[.pointer (some ⟨N, 0, none⟩)] w fun e w' => e = .returned (.int .i64 gs.length) ∧ w' = w := by
  have := many_any (N + 1 + 1 + 1) N (gs.map pk) ln w h.net
  rw [List.length_map] at this
  exact this
theorem c_lost (N : Nat) (ps : List (Int × ByteArray)) (ln l : Int) (gs : List G) (w : World) (h : St N ps ln gs l w) :
    Calls Tryd.prog 28 #[.pointer (some ⟨N, 0, none⟩)] w fun e w' => e = .returned (.int .i64 ln) ∧ w' = w := lost_any (N + 1 + 1 + 1) N ps ln w h.net

theorem put_le {ps : List (Int × ByteArray)} {l : Int} {p : Int × ByteArray} : l ≤ (put ps l p).2 ∧ (put ps l p).2 ≤ l + 1 := by
  unfold put
  split <;> simp <;> omega

theorem Rel.next {w wr : World} {j : Nat} {gs : List G} {l : Int} (n : Nat) (h : St w.heap.size (gs.map pk) l gs l wr) (hb : Below w.heap.size w wr) (h0 : 0 ≤ l) (h1 : l ≤ (j : Int) + 1) : Rel w (j + 1) (wr.drewN n) :=
  ⟨gs, l, h.drewN n, below_drewN hb n, h0, by omega⟩

/-- The cells of a step's box. -/
def Box (w : World) (q : Nat) (wh k at_ to : Int) (sv : Value) : Prop := ∃ f, w.heap[q]? = some (.cells #[.int .i64 wh, .int .i64 k, .int .i64 at_, .int .i64 to, sv] 55 f)
theorem Box.cells {w : World} {q : Nat} {wh k at_ to : Int} {sv : Value} (h : Box w q wh k at_ to sv) :
    w.cell? ⟨q, 0, none⟩ = some (.int .i64 wh) ∧ w.cell? ⟨q, 1, none⟩ = some (.int .i64 k) ∧ w.cell? ⟨q, 2, none⟩ = some (.int .i64 at_) ∧ w.cell? ⟨q, 3, none⟩ = some (.int .i64 to) ∧ w.cell? ⟨q, 4, none⟩ = some sv := by
  obtain ⟨f, h⟩ := h
  refine ⟨?_, ?_, ?_, ?_, ?_⟩ <;> (rw [cell_of_row w q _ _ _ _ h]; rfl)
theorem Box.fr {N : Nat} {w w' : World} {q : Nat} {wh k at_ to : Int} {sv : Value} (h : Box w q wh k at_ to sv) (hq : N + 1 + 1 + 1 ≤ q) (hf : Fr N w w') : Box w' q wh k at_ to sv := by
  obtain ⟨f, h⟩ := h
  exact ⟨f, (hf.go q _ f hq h).trans h⟩
theorem Box.made (w : World) (wh k at_ to : Int) (sv : Value) : Box (w.alloc (.cells #[.int .i64 wh, .int .i64 k, .int .i64 at_, .int .i64 to, sv] 55)) w.heap.size wh k at_ to sv := ⟨_, heap_alloc_new w _⟩
/-- What was handed in is read in a later world. -/
theorem src_wr {w wr : World} {sv : Value} {bs : List Int} (h : Src w sv bs) (hb : Below w.heap.size w wr) : Src wr sv bs := h.below hb

theorem cells_nil_row (w : World) (B : Nat) (e : TypeId) (s : Nat) : w.ownsRow B e s (.slice none 0 0) 0 [] := World.ownsRow_nil _ _ _ _

/-- The beginning. -/
def begun (w : World) : World := ((w.alloc (.cells #[.slice none 0 0, .int .i64 0] 49)).alloc (.cells #[.slice none 0 0] 50)).alloc (.cells #[.int .i64 0] 3)
theorem begun_size (w : World) : (begun w).heap.size = w.heap.size + 1 + 1 + 1 := by simp [begun]
theorem start_rel (w : World) : Rel w 0 (begun w) := by
  refine ⟨[], 0, ⟨⟨⟨_, ?_, World.ownsRow_nil _ _ _ _⟩, ?_, ?_, by omega, by rw [begun_size]; omega, by simp⟩, ⟨⟨_, ?_, World.ownsRow_nil _ _ _ _⟩, ?_, by omega, by rw [begun_size]; omega, by simp, by simp⟩, ?_, ?_⟩, ?_, by omega, by omega⟩
  · simp [begun, go_sem]
  · simp [begun, go_sem]
  · intro i; simp [begun, go_sem]
  · simp [begun, go_sem]
  · intro i; simp [begun, go_sem]
  · simp [begun, go_sem]
  · simp [begun, go_sem]
  · unfold begun
    exact (((Below.refl _ _).alloc (Nat.le_refl _) _).alloc (by simp) _).alloc (by simp; omega) _
/-- A cell of the block that was made last. -/
theorem cell_made {w : World} {cs : Array Value} {t : TypeId} {q i : Nat} (h : w.heap.size = q) : (w.alloc (.cells cs t)).cell? ⟨q, i, none⟩ = cs[i]? := by
  subst h
  rw [cell_of_row _ _ _ _ _ _ (heap_alloc_new w _)]
end Go.Proofs.YtbebfliimjjohaaDoor.Net
