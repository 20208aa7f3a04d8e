/-
  The document's own answer: what tenureref.Decode's two loops keep.
-/
import Derived.Test.YtbebfliimjjohaaDoorDec
import Derived.Test.YtbebfliimjjohaaDoorLaw
namespace Go.Proofs.YtbebfliimjjohaaDoor.Wire
open Go.RowKit
open Num (inB numB okB M NoMsg Reads Par CutNone strOf)

/-- Seven numbers in an array. -/
def Arr (w : World) (q : Nat) (zs : List Int) : Prop :=
  zs.length = 7 ∧ (∀ i, i < 7 → w.cell? ⟨q, i, none⟩ = some (.int .i64 (zs.getD i 0))) ∧ (∀ i, w.frozen? ⟨q, i, none⟩ = false) ∧ q < w.heap.size

/-- How far the reading has come: j numbers. -/
structure RAt (w wr : World) (B : Nat) (l : List Int) (v : Value) (j : Nat) (zs rest : List Int) : Prop where
  arr : Arr wr (w.heap.size + 1) zs
  zero : ∀ i, j ≤ i → i < 7 → zs.getD i 0 = 0
  sees : Sees wr B v rest
  len : rest.length ≤ l.length
  par : Par l j (zs.take j) rest
  bel : Below w.heap.size w wr
  box : IsZero wr w.heap.size

/-- Within the (j+1)-th number: k bytes of it. -/
structure RIn (w wr : World) (B : Nat) (l : List Int) (v : Value) (j k : Nat) (zs rest : List Int) (x t : Int) : Prop where
  arr : Arr wr (w.heap.size + 1) (zs.set j x)
  zero : ∀ i, j ≤ i → i < 7 → zs.getD i 0 = 0
  sees : Sees wr B v (rest.drop k)
  len : rest.length ≤ l.length
  par : Par l j (zs.take j) rest
  bel : Below w.heap.size w wr
  box : IsZero wr w.heap.size
  num : x = Num.val (rest.take k)
  pow : t = 128 ^ k
  big : ∀ i, i < k → 128 ≤ rest.getD i 0
  le : k ≤ rest.length
  zlen : zs.length = 7

theorem Sees.next {w : World} {B b off c n : Nat} {l : List Int} (hn : n = l.length) (h : Sees w B (.slice (some ⟨b, off, none⟩) n c) l) (hl : 0 < l.length) :
    (c = 1 → Sees w B (.slice (some ⟨b, off, none⟩) (n - 1) 0) (l.drop 1)) ∧ (c ≠ 1 → Sees w B (.slice (some ⟨b, off + 1, none⟩) (n - 1) (c - 1)) (l.drop 1)) := by
  subst hn
  obtain ⟨ao, c', he, h2, h3, h4, h5⟩ := h
  obtain ⟨b', off', h6, h7, h8⟩ := h5 hl
  subst h6
  injection he with e1 e2 e3
  injection e1 with e4
  injection e4 with e5 e6
  subst e3 e5 e6
  refine ⟨fun hc => ⟨_, 0, by rw [List.length_drop], by rw [List.length_drop]; omega, by omega, fun x hx => h4 x (List.mem_of_mem_drop hx), fun hp => ?_⟩, fun hc => ⟨_, c - 1, by rw [List.length_drop], by rw [List.length_drop]; omega, by omega, fun x hx => h4 x (List.mem_of_mem_drop hx), fun _ => ⟨b, off + 1, rfl, h7, fun j hj => ?_⟩⟩⟩
  · rw [List.length_drop] at hp
    omega
  · rw [List.length_drop] at hj
    have := h8 (1 + j) (by omega)
    rw [← Nat.add_assoc] at this
    rw [this]
    simp only [List.getD_eq_getElem?_getD, List.getElem?_drop]

/-- What the document's decoding leaves. -/
def FPost (l : List Int) (w : World) (e : Ending) (w' : World) : Prop :=
  ∃ m q, e = .returned (.tuple #[M.agg m, .int .i64 q]) ∧ Below w.heap.size w w' ∧ ((q = 0 ∧ okB m = true ∧ l = m.bytes) ∨ (q = 3 ∧ m = zeroM ∧ NoMsg l))

theorem FPost.no {l : List Int} {w W : World} (hB : Below w.heap.size w W) (h : NoMsg l) : FPost l w (.returned (.tuple #[M.agg zeroM, .int .i64 3])) W := ⟨zeroM, _, rfl, hB, .inr ⟨rfl, rfl, h⟩⟩
theorem FPost.yes {l : List Int} {m : M} {w W : World} (hB : Below w.heap.size w W) (h1 : okB m = true) (h2 : l = m.bytes) : FPost l w (.returned (.tuple #[M.agg m, .int .i64 0])) W := ⟨m, _, rfl, hB, .inl ⟨rfl, h1, h2⟩⟩

theorem prod_le2 (y t : Int) (hy : 0 ≤ y) (hy1 : y < 128) (ht : 0 < t) (ht1 : t ≤ 34359738368) : 0 ≤ y * t ∧ y * t ≤ 4363686772736 := by
  have h : y * t ≤ 127 * 34359738368 := Int.mul_le_mul (by omega) ht1 (by omega) (by omega)
  exact ⟨Int.mul_nonneg hy (by omega), by omega⟩

theorem RIn.facts {w wr : World} {B j k : Nat} {l zs rest : List Int} {v : Value} {x t : Int} (h : RIn w wr B l v j k zs rest x t) (hk : k ≤ 5) (hj : j < 7) :
    0 ≤ x ∧ x < t ∧ t ≤ 34359738368 ∧ 0 < t ∧ wr.cell? ⟨w.heap.size + 1, j, none⟩ = some (.int .i64 x) ∧ wr.frozen? ⟨w.heap.size + 1, j, none⟩ = false := by
  have hv := Num.val_bd (rest.take k)
  rw [List.length_take, show min k rest.length = k by have := h.le; omega, ← h.num, ← h.pow] at hv
  have hp := pow_le k hk
  rw [← h.pow] at hp
  refine ⟨hv.1, hv.2, hp.1, hp.2, ?_, h.arr.2.2.1 j⟩
  rw [h.arr.2.1 j hj]
  simp [List.getD_eq_getElem?_getD, h.zlen, hj]

theorem Arr.put {w : World} {q j : Nat} {zs : List Int} {x x' : Int} (h : Arr w q (zs.set j x)) (hj : j < 7) : Arr (w.setCell ⟨q, j, none⟩ (.int .i64 x')) q (zs.set j x') := by
  obtain ⟨hz, hcell, hfz, hsz⟩ := h
  have hz' : zs.length = 7 := by simpa using hz
  refine ⟨by simpa using hz', fun i hi => ?_, fun i => by simpa using hfz i, by simpa using hsz⟩
  by_cases e : i = j
  · subst e
    rw [World.cell?_setCell_same _ _ _ (hcell i hi)]
    simp [List.getD_eq_getElem?_getD, hz', hj]
  · rw [World.cell?_setCell_other _ _ _ _ (by intro h; injection h with _ h2; exact e h2.symm), hcell i hi]
    simp [List.getD_eq_getElem?_getD, show j ≠ i by omega]

theorem IsZero.other {w : World} {q q' j : Nat} {x : Value} (h : IsZero w q) (hne : q' ≠ q) : IsZero (w.setCell ⟨q', j, none⟩ x) q := by
  have hc : ∀ i, (w.setCell ⟨q', j, none⟩ x).cell? ⟨q, i, none⟩ = w.cell? ⟨q, i, none⟩ := fun i => World.cell?_setCell_other _ _ _ _ (by intro h; injection h with h2 _; exact hne h2)
  obtain ⟨g0, g1, g2, g3, g4, g5, g6, g7, g8, hfz⟩ := h
  exact ⟨(hc _).trans g0, (hc _).trans g1, (hc _).trans g2, (hc _).trans g3, (hc _).trans g4, (hc _).trans g5, (hc _).trans g6, (hc _).trans g7, (hc _).trans g8, fun i => by simpa using hfz i⟩

theorem RIn.step {w wr : World} {B j k : Nat} {l zs rest : List Int} {v v' : Value} {x y t : Int} (h : RIn w wr B l v j k zs rest x t) (hB : B ≤ w.heap.size) (hj : j < 7) (hk : k < rest.length) (hy : (rest.drop k).getD 0 0 = y)
    (hs : Sees wr B v' ((rest.drop k).drop 1)) :
    Arr (wr.setCell ⟨w.heap.size + 1, j, none⟩ (.int .i64 (x + y % 128 * t))) (w.heap.size + 1) (zs.set j (x + y % 128 * t)) ∧ Sees (wr.setCell ⟨w.heap.size + 1, j, none⟩ (.int .i64 (x + y % 128 * t))) B v' (rest.drop (k + 1)) ∧
      Below w.heap.size w (wr.setCell ⟨w.heap.size + 1, j, none⟩ (.int .i64 (x + y % 128 * t))) ∧ IsZero (wr.setCell ⟨w.heap.size + 1, j, none⟩ (.int .i64 (x + y % 128 * t))) w.heap.size ∧ x + y % 128 * t = Num.val (rest.take (k + 1)) ∧ rest.getD k 0 = y := by
  have hyk : rest.getD k 0 = y := by
    rw [← hy]
    simp only [List.getD_eq_getElem?_getD, List.getElem?_drop, Nat.add_zero]
  rw [List.drop_drop] at hs
  refine ⟨h.arr.put hj, ?_, h.bel.setCell (by show w.heap.size ≤ w.heap.size + 1; omega) _, h.box.other (by omega), ?_, hyk⟩
  · exact hs.below ((Below.refl B wr).setCell (p := ⟨w.heap.size + 1, j, none⟩) (by show B ≤ w.heap.size + 1; omega) _) (Nat.le_refl _)
  · rw [Num.val_take_succ rest k hk, hyk, ← h.num, ← h.pow]

theorem RIn.more {w wr : World} {B j k : Nat} {l zs rest : List Int} {v v' : Value} {x y t : Int} (h : RIn w wr B l v j k zs rest x t) (hB : B ≤ w.heap.size) (hj : j < 7) (hk : k < rest.length) (hy : (rest.drop k).getD 0 0 = y)
    (hs : Sees wr B v' ((rest.drop k).drop 1)) (h128 : ¬ y < 128) : RIn w (wr.setCell ⟨w.heap.size + 1, j, none⟩ (.int .i64 (x + y % 128 * t))) B l v' j (k + 1) zs rest (x + y % 128 * t) (t * 128) := by
  obtain ⟨r1, r2, r3, r4, r5, r6⟩ := h.step hB hj hk hy hs
  refine ⟨r1, h.zero, r2, h.len, h.par, r3, r4, r5, by rw [h.pow, Int.pow_succ], fun i hi => ?_, hk, h.zlen⟩
  rcases Nat.lt_or_ge i k with h' | h'
  · exact h.big i h'
  · obtain rfl : i = k := by omega
    rw [r6]
    omega

theorem RIn.last {w wr : World} {B j k : Nat} {l zs rest : List Int} {v v' : Value} {x y t : Int} (h : RIn w wr B l v j k zs rest x t) (hB : B ≤ w.heap.size) (hj : j < 7) (hk : k < rest.length) (hy : (rest.drop k).getD 0 0 = y)
    (hs : Sees wr B v' ((rest.drop k).drop 1)) (h128 : y < 128) : RAt w (wr.setCell ⟨w.heap.size + 1, j, none⟩ (.int .i64 (x + y % 128 * t))) B l v' (j + 1) (zs.set j (x + y % 128 * t)) (rest.drop (k + 1)) := by
  obtain ⟨r1, r2, r3, r4, r5, r6⟩ := h.step hB hj hk hy hs
  refine ⟨r1, fun i hi hi7 => ?_, r2, ?_, ?_, r3, r4⟩
  · have e0 := h.zero i (by omega) hi7
    simp only [List.getD_eq_getElem?_getD] at e0 ⊢
    rw [List.getElem?_set_ne (by omega)]
    exact e0
  · rw [List.length_drop]
    have := h.len
    omega
  · have e : (zs.set j (x + y % 128 * t)).take (j + 1) = zs.take j ++ [x + y % 128 * t] := by
      have := h.zlen
      rw [List.take_succ_eq_append_getElem (by simp; omega), List.getElem_set_self, List.take_set_of_le (Nat.le_refl _)]
    rw [e]
    exact h.par.next hj (Num.cutOk_mk hk (by rw [r6]; exact h128) h.big (fun _ => r5))

theorem RAt.begin {w wr : World} {B j : Nat} {l zs rest : List Int} {v : Value} (h : RAt w wr B l v j zs rest) (hj : j < 7) : RIn w wr B l v j 0 zs rest 0 1 := by
  have hz := h.arr.1
  have e0 := h.zero j (Nat.le_refl _) hj
  have e : zs.set j 0 = zs := by
    rw [List.getD_eq_getElem?_getD, List.getElem?_eq_getElem (by omega)] at e0
    simp only [Option.getD_some] at e0
    apply List.ext_getElem?
    intro i
    by_cases hi : j = i
    · subst hi
      rw [List.getElem?_set_self (by omega), List.getElem?_eq_getElem (by omega), e0]
    · rw [List.getElem?_set_ne hi]
  exact ⟨by rw [e]; exact h.arr, h.zero, h.sees, h.len, h.par, h.bel, h.box, rfl, rfl, fun i hi => by omega, by omega, hz⟩

theorem RAt.start {w : World} {B : Nat} {l : List Int} {v : Value} {t t2 : TypeId} (hB : B ≤ w.heap.size) (h : Sees w B v l) :
    RAt w ((w.alloc (.cells #[.int .i64 0, .int .i64 0, .int .i64 0, .int .i64 0, .int .i64 0, .int .i64 0, .int .i64 0, .bool false, .string ⟨#[]⟩] t)).alloc (.cells #[.int .i64 0, .int .i64 0, .int .i64 0, .int .i64 0, .int .i64 0, .int .i64 0, .int .i64 0] t2)) B l v 0 (List.replicate 7 0) l := by
  have hbw : Below w.heap.size w ((w.alloc (.cells #[.int .i64 0, .int .i64 0, .int .i64 0, .int .i64 0, .int .i64 0, .int .i64 0, .int .i64 0, .bool false, .string ⟨#[]⟩] t)).alloc (.cells #[.int .i64 0, .int .i64 0, .int .i64 0, .int .i64 0, .int .i64 0, .int .i64 0, .int .i64 0] t2)) := ((Below.refl _ _).alloc (Nat.le_refl _) _).alloc (by simp) _
  refine ⟨⟨rfl, ?_, fun i => by simp, by simp⟩, fun i _ hi => ?_, h.below hbw hB, Nat.le_refl _, Num.Par.start l, hbw, ?_⟩
  · apply seven <;> simp
  · exact seven (Q := fun i => (List.replicate 7 (0 : Int)).getD i 0 = 0) rfl rfl rfl rfl rfl rfl rfl i hi
  · unfold IsZero
    simp

end Go.Proofs.YtbebfliimjjohaaDoor.Wire
