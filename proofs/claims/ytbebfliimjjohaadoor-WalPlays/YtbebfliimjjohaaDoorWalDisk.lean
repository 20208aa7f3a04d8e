/-
  What a disk holds; contracts of wal.Disk's many, write and Cut over the turned program.
-/
import Derived.Test.YtbebfliimjjohaaDoorWalGet
import Derived.Test.YtbebfliimjjohaaDoorGenHeld
import Derived.BigQuiet
import Derived.Deep.QuietTactic
namespace Go.Proofs.YtbebfliimjjohaaDoor.Wal
open Go.RowKit
open Num (inB ints strOf)
open Wire (bcell)

/-- A record that may be. -/
def Ok (r : R) : Prop := r.d.size ≤ 20 ∧ ∀ i, i < 5 → okN ((nums r).getD i 0)

/-- The disk at block q has these records. -/
structure DiskIs (w : World) (q : Nat) (rs : List R) (fails : Bool) (left : Int) : Prop where
  recs : ∀ k (h : k < rs.length), Pl w q (k * 62) (full rs[k])
  all : ∀ k, k < 200 → w.there q (k * 62) 62
  mark : ∀ k, rs.length ≤ k → k < 200 → w.cell? ⟨q, k * 62 + 61, none⟩ = some (.int .u8 0)
  fails : w.cell? ⟨q, 12400, none⟩ = some (.bool fails)
  left : w.cell? ⟨q, 12401, none⟩ = some (.int .i64 left)
  free : ∀ i, w.frozen? ⟨q, i, none⟩ = false
  len : rs.length ≤ 200
  ok : ∀ r ∈ rs, Ok r

theorem DiskIs.below {w w' : World} {q C : Nat} {rs : List R} {fails : Bool} {left : Int} (h : DiskIs w q rs fails left) (hb : Below C w w') (hC : q < C) : DiskIs w' q rs fails left :=
  ⟨fun k hk => (h.recs k hk).below hb hC, fun k hk j hj => ⟨by rw [hb.cell (p := ⟨q, k * 62 + j, none⟩) hC]; exact (h.all k hk j hj).1, (hb.frozen (p := ⟨q, k * 62 + j, none⟩) hC).trans (h.all k hk j hj).2⟩,
   fun k h1 h2 => (hb.cell (p := ⟨q, k * 62 + 61, none⟩) hC).trans (h.mark k h1 h2), (hb.cell (p := ⟨q, 12400, none⟩) hC).trans h.fails, (hb.cell (p := ⟨q, 12401, none⟩) hC).trans h.left,
   fun i => (hb.frozen (p := ⟨q, i, none⟩) hC).trans (h.free i), h.len, h.ok⟩

/-- A disk's block alone turns, and new blocks come. -/
structure Oq (q : Nat) (w w' : World) : Prop where
  os : w'.os = w.os
  tape : w'.tape = w.tape
  output : w'.output = w.output
  size : w.heap.size ≤ w'.heap.size
  block : ∀ k, k < w.heap.size → k ≠ q → w'.heap[k]? = w.heap[k]?
theorem Oq.refl (q : Nat) (w : World) : Oq q w w := ⟨rfl, rfl, rfl, Nat.le_refl _, fun _ _ _ => rfl⟩
theorem Oq.trans {q : Nat} {a b c : World} (h : Oq q a b) (k : Oq q b c) : Oq q a c :=
  ⟨k.os.trans h.os, k.tape.trans h.tape, k.output.trans h.output, Nat.le_trans h.size k.size, fun i hi hq => by rw [k.block i (Nat.lt_of_lt_of_le hi h.size) hq, h.block i hi hq]⟩
theorem Oq.of_below {q : Nat} {a b : World} (h : Below a.heap.size a b) : Oq q a b := ⟨h.os, h.tape, h.output, h.size, fun k hk _ => h.block k hk⟩
theorem Oq.setCell {q i : Nat} {a b : World} (h : Oq q a b) (u : Value) : Oq q a (b.setCell ⟨q, i, none⟩ u) :=
  h.trans ⟨rfl, rfl, rfl, by simp, fun k _ hq => Below.heap_setCell b ⟨q, i, none⟩ u k hq⟩
theorem Oq.drew {q : Nat} {a b : World} (h : Oq q a b) : Oq q a b.drew := ⟨h.os, h.tape, h.output, h.size, h.block⟩
theorem setCells_block {q : Nat} : ∀ (vs : List Value) (o : Nat) (w : World) (k : Nat), k ≠ q → (w.setCells q o vs).heap[k]? = w.heap[k]?
  | [], _, _, _, _ => rfl
  | v :: r, o, w, k, h => by rw [World.setCells, setCells_block r (o + 1) _ k h, Below.heap_setCell _ _ _ _ h]
theorem setCells_size {q : Nat} : ∀ (vs : List Value) (o : Nat) (w : World), (w.setCells q o vs).heap.size = w.heap.size ∧ (w.setCells q o vs).os = w.os ∧ (w.setCells q o vs).tape = w.tape ∧ (w.setCells q o vs).output = w.output
  | [], _, _ => ⟨rfl, rfl, rfl, rfl⟩
  | v :: r, o, w => by
    obtain ⟨h1, h2, h3, h4⟩ := setCells_size r (o + 1) (w.setCell ⟨q, o, none⟩ v)
    rw [World.setCells]
    exact ⟨by rw [h1]; simp, h2, h3, h4⟩
theorem Oq.setCells {q : Nat} {a b : World} (h : Oq q a b) (o : Nat) (vs : List Value) : Oq q a (b.setCells q o vs) := by
  obtain ⟨h1, h2, h3, h4⟩ := setCells_size (q := q) vs o b
  exact h.trans ⟨h2, h3, h4, by omega, fun k _ hq => setCells_block vs o b k hq⟩

set_option maxHeartbeats 1000000 in
set_option maxRecDepth 100000 in
theorem many_any (q : Nat) (rs : List R) (fails : Bool) (left : Int) (w : World) (h : DiskIs w q rs fails left) :
    Calls Tryd.prog 73 #[.pointer (some ⟨q, 0, none⟩)] w fun e w' => e = .returned (.int .i64 rs.length) ∧ w' = w := by
  have hlen := h.len
  go_enter Tryd.func73, Tryd.ntmps73
  go_wp2_with fail
  go_loop [4] (fun s => ∃ k : Nat, k ≤ rs.length ∧ s = .int .i64 k) (fun s => 200 - (intOf s).toNat)
  case atStart => exact ⟨0, by omega, rfl⟩
  case round =>
    obtain ⟨k, hk, rfl⟩ := hrel
    by_cases hlt : k < rs.length
    · have hc := ((h.recs k hlt).cell (i := 61) (by omega)).1
      rw [full_mark (h.ok _ (List.getElem_mem hlt)).1] at hc
      have hk200 : (k : Int) < 200 := by omega
      clear h
      go_wp2_with fail
      go_round
      case rel => exact ⟨k + 1, by omega, by go_num⟩
      case measure => simp [intOf]; omega
    · obtain rfl : k = rs.length := by omega
      by_cases h200 : rs.length < 200
      · have hc := h.mark rs.length (Nat.le_refl _) h200
        have hk200 : (rs.length : Int) < 200 := by omega
        clear h
        go_wp2_with fail
        go_ret
        exact ⟨rfl, rfl⟩
      · have hk200 : ¬ (rs.length : Int) < 200 := by omega
        clear h
        go_wp2_with fail
        go_ret
        exact ⟨by rw [show (rs.length : Int) = 200 by omega]; rfl, rfl⟩

theorem there_setCell {w : World} {q o n b i : Nat} {u : Value} (h : w.there q o n) : (w.setCell ⟨b, i, none⟩ u).there q o n := fun j hj => by
  obtain ⟨v, hv⟩ := Option.isSome_iff_exists.1 (h j hj).1
  refine ⟨?_, by rw [World.frozen?_setCell]; exact (h j hj).2⟩
  by_cases e : (⟨b, i, none⟩ : Addr) = ⟨q, o + j, none⟩
  · rw [e, World.cell?_setCell_same _ _ _ hv]; rfl
  · rw [World.cell?_setCell_other _ _ _ _ e, hv]; rfl
theorem Pl.off {w : World} {q o i : Nat} {l : List Int} {u : Value} (h : Pl w q o l) (hi : i < o ∨ o + 62 ≤ i) : Pl (w.setCell ⟨q, i, none⟩ u) q o l := by
  obtain ⟨hl, hr, ht⟩ := h
  refine ⟨hl, fun j v hv => ?_, there_setCell ht⟩
  have hj : j < 62 := by have := (List.getElem?_eq_some_iff.1 hv).1; rw [List.length_map] at this; omega
  rw [World.cell?_setCell_other _ _ _ _ (by intro e; injection e with _ e; omega)]
  exact hr j v hv

/-- One cell beside the marks and the records is turned. -/
theorem DiskIs.beside {w : World} {q i : Nat} {rs : List R} {f : Bool} {l : Int} {u : Value} (h : DiskIs w q rs f l) (hi : rs.length * 62 ≤ i) (hm : ∀ k, i ≠ k * 62 + 61) (h0 : i ≠ 12400) (h1 : i ≠ 12401) : DiskIs (w.setCell ⟨q, i, none⟩ u) q rs f l :=
  ⟨fun k hk => (h.recs k hk).off (by right; omega), fun k hk => there_setCell (h.all k hk), fun k h1 h2 => by rw [World.cell?_setCell_other _ _ _ _ (by intro e; injection e with _ e; exact hm k e)]; exact h.mark k h1 h2,
   by rw [World.cell?_setCell_other _ _ _ _ (by intro e; injection e with _ e; exact h0 e)]; exact h.fails, by rw [World.cell?_setCell_other _ _ _ _ (by intro e; injection e with _ e; exact h1 e)]; exact h.left, fun i => by rw [World.frozen?_setCell]; exact h.free i, h.len, h.ok⟩

theorem DiskIs.setFails {w : World} {q : Nat} {rs : List R} {f : Bool} {l : Int} (h : DiskIs w q rs f l) (f' : Bool) : DiskIs (w.setCell ⟨q, 12400, none⟩ (.bool f')) q rs f' l :=
  ⟨fun k hk => (h.recs k hk).off (by have := h.len; right; omega), fun k hk => there_setCell (h.all k hk), fun k h1 h2 => by rw [World.cell?_setCell_other _ _ _ _ (by intro e; injection e with _ e; omega)]; exact h.mark k h1 h2,
   by rw [World.cell?_setCell_same _ _ _ h.fails], by rw [World.cell?_setCell_other _ _ _ _ (by simp)]; exact h.left, fun i => by rw [World.frozen?_setCell]; exact h.free i, h.len, h.ok⟩
theorem DiskIs.setLeft {w : World} {q : Nat} {rs : List R} {f : Bool} {l : Int} (h : DiskIs w q rs f l) (l' : Int) : DiskIs (w.setCell ⟨q, 12401, none⟩ (.int .i64 l')) q rs f l' :=
  ⟨fun k hk => (h.recs k hk).off (by have := h.len; right; omega), fun k hk => there_setCell (h.all k hk), fun k h1 h2 => by rw [World.cell?_setCell_other _ _ _ _ (by intro e; injection e with _ e; omega)]; exact h.mark k h1 h2,
   by rw [World.cell?_setCell_other _ _ _ _ (by simp)]; exact h.fails, by rw [World.cell?_setCell_same _ _ _ h.left], fun i => by rw [World.frozen?_setCell]; exact h.free i, h.len, h.ok⟩

/-- A record is laid behind all others. -/
theorem DiskIs.added {w : World} {q : Nat} {rs : List R} {f : Bool} {l : Int} {r : R} (h : DiskIs w q rs f l) (hl : rs.length < 200) (hr : Ok r) : DiskIs (w.setCells q (rs.length * 62) ((full r).map (Value.int .u8))) q (rs ++ [r]) f l := by
  have hF : ((full r).map (Value.int .u8)).length = 62 := by rw [List.length_map, full_length hr.1]
  have hth := h.all rs.length hl
  have hout : ∀ i, (i < rs.length * 62 ∨ rs.length * 62 + 62 ≤ i) → (w.setCells q (rs.length * 62) ((full r).map (Value.int .u8))).cell? ⟨q, i, none⟩ = w.cell? ⟨q, i, none⟩ := fun i hi => World.cell?_setCells_out q _ _ w ⟨q, i, none⟩ (fun _ _ => by rw [hF]; exact hi)
  refine ⟨fun k hk => ?_, fun k hk => World.there_setCells (h.all k hk) _ _ _, fun k h1 h2 => ?_, ?_, ?_, fun i => by rw [World.frozen?_setCells]; exact h.free i, by simp; omega, fun x hx => ?_⟩
  · rw [List.length_append, List.length_singleton] at hk
    by_cases hkl : k < rs.length
    · rw [List.getElem_append_left hkl]
      obtain ⟨p1, p2, p3⟩ := h.recs k hkl
      refine ⟨p1, World.rangeAt_setCells_apart p2 _ _ _ (by right; left; rw [List.length_map]; omega), World.there_setCells p3 _ _ _⟩
    · obtain rfl : k = rs.length := by omega
      rw [List.getElem_append_right (by omega)]
      simp only [Nat.sub_self, List.getElem_cons_zero]
      exact ⟨full_length hr.1, World.rangeAt_setCells_same _ _ _ _ (by rw [hF]; exact hth), World.there_setCells hth _ _ _⟩
  · rw [List.length_append, List.length_singleton] at h1
    rw [hout _ (by right; omega)]
    exact h.mark k (by omega) h2
  · rw [hout _ (by right; omega)]
    exact h.fails
  · rw [hout _ (by right; omega)]
    exact h.left
  · rcases List.mem_append.1 hx with hx | hx
    · exact h.ok x hx
    · obtain rfl := List.mem_singleton.1 hx
      exact hr

set_option maxHeartbeats 1000000 in
set_option maxRecDepth 100000 in
theorem cut_any (q : Nat) (rs : List R) (fails : Bool) (left n : Int) (w : World) (h : DiskIs w q rs fails left) :
    Calls Tryd.prog 33 #[.pointer (some ⟨q, 0, none⟩), .int .i64 n] w fun e w' => e = .returned (.tuple #[]) ∧ DiskIs w' q rs (decide (0 ≤ n)) (max n 0) ∧ Oq q w w' := by
  have f0 := h.free 12400
  have f1 := h.free 12401
  have c0 := h.fails
  have c1 := h.left
  by_cases hn : 0 ≤ n
  · have e1 : decide (0 ≤ n) = true := decide_eq_true hn
    have F := (h.setFails true).setLeft n
    have e2 : max n 0 = n := by omega
    rw [e2, e1]
    clear e1 e2
    go_enter Tryd.func33, Tryd.ntmps33
    go_wp2_with fail
    go_end0
    exact ⟨rfl, F, ((Oq.refl _ _).setCell _).setCell _⟩
  · have e1 : decide (0 ≤ n) = false := decide_eq_false hn
    have F := (h.setFails false).setLeft 0
    have e2 : max n 0 = 0 := by omega
    rw [e2, e1]
    clear e2
    have hn' : n < 0 := by omega
    go_enter Tryd.func33, Tryd.ntmps33
    go_wp2_with fail
    go_end0
    exact ⟨rfl, F, ((Oq.refl _ _).setCell _).setCell _⟩

end Go.Proofs.YtbebfliimjjohaaDoor.Wal
