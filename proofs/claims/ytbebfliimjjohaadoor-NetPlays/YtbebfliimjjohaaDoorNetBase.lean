/-
  What a net holds, and what a call that writes rows of one type alone leaves as it was.
-/
import Derived.Test.YtbebfliimjjohaaDoorDec
import Derived.Deep.RegionHeld3
namespace Go.Proofs.YtbebfliimjjohaaDoor.Net
open Go.RowKit
open Wire (Has bcell)

/-- The cells of some packets. -/
def pcells (ps : List (Int × ByteArray)) : List Value := ps.flatMap fun p => [.int .i64 p.1, .string p.2]
theorem pcells_length (ps : List (Int × ByteArray)) : (pcells ps).length = ps.length * 2 := by
  induction ps with
  | nil => rfl
  | cons p ps ih =>
    have e : pcells (p :: ps) = [.int .i64 p.1, .string p.2] ++ pcells ps := by simp [pcells]
    rw [e, List.length_append, ih, List.length_cons]
    simp
    omega
theorem pcells_snoc (ps : List (Int × ByteArray)) (p : Int × ByteArray) : pcells (ps ++ [p]) = pcells ps ++ [.int .i64 p.1, .string p.2] := by simp [pcells]
theorem pcells_one (ps : List (Int × ByteArray)) : ∀ u ∈ pcells ps, u.oneCell' = true := by
  intro u hu
  simp only [pcells, List.mem_flatMap] at hu
  obtain ⟨p, _, h⟩ := hu
  simp at h
  rcases h with rfl | rfl <;> rfl

theorem pcells_get : ∀ (ps : List (Int × ByteArray)) (k : Nat) (h : k < ps.length), (pcells ps)[k * 2]? = some (.int .i64 ps[k].1) ∧ (pcells ps)[k * 2 + 1]? = some (.string ps[k].2)
  | p :: ps, 0, _ => by
    have e : pcells (p :: ps) = [.int .i64 p.1, .string p.2] ++ pcells ps := by simp [pcells]
    rw [e]
    simp
  | p :: ps, k + 1, h => by
    have ih := pcells_get ps k (by simpa using h)
    have e : pcells (p :: ps) = [.int .i64 p.1, .string p.2] ++ pcells ps := by simp [pcells]
    rw [e, List.getElem?_append_right (by simp; omega), List.getElem?_append_right (by simp; omega)]
    have e1 : (k + 1) * 2 - [Value.int .i64 p.1, Value.string p.2].length = k * 2 := by simp; omega
    have e2 : (k + 1) * 2 + 1 - [Value.int .i64 p.1, Value.string p.2].length = k * 2 + 1 := by simp; omega
    rw [e1, e2]
    simpa using ih

/-- Nothing turns but block q, rows of type t from B on, and new blocks. -/
structure Only (B : Nat) (t : TypeId) (q : Nat) (w w' : World) : Prop where
  os : w'.os = w.os
  tape : w'.tape = w.tape
  output : w'.output = w.output
  size : w.heap.size ≤ w'.heap.size
  block : ∀ k, k < w.heap.size → k ≠ q → (k < B ∨ ∀ c f, w.heap[k]? ≠ some (.cells c t f)) → w'.heap[k]? = w.heap[k]?

theorem Only.refl (B : Nat) (t : TypeId) (q : Nat) (w : World) : Only B t q w w := ⟨rfl, rfl, rfl, Nat.le_refl _, fun _ _ _ _ => rfl⟩
theorem Only.trans {B : Nat} {t : TypeId} {q : Nat} {a b c : World} (h : Only B t q a b) (k : Only B t q b c) : Only B t q a c :=
  ⟨k.os.trans h.os, k.tape.trans h.tape, k.output.trans h.output, Nat.le_trans h.size k.size, fun i hi hq ht => by
    have e := h.block i hi hq ht
    rw [k.block i (Nat.lt_of_lt_of_le hi h.size) hq (by rw [e]; exact ht), e]⟩
theorem Only.alloc {B : Nat} {t : TypeId} {q : Nat} {a b : World} (h : Only B t q a b) (o : Obj) : Only B t q a (b.alloc o) :=
  h.trans ⟨rfl, rfl, rfl, by simp, fun i hi _ _ => Below.heap_alloc b o i hi⟩
theorem Only.drew {B : Nat} {t : TypeId} {q : Nat} {a b : World} (h : Only B t q a b) : Only B t q a b.drew := ⟨h.os, h.tape, h.output, h.size, h.block⟩
theorem Only.setCell {B : Nat} {t : TypeId} {q i : Nat} {a b : World} (h : Only B t q a b) (u : Value) : Only B t q a (b.setCell ⟨q, i, none⟩ u) :=
  h.trans ⟨rfl, rfl, rfl, by simp, fun k _ hq _ => Below.heap_setCell b ⟨q, i, none⟩ u k hq⟩
theorem Only.below {B : Nat} {t : TypeId} {q : Nat} {a b c : World} (h : Only B t q a b) (hb : Below b.heap.size b c) : Only B t q a c :=
  h.trans ⟨hb.os, hb.tape, hb.output, hb.size, fun k hk _ _ => hb.block k hk⟩
/-- A row's own block is of the row's type. -/
theorem Only.grown {B : Nat} {t : TypeId} {q s n : Nat} {a b c : World} {v : Value} {xs : List Value} (h : Only B t q a b) (ho : b.ownsRow B t s v n xs) (hg : b.grownBy c v.ownBlock) : Only B t q a c :=
  h.trans ⟨hg.os, hg.tape, hg.output, hg.size, fun k hk _ ht => hg.block k hk (fun e => by
    rcases ho.2 with ⟨rfl, _⟩ | ⟨g, cap, cur, rfl, hB, hh, _⟩
    · simp [Value.ownBlock] at e
    · simp [Value.ownBlock] at e
      subst e
      rcases ht with ht | ht
      · omega
      · exact ht _ _ hh)⟩

theorem Only.row {B : Nat} {t e : TypeId} {q s n : Nat} {w w' : World} {v : Value} {xs : List Value} (h : Only B t q w w') (hne : e ≠ t) (hq : q < B) (ho : w.ownsRow B e s v n xs) : w'.ownsRow B e s v n xs := by
  refine ⟨ho.1, ?_⟩
  rcases ho.2 with ho | ⟨g, cap, cur, h1, h2, h3, h4⟩
  · exact .inl ho
  · refine .inr ⟨g, cap, cur, h1, h2, ?_, h4⟩
    rw [h.block g (Array.getElem?_eq_some_iff.1 h3).1 (by omega) (.inr fun c f hc => by rw [h3] at hc; injection hc with hc; injection hc with _ hc _; exact hne hc)]
    exact h3

theorem Only.cell {B : Nat} {t : TypeId} {q b i : Nat} {w w' : World} (h : Only B t q w w') (hb : b < B) (hq : b ≠ q) (hs : b < w.heap.size) : w'.cell? ⟨b, i, none⟩ = w.cell? ⟨b, i, none⟩ := World.cell?_of_block (h.block b hs hq (.inl hb))
theorem Only.frozen {B : Nat} {t : TypeId} {q b i : Nat} {w w' : World} (h : Only B t q w w') (hb : b < B) (hq : b ≠ q) (hs : b < w.heap.size) : w'.frozen? ⟨b, i, none⟩ = w.frozen? ⟨b, i, none⟩ := World.frozen?_of_block (h.block b hs hq (.inl hb))

/-- The net at block q has these packets, and has lost so many. -/
structure NetIs (w : World) (B q : Nat) (ps : List (Int × ByteArray)) (lost : Int) : Prop where
  row : ∃ v, w.cell? ⟨q, 0, none⟩ = some v ∧ w.ownsRow B 149 2 v ps.length (pcells ps)
  lost : w.cell? ⟨q, 1, none⟩ = some (.int .i64 lost)
  free : ∀ i, w.frozen? ⟨q, i, none⟩ = false
  lt : q < B
  le : B ≤ w.heap.size
  len : ps.length ≤ 200

theorem info_packet : (Tryd.prog.info? 149).map (fun i => (i.zero, i.size, i.bytes)) = some (some (.agg #[.int .i64 0, .string ⟨#[]⟩]), 2, 24) := by kernel_rfl

end Go.Proofs.YtbebfliimjjohaaDoor.Net
