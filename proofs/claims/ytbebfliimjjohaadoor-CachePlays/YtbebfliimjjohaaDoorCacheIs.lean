/-
  What a cache holds, by the program and by the document's own answer.
-/
import Derived.Test.YtbebfliimjjohaaDoorCacheMath
import Derived.Test.YtbebfliimjjohaaDoorGenHeld
import Derived.WalkKit
import Derived.ProofKit
import Derived.OpenShut
import Derived.WalkLawsBesides
import Derived.Outline
import Derived.BigRegion
import Derived.StillTailTactics
import Derived.Deep.RegionHeld3
import Derived.Deep.RegionLaw
import Derived.BigQuiet
import Derived.Deep.QuietTactic
namespace Go.Proofs.YtbebfliimjjohaaDoor.Cache
open Go.RowKit

/-- A pointer to a block. -/
abbrev tp (t : Nat) : Value := .pointer (some ⟨t, 0, none⟩)

/-- Some blocks alone turn, and new blocks come. -/
structure Ob (bs : List Nat) (w w' : World) : Prop where
  os : w'.os = w.os
  tape : w'.tape = w.tape
  output : w'.output = w.output
  size : w.heap.size ≤ w'.heap.size
  block : ∀ k, k < w.heap.size → k ∉ bs → w'.heap[k]? = w.heap[k]?
theorem Ob.refl (bs : List Nat) (w : World) : Ob bs w w := ⟨rfl, rfl, rfl, Nat.le_refl _, fun _ _ _ => rfl⟩
theorem Ob.trans {bs : List Nat} {a b c : World} (h : Ob bs a b) (k : Ob bs b c) : Ob bs a c :=
  ⟨k.os.trans h.os, k.tape.trans h.tape, k.output.trans h.output, Nat.le_trans h.size k.size, fun i hi hq => by rw [k.block i (Nat.lt_of_lt_of_le hi h.size) hq, h.block i hi hq]⟩
theorem Ob.mono {bs cs : List Nat} {a b : World} (h : Ob bs a b) (hs : ∀ k ∈ bs, k ∈ cs) : Ob cs a b := ⟨h.os, h.tape, h.output, h.size, fun k hk hc => h.block k hk fun hb => hc (hs k hb)⟩
theorem Ob.of_below {bs : List Nat} {a b : World} (h : Below a.heap.size a b) : Ob bs a b := ⟨h.os, h.tape, h.output, h.size, fun k hk _ => h.block k hk⟩
theorem Ob.setCell {bs : List Nat} {q i : Nat} {a b : World} (h : Ob bs a b) (hq : q ∈ bs) (u : Value) : Ob bs a (b.setCell ⟨q, i, none⟩ u) :=
  h.trans ⟨rfl, rfl, rfl, by simp, fun k _ hk => Below.heap_setCell b ⟨q, i, none⟩ u k (fun e => hk (by rw [e]; exact hq))⟩
theorem Ob.setCells {bs : List Nat} {q : Nat} {a : World} (hq : q ∈ bs) : ∀ (vs : List Value) (o : Nat) (b : World), Ob bs a b → Ob bs a (b.setCells q o vs)
  | [], _, _, h => h
  | v :: vs, o, b, h => by
    rw [World.setCells]
    exact Ob.setCells hq vs (o + 1) _ (h.setCell hq v)
theorem Ob.drew {bs : List Nat} {a b : World} (h : Ob bs a b) : Ob bs a b.drew := ⟨h.os, h.tape, h.output, h.size, h.block⟩
theorem Ob.drewN {bs : List Nat} {a b : World} (h : Ob bs a b) (k : Nat) : Ob bs a (b.drewN k) := ⟨h.os, h.tape, h.output, h.size, h.block⟩
theorem Ob.alloc {bs : List Nat} {a b : World} (h : Ob bs a b) (o : Obj) : Ob bs a (b.alloc o) := h.trans (Ob.of_below ((Below.refl _ _).alloc (Nat.le_refl _) o))
/-- What turns beyond the call's own blocks. -/
theorem Ob.new {bs : List Nat} {q : Nat} {a b : World} (h : Ob (q :: bs) a b) (hq : a.heap.size ≤ q) : Ob bs a b :=
  ⟨h.os, h.tape, h.output, h.size, fun k hk hn => h.block k hk (by simp; exact ⟨by omega, hn⟩)⟩
theorem Ob.below {bs : List Nat} {a b : World} {N : Nat} (h : Ob bs a b) (hN : ∀ k ∈ bs, N ≤ k) (ha : N ≤ a.heap.size) : Below N a b :=
  ⟨h.os, h.tape, h.output, h.size, fun k hk => h.block k (by omega) (fun hb => by have := hN k hb; omega)⟩
theorem Ob.grown {bs : List Nat} {a b c : World} {row : Option Nat} (h : Ob bs a b) (hg : b.grownBy c row) (hr : ∀ g, row = some g → g ∈ bs ∨ a.heap.size ≤ g) : Ob bs a c :=
  ⟨hg.os.trans h.os, hg.tape.trans h.tape, hg.output.trans h.output, Nat.le_trans h.size hg.size, fun k hk hn => by
    rw [hg.block k (Nat.lt_of_lt_of_le hk h.size) (fun e => by rcases hr k e.symm with q | q; exact hn q; omega)]
    exact h.block k hk hn⟩

/-- A row behind stores into it. -/
theorem heap_setCell {w : World} {g i : Nat} {cur : Array Value} {e : TypeId} {f : Nat × Nat} {u : Value} (h : w.heap[g]? = some (.cells cur e f)) : (w.setCell ⟨g, i, none⟩ u).heap[g]? = some (.cells (cur.setIfInBounds i u) e f) := by
  unfold World.setCell
  rw [Array.getElem?_modify, if_pos rfl, h]
  rfl
/-- A list over which others are laid. -/
def ow (l : List Value) (o : Nat) (vs : List Value) : List Value := l.take o ++ vs ++ l.drop (o + vs.length)
theorem ow_cons {l : List Value} {o : Nat} {v : Value} {vs : List Value} (h : o < l.length) : ow (l.set o v) (o + 1) vs = ow l o (v :: vs) := by
  unfold ow
  have e1 : (l.set o v).take (o + 1) = l.take o ++ [v] := by
    rw [List.set_eq_take_append_cons_drop, if_pos h, List.take_append, List.length_take, show min o l.length = o by omega, show o + 1 - o = 1 by omega, List.take_take, show min (o + 1) o = o by omega]
    rfl
  have e2 : (l.set o v).drop (o + 1 + vs.length) = l.drop (o + (v :: vs).length) := by
    rw [List.drop_set_of_lt (by omega), List.length_cons]
    congr 1
    omega
  rw [e1, e2]
  simp
theorem heap_ow {g : Nat} {e : TypeId} {f : Nat × Nat} : ∀ (vs : List Value) (o : Nat) (w : World) (l : List Value), w.heap[g]? = some (.cells l.toArray e f) → o + vs.length ≤ l.length → (w.setCells g o vs).heap[g]? = some (.cells (ow l o vs).toArray e f)
  | [], o, w, l, h, _ => by
    have e : ow l o [] = l := by simp [ow]
    rw [e]
    exact h
  | v :: vs, o, w, l, h, hl => by
    rw [List.length_cons] at hl
    rw [World.setCells, ← ow_cons (by omega)]
    refine heap_ow vs (o + 1) _ (l.set o v) ?_ (by simp; omega)
    rw [heap_setCell h]
    simp

/-- The cells of a value. -/
def ecells (x : E) : List Value := [.int .i64 x.o, .string x.d, .int .i64 x.v, .int .i64 x.u]
def flat (L : List E) : List Value := L.flatMap ecells
def pad (L : List E) : List E := L ++ List.replicate (6 - L.length) zeroE
/-- The cells of an array of values. -/
def acells (L : List E) : List Value := flat (pad L)
theorem flat_cons (x : E) (L : List E) : flat (x :: L) = ecells x ++ flat L := by simp [flat]
theorem flat_length (L : List E) : (flat L).length = L.length * 4 := by
  induction L with
  | nil => rfl
  | cons x L ih => rw [flat_cons, List.length_append, ih, List.length_cons]; simp [ecells]; omega
theorem pad_length {L : List E} (h : L.length ≤ 6) : (pad L).length = 6 := by simp [pad]; omega
theorem acells_length {L : List E} (h : L.length ≤ 6) : (acells L).length = 24 := by rw [acells, flat_length, pad_length h]
theorem flat_get : ∀ (L : List E) (i j : Nat) (h : i < L.length), j < 4 → (flat L)[i * 4 + j]? = (ecells L[i])[j]?
  | x :: L, 0, j, _, hj => by rw [flat_cons, Nat.zero_mul, Nat.zero_add, List.getElem?_append_left (by simpa [ecells] using hj)]; rfl
  | x :: L, i + 1, j, h, hj => by
    rw [flat_cons, List.getElem?_append_right (by simp [ecells]; omega)]
    have e : (i + 1) * 4 + j - (ecells x).length = i * 4 + j := by simp [ecells]; omega
    rw [e]
    exact flat_get L i j (by simpa using h) hj
theorem flat_one (L : List E) : ∀ u ∈ flat L, u.oneCell' = true := by
  intro u hu
  simp only [flat, List.mem_flatMap] at hu
  obtain ⟨x, _, h⟩ := hu
  simp [ecells] at h
  rcases h with rfl | rfl | rfl | rfl <;> rfl
theorem acells_get {L : List E} (h6 : L.length ≤ 6) (i j : Nat) (h : i < L.length) (hj : j < 4) : (acells L)[i * 4 + j]? = (ecells L[i])[j]? := by
  rw [acells, flat_get (pad L) i j (by rw [pad_length h6]; omega) hj]
  congr 2
  exact List.getElem_append_left h

/-- The cache at block t has these values in the order of their use; its count says n. -/
structure CacheIs (w : World) (t : Nat) (L : List E) (n : Int) : Prop where
  le : L.length ≤ 6
  blk : w.heap[t]? = some (.cells (acells L ++ [Value.int .i64 n]).toArray 119)
theorem CacheIs.lt {w : World} {t : Nat} {L : List E} {n : Int} (h : CacheIs w t L n) : t < w.heap.size := (Array.getElem?_eq_some_iff.1 h.blk).1
theorem CacheIs.ob {w w' : World} {t : Nat} {L : List E} {n : Int} {bs : List Nat} (h : CacheIs w t L n) (hb : Ob bs w w') (ht : t ∉ bs) : CacheIs w' t L n := ⟨h.le, (hb.block t h.lt ht).trans h.blk⟩
theorem CacheIs.below {w w' : World} {t : Nat} {L : List E} {n : Int} (h : CacheIs w t L n) (hb : Below w.heap.size w w') : CacheIs w' t L n := ⟨h.le, (hb.block t h.lt).trans h.blk⟩
theorem CacheIs.drew {w : World} {t : Nat} {L : List E} {n : Int} (h : CacheIs w t L n) : CacheIs w.drew t L n := ⟨h.le, h.blk⟩
theorem CacheIs.drewN {w : World} {t : Nat} {L : List E} {n : Int} (h : CacheIs w t L n) (k : Nat) : CacheIs (w.drewN k) t L n := ⟨h.le, h.blk⟩
theorem CacheIs.alloc {w : World} {t : Nat} {L : List E} {n : Int} (h : CacheIs w t L n) (o : Obj) : CacheIs (w.alloc o) t L n := h.below ((Below.refl _ _).alloc (Nat.le_refl _) o)
theorem CacheIs.many {w : World} {t : Nat} {L : List E} {n : Int} (h : CacheIs w t L n) : w.cell? ⟨t, 24, none⟩ = some (.int .i64 n) := by
  rw [cell_of_row _ _ _ _ _ _ h.blk, List.getElem?_toArray, List.getElem?_append_right (by rw [acells_length h.le]; omega), acells_length h.le]
  rfl
theorem CacheIs.free {w : World} {t : Nat} {L : List E} {n : Int} (h : CacheIs w t L n) (i : Nat) : w.frozen? ⟨t, i, none⟩ = false := by
  simp [World.frozen?, h.blk]
theorem CacheIs.cell {w : World} {t : Nat} {L : List E} {n : Int} (h : CacheIs w t L n) (i : Nat) (hi : i < 24) : w.cell? ⟨t, i, none⟩ = (acells L)[i]? := by
  rw [cell_of_row _ _ _ _ _ _ h.blk, List.getElem?_toArray, List.getElem?_append_left (by rw [acells_length h.le]; omega)]
theorem CacheIs.get {w : World} {t : Nat} {L : List E} {n : Int} (h : CacheIs w t L n) (i j : Nat) (hi : i < L.length) (hj : j < 4) : w.cell? ⟨t, i * 4 + j, none⟩ = (ecells L[i])[j]? := by
  have := h.le
  rw [h.cell _ (by omega), acells_get h.le i j hi hj]
theorem CacheIs.there {w : World} {t : Nat} {L : List E} {n : Int} (h : CacheIs w t L n) (i : Nat) (hi : i < 25) : (w.cell? ⟨t, i, none⟩).isSome = true := by
  rw [cell_of_row _ _ _ _ _ _ h.blk, List.getElem?_toArray, List.getElem?_eq_getElem (by rw [List.length_append, acells_length h.le]; simpa using hi)]
  rfl
/-- Cells are laid over the cache's. -/
theorem CacheIs.over {w : World} {t o : Nat} {L M : List E} {n m : Int} {vs : List Value} (h : CacheIs w t L n) (hm : M.length ≤ 6) (ho : o + vs.length ≤ 25) (he : ow (acells L ++ [Value.int .i64 n]) o vs = acells M ++ [Value.int .i64 m]) : CacheIs (w.setCells t o vs) t M m := by
  refine ⟨hm, ?_⟩
  rw [heap_ow vs o w _ h.blk (by rw [List.length_append, acells_length h.le]; exact ho), he]
theorem ow_many {L : List E} (h : L.length ≤ 6) (n m : Int) : ow (acells L ++ [.int .i64 n]) 24 [.int .i64 m] = acells L ++ [.int .i64 m] := by
  have e := acells_length h
  unfold ow
  rw [List.take_left' e, List.drop_of_length_le (by rw [List.length_append, e]; simp), List.append_nil]
theorem CacheIs.setMany {w : World} {t : Nat} {L : List E} {n : Int} (h : CacheIs w t L n) (m : Int) : CacheIs (w.setCell ⟨t, 24, none⟩ (.int .i64 m)) t L m :=
  h.over (vs := [.int .i64 m]) h.le (by simp) (ow_many h.le n m)

/-- One value is taken out, one is put behind. -/
theorem ow_erase (x : Value) : ∀ (L : List E) (k : Nat), k < L.length → L.length ≤ 6 → ow (ow (acells L ++ [x]) (k * 4) (flat (L.drop (k + 1)))) ((L.length - 1) * 4) (ecells zeroE) = acells (L.eraseIdx k) ++ [x]
  | [_], 0, _, _ => rfl
  | [_, _], 0, _, _ => rfl
  | [_, _], 1, _, _ => rfl
  | [_, _, _], 0, _, _ => rfl
  | [_, _, _], 1, _, _ => rfl
  | [_, _, _], 2, _, _ => rfl
  | [_, _, _, _], 0, _, _ => rfl
  | [_, _, _, _], 1, _, _ => rfl
  | [_, _, _, _], 2, _, _ => rfl
  | [_, _, _, _], 3, _, _ => rfl
  | [_, _, _, _, _], 0, _, _ => rfl
  | [_, _, _, _, _], 1, _, _ => rfl
  | [_, _, _, _, _], 2, _, _ => rfl
  | [_, _, _, _, _], 3, _, _ => rfl
  | [_, _, _, _, _], 4, _, _ => rfl
  | [_, _, _, _, _, _], 0, _, _ => rfl
  | [_, _, _, _, _, _], 1, _, _ => rfl
  | [_, _, _, _, _, _], 2, _, _ => rfl
  | [_, _, _, _, _, _], 3, _, _ => rfl
  | [_, _, _, _, _, _], 4, _, _ => rfl
  | [_, _, _, _, _, _], 5, _, _ => rfl
  | [], _, h, _ => by simp at h
  | [_], k + 1, h, _ => by simp at h
  | [_, _], k + 2, h, _ => by simp at h; omega
  | [_, _, _], k + 3, h, _ => by simp at h; omega
  | [_, _, _, _], k + 4, h, _ => by simp at h; omega
  | [_, _, _, _, _], k + 5, h, _ => by simp at h; omega
  | [_, _, _, _, _, _], k + 6, h, _ => by simp at h; omega
  | _ :: _ :: _ :: _ :: _ :: _ :: _ :: _, _, _, h => by simp at h
theorem ow_put (x : Value) (e : E) : ∀ (L : List E), L.length < 6 → ow (acells L ++ [x]) (L.length * 4) (ecells e) = acells (L ++ [e]) ++ [x]
  | [], _ => rfl
  | [_], _ => rfl
  | [_, _], _ => rfl
  | [_, _, _], _ => rfl
  | [_, _, _, _], _ => rfl
  | [_, _, _, _, _], _ => rfl
  | _ :: _ :: _ :: _ :: _ :: _ :: _, h => by simp at h; omega

/-- The cells of an item. -/
def icells (x : It) : List Value := [.int .i64 x.e.o, .string x.e.d, .int .i64 x.e.v, .int .i64 x.e.u, .int .i64 x.s]
def rcells (R : List It) : List Value := R.flatMap icells
theorem rcells_cons (x : It) (R : List It) : rcells (x :: R) = icells x ++ rcells R := by simp [rcells]
theorem rcells_snoc (x : It) (R : List It) : rcells (R ++ [x]) = rcells R ++ icells x := by simp [rcells]
theorem rcells_length (R : List It) : (rcells R).length = R.length * 5 := by
  induction R with
  | nil => rfl
  | cons x R ih => rw [rcells_cons, List.length_append, ih, List.length_cons]; simp [icells]; omega
theorem rcells_get : ∀ (R : List It) (i j : Nat) (h : i < R.length), j < 5 → (rcells R)[i * 5 + j]? = (icells R[i])[j]?
  | x :: R, 0, j, _, hj => by rw [rcells_cons, Nat.zero_mul, Nat.zero_add, List.getElem?_append_left (by simpa [icells] using hj)]; rfl
  | x :: R, i + 1, j, h, hj => by
    rw [rcells_cons, List.getElem?_append_right (by simp [icells]; omega)]
    have e : (i + 1) * 5 + j - (icells x).length = i * 5 + j := by simp [icells]; omega
    rw [e]
    exact rcells_get R i j (by simpa using h) hj
theorem icells_one (x : It) : ∀ u ∈ icells x, u.oneCell' = true := by
  intro u hu
  simp [icells] at hu
  rcases hu with rfl | rfl | rfl | rfl | rfl <;> rfl
theorem rcells_set : ∀ (R : List It) (i : Nat) (s : Int) (h : i < R.length), rcells (R.set i ⟨R[i].e, s⟩) = (rcells R).set (i * 5 + 4) (.int .i64 s)
  | x :: R, 0, s, _ => by rw [List.set_cons_zero, rcells_cons, rcells_cons]; rfl
  | x :: R, i + 1, s, h => by
    have ih := rcells_set R i s (by simpa using h)
    rw [List.set_cons_succ, rcells_cons, rcells_cons]
    have e : (i + 1) * 5 + 4 = (i * 5 + 4) + (icells x).length := by simp [icells]; omega
    rw [e, List.set_append, if_neg (by omega), Nat.add_sub_cancel, ← ih]
    rfl

/-- The items in a slice. -/
def Row (w : World) (B : Nat) (v : Value) (R : List It) : Prop := w.ownsRow B 167 5 v R.length (rcells R)
theorem Row.nil (w : World) (B : Nat) : Row w B (.slice none 0 0) [] := World.ownsRow_nil _ _ _ _
theorem Row.drew {w : World} {B : Nat} {v : Value} {R : List It} (h : Row w B v R) : Row w.drew B v R := h
theorem Row.drewN {w : World} {B : Nat} {v : Value} {R : List It} (h : Row w B v R) (k : Nat) : Row (w.drewN k) B v R := h
theorem row_kept {w w' : World} {B s n : Nat} {e : TypeId} {v : Value} {xs : List Value} (h : w.ownsRow B e s v n xs) (hb : ∀ g, v.ownBlock = some g → w'.heap[g]? = w.heap[g]?) : w'.ownsRow B e s v n xs := by
  refine ⟨h.1, ?_⟩
  rcases h.2 with h | ⟨g, cap, cur, h1, h2, h3, h4⟩
  · exact .inl h
  · exact .inr ⟨g, cap, cur, h1, h2, (hb g (by rw [h1]; rfl)).trans h3, h4⟩
theorem row_below {w w' : World} {B s n : Nat} {e : TypeId} {v : Value} {xs : List Value} (h : w.ownsRow B e s v n xs) (hb : Below w.heap.size w w') : w'.ownsRow B e s v n xs := row_kept h fun g hg => hb.block g (h.lt g hg).2
theorem Row.below {w w' : World} {B : Nat} {v : Value} {R : List It} (h : Row w B v R) (hb : Below w.heap.size w w') : Row w' B v R := row_below h hb
theorem Row.ob {w w' : World} {B : Nat} {v : Value} {R : List It} {bs : List Nat} (h : Row w B v R) (hb : Ob bs w w') (hn : ∀ g, v.ownBlock = some g → g ∉ bs) : Row w' B v R := row_kept h fun g hg => hb.block g (h.lt g hg).2 (hn g hg)
theorem Row.shape {w : World} {B : Nat} {v : Value} {R : List It} (h : Row w B v R) : ∃ ao c, v = .slice ao R.length c ∧ (0 < R.length → ∃ g, ao = some ⟨g, 0, none⟩ ∧ v.ownBlock = some g ∧ B ≤ g ∧ g < w.heap.size ∧ ∀ i j (hi : i < R.length), j < 5 → w.cell? ⟨g, i * 5 + j, none⟩ = (icells R[i])[j]?) := by
  rcases h.2 with ⟨h1, h2⟩ | ⟨g, cap, cur, h1, h2, h3, h4, h5, h6, h7⟩
  · exact ⟨none, 0, by rw [h1, h2], fun h => by omega⟩
  · refine ⟨_, cap, h1, fun _ => ⟨g, rfl, by rw [h1]; rfl, h2, (Array.getElem?_eq_some_iff.1 h3).1, fun i j hi hj => ?_⟩⟩
    subst h1
    rw [World.ownsRow.cellAt h _ (by omega)]
    exact rcells_get R i j hi hj

/-- The document's cache at block r: its items, in no order, in the slice v; its time. -/
structure RefIs (w : World) (r B : Nat) (v : Value) (R : List It) (tm : Int) : Prop where
  blk : w.heap[r]? = some (.cells #[v, .int .i64 tm] 123)
  row : Row w B v R
  lt : r < B
theorem RefIs.ins {w : World} {r B : Nat} {v : Value} {R : List It} {tm : Int} (h : RefIs w r B v R tm) : r < w.heap.size := (Array.getElem?_eq_some_iff.1 h.blk).1
theorem RefIs.ob {w w' : World} {r B : Nat} {v : Value} {R : List It} {tm : Int} {bs : List Nat} (h : RefIs w r B v R tm) (hb : Ob bs w w') (hr : r ∉ bs) (hn : ∀ g, v.ownBlock = some g → g ∉ bs) : RefIs w' r B v R tm :=
  ⟨(hb.block r h.ins hr).trans h.blk, h.row.ob hb hn, h.lt⟩
theorem RefIs.below {w w' : World} {r B : Nat} {v : Value} {R : List It} {tm : Int} (h : RefIs w r B v R tm) (hb : Below w.heap.size w w') : RefIs w' r B v R tm := h.ob (bs := []) (Ob.of_below hb) (by simp) (by simp)
theorem RefIs.drew {w : World} {r B : Nat} {v : Value} {R : List It} {tm : Int} (h : RefIs w r B v R tm) : RefIs w.drew r B v R tm := ⟨h.blk, h.row, h.lt⟩
theorem RefIs.drewN {w : World} {r B : Nat} {v : Value} {R : List It} {tm : Int} (h : RefIs w r B v R tm) (k : Nat) : RefIs (w.drewN k) r B v R tm := ⟨h.blk, h.row, h.lt⟩
theorem RefIs.c0 {w : World} {r B : Nat} {v : Value} {R : List It} {tm : Int} (h : RefIs w r B v R tm) : w.cell? ⟨r, 0, none⟩ = some v := by rw [cell_of_row _ _ _ _ _ _ h.blk]; rfl
theorem RefIs.c1 {w : World} {r B : Nat} {v : Value} {R : List It} {tm : Int} (h : RefIs w r B v R tm) : w.cell? ⟨r, 1, none⟩ = some (.int .i64 tm) := by rw [cell_of_row _ _ _ _ _ _ h.blk]; rfl
theorem RefIs.free {w : World} {r B : Nat} {v : Value} {R : List It} {tm : Int} (h : RefIs w r B v R tm) (i : Nat) : w.frozen? ⟨r, i, none⟩ = false := by simp [World.frozen?, h.blk]
theorem RefIs.setTime {w : World} {r B : Nat} {v : Value} {R : List It} {tm : Int} (h : RefIs w r B v R tm) (x : Int) : RefIs (w.setCell ⟨r, 1, none⟩ (.int .i64 x)) r B v R x := by
  have hlt := h.lt
  refine ⟨heap_setCell h.blk, h.row.ob (bs := [r]) ((Ob.refl _ _).setCell (by simp) _) fun g hg => ?_, h.lt⟩
  have := (World.ownsRow.lt h.row g hg).1
  simp
  omega
theorem RefIs.setRow {w : World} {r B : Nat} {v u : Value} {R S : List It} {tm : Int} (h : RefIs w r B v R tm) (k : Row w B u S) : RefIs (w.setCell ⟨r, 0, none⟩ u) r B u S tm := by
  have hlt := h.lt
  refine ⟨heap_setCell h.blk, k.ob (bs := [r]) ((Ob.refl _ _).setCell (by simp) _) fun g hg => ?_, h.lt⟩
  have := (World.ownsRow.lt k g hg).1
  simp
  omega

end Go.Proofs.YtbebfliimjjohaaDoor.Cache
