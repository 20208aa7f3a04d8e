/-
  The state of the law's play on a disk.
-/
import Derived.Great.BuildSlice
import Derived.Test.YtbebfliimjjohaaDoorWalRecs
import Derived.Test.YtbebfliimjjohaaDoorWalRef
import Derived.Test.YtbebfliimjjohaaDoorWalZero
import Derived.Test.YtbebfliimjjohaaDoorBare
namespace Go.Proofs.YtbebfliimjjohaaDoor.Wal
open Go.RowKit
open Num (inB)

/-- The state: the disk at block N, the Wal at block u, the law's own row of records. -/
structure St (W : World) (rs : List R) (f : Bool) (l : Int) (down : Bool) (u : Nat) (va : Value) (w : World) : Prop where
  disk : DiskIs w W.heap.size rs f l
  wal : WalIs w u W.heap.size rs down
  lt : W.heap.size < u
  all : w.ownsRow (W.heap.size + 1) 77 6 va rs.length (rcells rs)
  below : Below W.heap.size W w

theorem St.size {W w : World} {rs : List R} {f down : Bool} {l : Int} {u : Nat} {va : Value} (h : St W rs f l down u va w) : W.heap.size + 1 < w.heap.size := by have := h.wal.lt; have := h.lt; omega

theorem St.other {W w w' : World} {rs : List R} {f down : Bool} {l : Int} {u : Nat} {va : Value} (h : St W rs f l down u va w) (hb : Below w.heap.size w w') : St W rs f l down u va w' := by
  have hs := h.size
  exact ⟨h.disk.below hb (by omega), h.wal.below hb, h.lt, row_below h.all hb, h.below.trans (hb.mono (by omega))⟩

/-- Rows of the law's own behind an Add. -/
theorem Fw.all {w w' : World} {u q B n : Nat} {v : Value} {xs : List Value} (h : Fw u q w w') (hq : q < B) (hty : ∃ cs f, w.heap[u]? = some (.cells cs 153 f)) (ho : w.ownsRow B 77 6 v n xs) : w'.ownsRow B 77 6 v n xs := by
  refine ⟨ho.1, ?_⟩
  rcases ho.2 with ho | ⟨g, cap, cur, h1, h2, h3, h4⟩
  · exact .inl ho
  · refine .inr ⟨g, cap, cur, h1, h2, ?_, h4⟩
    obtain ⟨cs, f, hu⟩ := hty
    rw [h.block g (Array.getElem?_eq_some_iff.1 h3).1 (fun e => by rw [e, hu] at h3; injection h3 with h3; injection h3 with _ h3 _; cases h3) (by omega) (.inr fun c f hc => by rw [h3] at hc; injection hc with hc; injection hc with _ hc _; cases hc)]
    exact h3
theorem Fw.below {w w' : World} {u q : Nat} (h : Fw u q w w') (hq : q < w.heap.size) (hu : q < u) : Below q w w' :=
  ⟨h.os, h.tape, h.output, h.size, fun k hk => h.block k (by omega) (by omega) (by omega) (.inl (by omega))⟩

theorem St.add {W w w' : World} {rs : List R} {f down : Bool} {l : Int} {u : Nat} {va : Value} (h : St W rs f l down u va w) (hF : Fw u W.heap.size w w') :
    w'.ownsRow (W.heap.size + 1) 77 6 va rs.length (rcells rs) ∧ Below W.heap.size W w' := by
  have hs := h.size
  exact ⟨hF.all (by omega) h.wal.typ h.all, h.below.trans (hF.below (by omega) h.lt)⟩

theorem Oq.below {q : Nat} {w w' : World} (h : Oq q w w') (hq : q < w.heap.size) : Below q w w' := ⟨h.os, h.tape, h.output, h.size, fun k hk => h.block k (by omega) (by omega)⟩
theorem Oq.row {q B n s : Nat} {e : TypeId} {w w' : World} {v : Value} {xs : List Value} (h : Oq q w w') (hq : q < B) (ho : w.ownsRow B e s v n xs) : w'.ownsRow B e s v n xs := by
  refine ⟨ho.1, ?_⟩
  rcases ho.2 with ho | ⟨g, cap, cur, h1, h2, h3, h4⟩
  · exact .inl ho
  · exact .inr ⟨g, cap, cur, h1, h2, (h.block g (Array.getElem?_eq_some_iff.1 h3).1 (by omega)).trans h3, h4⟩
theorem St.cut {W w w' : World} {rs : List R} {f f' down : Bool} {l l' : Int} {u : Nat} {va : Value} (h : St W rs f l down u va w) (hD : DiskIs w' W.heap.size rs f' l') (hO : Oq W.heap.size w w') : St W rs f' l' down u va w' := by
  have hs := h.size
  exact ⟨hD, h.wal.oq hO h.lt, h.lt, hO.row (by omega) h.all, h.below.trans (hO.below (by omega))⟩

/-- A block that is not of the law's rows' type is as it was behind an append onto such a row. -/
theorem grown_block {b c : World} {B n k : Nat} {v : Value} {xs : List Value} {cs : Array Value} {t : TypeId} {f : Nat × Nat} (ho : b.ownsRow B 77 6 v n xs) (hg : b.grownBy c v.ownBlock) (hk : b.heap[k]? = some (.cells cs t f)) (ht : t ≠ 77) : c.heap[k]? = b.heap[k]? :=
  hg.block k (Array.getElem?_eq_some_iff.1 hk).1 (fun e => by
    rcases ho.2 with ⟨rfl, _⟩ | ⟨g, cap, cur, rfl, _, hh, _⟩
    · simp [Value.ownBlock] at e
    · simp [Value.ownBlock] at e
      subst e
      rw [hk] at hh
      injection hh with hh
      injection hh with _ hh _
      exact ht hh)
theorem WalIs.grown {b c : World} {B n u q : Nat} {v : Value} {xs : List Value} {rs : List R} {down : Bool} (h : WalIs b u q rs down) (ho : b.ownsRow B 77 6 v n xs) (hg : b.grownBy c v.ownBlock) : WalIs c u q rs down := by
  obtain ⟨h1, ⟨v', hv, hr⟩, h3, h4, h5, ⟨cs, f, h6⟩⟩ := h
  have hb := grown_block ho hg h6 (by decide)
  refine ⟨(World.cell?_of_block (a := ⟨u, 0, none⟩) hb).trans h1, ⟨v', (World.cell?_of_block (a := ⟨u, 1, none⟩) hb).trans hv, hr.1, ?_⟩, (World.cell?_of_block (a := ⟨u, 2, none⟩) hb).trans h3, fun i => (World.frozen?_of_block (a := ⟨u, i, none⟩) hb).trans (h4 i), by have := hg.size; omega, cs, f, hb.trans h6⟩
  rcases hr.2 with h | ⟨g, cap, cur, e1, e2, e3, e4⟩
  · exact .inl h
  · exact .inr ⟨g, cap, cur, e1, e2, (grown_block ho hg e3 (by decide)).trans e3, e4⟩
/-- The law's own row grows by what was added. -/
theorem St.grown {W w4 w5 : World} {rs : List R} {r : R} {f down : Bool} {l : Int} {u n : Nat} {va v5 : Value} {o : Obj} (hD : DiskIs w4 W.heap.size (rs ++ [r]) f l) (hW : WalIs w4 u W.heap.size (rs ++ [r]) down) (hlt : W.heap.size < u) (hall : w4.ownsRow (W.heap.size + 1) 77 6 va rs.length (rcells rs)) (hB : Below W.heap.size W w4)
    (hown : w5.ownsRow (W.heap.size + 1) 77 6 v5 n (rcells (rs ++ [r]))) (hn : n = rs.length + 1) (hg : (w4.alloc o).grownBy w5 va.ownBlock) : St W (rs ++ [r]) f l down u v5 w5 := by
  have hba := (Below.refl w4.heap.size w4).alloc (Nat.le_refl _) o
  have hW2 := hW.lt
  have hB5 : Below (W.heap.size + 1) w4 w5 := (hba.mono (by omega)).grown hg (by simp; omega) (fun k hk => ((hall.alloc o).lt k hk).1)
  refine ⟨hD.below hB5 (by omega), (hW.below hba).grown (hall.alloc o) hg, hlt, ?_, hB.trans (hB5.mono (by omega))⟩
  rw [List.length_append, List.length_singleton, ← hn]
  exact hown
theorem ref_made (w : World) (r : R) : ∀ j u, r.cells[j]? = some u → (w.alloc (.cells #[.int .i64 r.c, .int .i64 r.n, .int .i64 r.o, .int .i64 r.v, .string r.d, .int .i64 r.e] 77)).cell? ((⟨w.heap.size, 0, none⟩ : Addr).add j) = some u := by
  intro j u hj
  rw [Addr.add_mid, Nat.zero_add, cell_of_row _ _ _ _ _ _ (heap_alloc_new w _), ← hj]
  exact List.getElem?_toArray
theorem info_ref : (Tryd.prog.info? 77).map (fun i => (i.zero, i.size, i.bytes)) = some (some (.agg #[.int .i64 0, .int .i64 0, .int .i64 0, .int .i64 0, .string ⟨#[]⟩, .int .i64 0]), 6, 56) := by kernel_rfl

/-- A slice of one record, made of the record in a slot (the walk's own step makes a proof that the kernel doesn't get through). -/
theorem fill_ref (r : R) : Instr.fill (fun i => some (i * 6, 6)) ((Array.range (1 * 6)).map ((Value.agg #[.int .i64 0, .int .i64 0, .int .i64 0, .int .i64 0, .string ⟨#[]⟩, .int .i64 0]).cells[· % (Value.agg #[.int .i64 0, .int .i64 0, .int .i64 0, .int .i64 0, .string ⟨#[]⟩, .int .i64 0]).cells.size]!)) [(0, r.agg)] = some #[.int .i64 r.c, .int .i64 r.n, .int .i64 r.o, .int .i64 r.v, .string r.d, .int .i64 r.e] := by
  have h0 : Array.range 0 = #[] := rfl
  simp [Instr.fill, R.agg, Value.cells, Array.range_succ, h0]
theorem wpList_oneRef {ops : Array Oper} {rest : List Oper} {o : Oper} {a : Act} {w : World} {Q : Exit → Act → World → Prop} (hg : o.guard = none) (t : Nat) (ho : o.op = .buildSlice 72 1 #[(0, .tmp t)]) (r : R) (ht : a.eval (.tmp t) = r.agg)
    (h : wpList Tryd.prog ops Q rest (a.put o.dst (.slice (some ⟨w.heap.size, 0, none⟩) 1 1)) (w.alloc (.cells #[.int .i64 r.c, .int .i64 r.n, .int .i64 r.o, .int .i64 r.v, .string r.d, .int .i64 r.e] 77))) : wpList Tryd.prog ops Q (o :: rest) a w := by
  obtain ⟨i0, hi, hy0, hy1, hy2⟩ := info_parts info_ref
  refine wpList_buildSlice hg 72 77 1 _ ho _ i0 _ Tryd.underlying72 hi hy0 (by rw [hy1]; decide) (by rw [hy1]; decide) ?_ h
  rw [hy1]
  simp only [List.map_toArray, List.map_cons, List.map_nil, ht]
  exact fill_ref r

/-- A filler. -/
def fr (i : Nat) : R := ⟨0, i, (i : Int) % 8, 0, ⟨#[120]⟩, 0⟩
theorem fr_may (i : Nat) (h : i ≤ 200) : mayB (fr i) = true := by
  have ho : (i : Int) % 8 ≠ -1 := by omega
  have hn : inB (i : Int) 0 1099511627776 = true := Num.inB_true (by omega) (by omega)
  have h0 : inB 0 0 1099511627776 = true := Num.inB_true (by omega) (by omega)
  have hs : (ByteArray.mk #[120]).size ≤ 20 := by decide
  simp only [mayB, fr, if_neg ho, writeB, timeB, hn, h0, Bool.and_self, Bool.true_and, decide_eq_true_eq]
  exact ⟨by omega, by omega, hs, trivial⟩
def fills (k : Nat) : List R := (List.range k).map fr
theorem fills_length (k : Nat) : (fills k).length = k := by simp [fills]
theorem fills_succ (k : Nat) : fills (k + 1) = fills k ++ [fr k] := by simp [fills, List.range_succ]

/-- What holds behind some steps: of the law's own variables, too. -/
def Rel2 (W : World) (va ov lv dv wv : Value) (wr : World) : Prop := ∃ (rs : List R) (f : Bool) (l : Int) (down : Bool) (u : Nat) (l' : Int),
  St W rs f l down u va wr ∧ ov = .bool f ∧ lv = .int .i64 l' ∧ (f = true → l' = l ∧ 0 ≤ l ∧ l ≤ 9223372036854775807) ∧ dv = .bool down ∧ wv = .pointer (some ⟨u, 0, none⟩)

/-- One step, as it was handed in. -/
structure Stp where
  wh : Int
  n : Int
  torn : Int
  r : R
/-- The steps lie behind this address. -/
def Puts (w : World) (ao : Option Addr) (xs : List Stp) : Prop :=
  0 < xs.length → ∃ b off, ao = some ⟨b, off, none⟩ ∧ b < w.heap.size ∧ ∀ j (h : j < xs.length),
    (∀ i, i < 9 → w.cell? ⟨b, off + j * 9 + i, none⟩ = [Value.int .i64 xs[j].wh, .int .i64 xs[j].n, .int .i64 xs[j].torn, .int .i64 xs[j].r.c, .int .i64 xs[j].r.n, .int .i64 xs[j].r.o, .int .i64 xs[j].r.v, .string xs[j].r.d, .int .i64 xs[j].r.e][i]?) ∧ xs[j].r.d.size ≤ 9223372036854775807 ∧ xs[j].n ≤ 9223372036854775807

/-- A record's cells from offset o of block b on. -/
def Bxo (w : World) (b o : Nat) (r : R) : Prop := w.cell? ⟨b, o, none⟩ = some (.int .i64 r.c) ∧ w.cell? ⟨b, o + 1, none⟩ = some (.int .i64 r.n) ∧ w.cell? ⟨b, o + 2, none⟩ = some (.int .i64 r.o) ∧ w.cell? ⟨b, o + 3, none⟩ = some (.int .i64 r.v) ∧ w.cell? ⟨b, o + 4, none⟩ = some (.string r.d) ∧ w.cell? ⟨b, o + 5, none⟩ = some (.int .i64 r.e)
theorem Bxo.below {w w' : World} {b o C : Nat} {r : R} (h : Bxo w b o r) (hb : Below C w w') (hC : b < C) : Bxo w' b o r := by
  obtain ⟨h0, h1, h2, h3, h4, h5⟩ := h
  exact ⟨(hb.cell (p := ⟨b, o, none⟩) hC).trans h0, (hb.cell (p := ⟨b, o + 1, none⟩) hC).trans h1, (hb.cell (p := ⟨b, o + 2, none⟩) hC).trans h2, (hb.cell (p := ⟨b, o + 3, none⟩) hC).trans h3, (hb.cell (p := ⟨b, o + 4, none⟩) hC).trans h4, (hb.cell (p := ⟨b, o + 5, none⟩) hC).trans h5⟩
theorem rcells_get : ∀ (rs : List R) (k : Nat) (h : k < rs.length) (i : Nat), i < 6 → (rcells rs)[k * 6 + i]? = rs[k].cells[i]?
  | r :: rs, 0, _, i, hi => by
    have e : rcells (r :: rs) = r.cells ++ rcells rs := by simp [rcells]
    rw [e, List.getElem?_append_left (by rw [R.cells_length]; omega)]
    simp
  | r :: rs, k + 1, h, i, hi => by
    have ih := rcells_get rs k (by simpa using h) i hi
    have e : rcells (r :: rs) = r.cells ++ rcells rs := by simp [rcells]
    rw [e, List.getElem?_append_right (by rw [R.cells_length]; omega), R.cells_length, show (k + 1) * 6 + i - 6 = k * 6 + i by omega, ih]
    simp
/-- The k-th of a row of records. -/
theorem row_rec {w : World} {B k : Nat} {t : TypeId} {v : Value} {rs : List R} (h : w.ownsRow B t 6 v rs.length (rcells rs)) (hk : k < rs.length) : ∃ g c, v = .slice (some ⟨g, 0, none⟩) rs.length c ∧ g < w.heap.size ∧ Bxo w g (k * 6) rs[k] := by
  have hlt := h.lt
  rcases h.2 with ⟨_, h0⟩ | ⟨g, cap, cur, rfl, _⟩
  · omega
  · have hc : ∀ i, i < 6 → w.cell? ⟨g, k * 6 + i, none⟩ = rs[k].cells[i]? := fun i hi => by rw [h.cellAt _ (by omega), rcells_get rs k hk i hi]
    exact ⟨g, cap, rfl, (hlt g rfl).2, hc 0 (by omega), hc 1 (by omega), hc 2 (by omega), hc 3 (by omega), hc 4 (by omega), hc 5 (by omega)⟩

/-- A step's box. -/
def PB (w : World) (b : Nat) (wh n torn : Int) (r : R) : Prop := w.heap[b]? = some (.cells #[.int .i64 wh, .int .i64 n, .int .i64 torn, .int .i64 r.c, .int .i64 r.n, .int .i64 r.o, .int .i64 r.v, .string r.d, .int .i64 r.e] 79)
/-- A step's box, cell by cell. -/
def PBx (w : World) (b : Nat) (wh n torn : Int) (r : R) : Prop := w.cell? ⟨b, 0, none⟩ = some (.int .i64 wh) ∧ w.cell? ⟨b, 1, none⟩ = some (.int .i64 n) ∧ w.cell? ⟨b, 2, none⟩ = some (.int .i64 torn) ∧ w.cell? ⟨b, 3, none⟩ = some (.int .i64 r.c) ∧ w.cell? ⟨b, 4, none⟩ = some (.int .i64 r.n) ∧ w.cell? ⟨b, 5, none⟩ = some (.int .i64 r.o) ∧ w.cell? ⟨b, 6, none⟩ = some (.int .i64 r.v) ∧ w.cell? ⟨b, 7, none⟩ = some (.string r.d) ∧ w.cell? ⟨b, 8, none⟩ = some (.int .i64 r.e) ∧ PB w b wh n torn r
theorem PB.cells {w : World} {b : Nat} {wh n torn : Int} {r : R} (h : PB w b wh n torn r) : PBx w b wh n torn r := by
  refine ⟨?_, ?_, ?_, ?_, ?_, ?_, ?_, ?_, ?_, h⟩ <;> (rw [cell_of_row _ _ _ _ _ _ h]; rfl)
theorem PBx.block {w w' : World} {b : Nat} {wh n torn : Int} {r : R} (h : PBx w b wh n torn r) (hb : w'.heap[b]? = w.heap[b]?) : PBx w' b wh n torn r := by
  obtain ⟨_, _, _, _, _, _, _, _, _, h⟩ := h
  exact PB.cells (hb.trans h)
theorem PBx.lt {w : World} {b : Nat} {wh n torn : Int} {r : R} (h : PBx w b wh n torn r) : b < w.heap.size := by
  obtain ⟨_, _, _, _, _, _, _, _, _, h⟩ := h
  exact (Array.getElem?_eq_some_iff.1 h).1
theorem PBx.oq {w w' : World} {b q : Nat} {wh n torn : Int} {r : R} (h : PBx w b wh n torn r) (ho : Oq q w w') (hq : b ≠ q) : PBx w' b wh n torn r := h.block (ho.block b h.lt hq)
theorem PBx.made (w : World) (wh n torn : Int) (r : R) : PBx (w.alloc (.cells #[.int .i64 wh, .int .i64 n, .int .i64 torn, .int .i64 r.c, .int .i64 r.n, .int .i64 r.o, .int .i64 r.v, .string r.d, .int .i64 r.e] 79)) w.heap.size wh n torn r := PB.cells (heap_alloc_new w _)

/-- Behind the append onto the law's own row, ahead of the Add. -/
theorem St.pre {W w4 w5 : World} {rs : List R} {f down : Bool} {l : Int} {u : Nat} {va : Value} {o : Obj} (h : St W rs f l down u va w4) (hg : (w4.alloc o).grownBy w5 va.ownBlock) :
    DiskIs w5 W.heap.size rs f l ∧ WalIs w5 u W.heap.size rs down ∧ Below W.heap.size W w5 ∧ ∀ (k : Nat) (cs : Array Value) (t : TypeId) (fr : Nat × Nat), w4.heap[k]? = some (Obj.cells cs t fr) → t ≠ 77 → w5.heap[k]? = w4.heap[k]? := by
  have hba := (Below.refl w4.heap.size w4).alloc (Nat.le_refl _) o
  have hs := h.size
  have hB5 : Below (W.heap.size + 1) w4 w5 := (hba.mono (by omega)).grown hg (by simp; omega) (fun k hk => ((h.all.alloc o).lt k hk).1)
  refine ⟨h.disk.below hB5 (by omega), (h.wal.below hba).grown (h.all.alloc o) hg, h.below.trans (hB5.mono (by omega)), fun k cs t fr hk ht => ?_⟩
  have hlt := (Array.getElem?_eq_some_iff.1 hk).1
  have e := hba.block k hlt
  rw [grown_block (h.all.alloc o) hg (e.trans hk) ht, e]
end Go.Proofs.YtbebfliimjjohaaDoor.Wal
