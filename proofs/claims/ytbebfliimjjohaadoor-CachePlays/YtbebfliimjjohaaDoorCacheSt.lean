/-
  The state of the law's play on a cache.
-/
import Derived.Test.YtbebfliimjjohaaDoorCacheRget
import Derived.Test.YtbebfliimjjohaaDoorBare
import Derived.Deep.Cut
import Derived.Deep.CutRange
import Derived.Deep.CutBlock
import Derived.Laws.StructEq
namespace Go.Proofs.YtbebfliimjjohaaDoor.Cache
open Go.RowKit

/-- The state: both caches, by the world's blocks. -/
structure St (W : World) (t r B : Nat) (P R : List It) (v : Value) (tm : Int) (n : Nat) (w : World) : Prop where
  cac : CacheIs w t (P.map (·.e)) (P.map (·.e)).length
  ref : RefIs w r B v R tm
  perm : P.Perm R
  ord : Ord P tm
  len : P.length ≤ 6
  t0 : 0 ≤ tm
  tn : tm ≤ n
  below : Below W.heap.size W w
  ge : W.heap.size ≤ t ∧ W.heap.size ≤ r
  lt : t < B
  ne : t ≠ r
  le : B ≤ w.heap.size

theorem St.own {W w : World} {t r B n : Nat} {P R : List It} {v : Value} {tm : Int} (h : St W t r B P R v tm n w) : ∀ g, v.ownBlock = some g → B ≤ g ∧ g < w.heap.size := fun g hg => World.ownsRow.lt h.ref.row g hg
theorem St.rlen {W w : World} {t r B n : Nat} {P R : List It} {v : Value} {tm : Int} (h : St W t r B P R v tm n w) : R.length ≤ 6 := by have := h.len; have := h.perm.length_eq; omega
theorem St.other {W w w' : World} {t r B n : Nat} {P R : List It} {v : Value} {tm : Int} (h : St W t r B P R v tm n w) (hb : Below w.heap.size w w') : St W t r B P R v tm n w' :=
  ⟨h.cac.below hb, h.ref.below hb, h.perm, h.ord, h.len, h.t0, h.tn, h.below.trans (hb.mono h.below.size), h.ge, h.lt, h.ne, Nat.le_trans h.le hb.size⟩
theorem St.drewN {W w : World} {t r B n : Nat} {P R : List It} {v : Value} {tm : Int} (h : St W t r B P R v tm n w) (k : Nat) : St W t r B P R v tm n (w.drewN k) :=
  ⟨h.cac.drewN k, h.ref.drewN k, h.perm, h.ord, h.len, h.t0, h.tn, below_drewN h.below k, h.ge, h.lt, h.ne, h.le⟩
theorem St.drew {W w : World} {t r B n : Nat} {P R : List It} {v : Value} {tm : Int} (h : St W t r B P R v tm n w) : St W t r B P R v tm n w.drew :=
  ⟨h.cac.drew, h.ref.drew, h.perm, h.ord, h.len, h.t0, h.tn, h.below.drew, h.ge, h.lt, h.ne, h.le⟩
theorem St.more {W w : World} {t r B n : Nat} {P R : List It} {v : Value} {tm : Int} (h : St W t r B P R v tm n w) : St W t r B P R v tm (n + 1) w :=
  ⟨h.cac, h.ref, h.perm, h.ord, h.len, h.t0, by have := h.tn; omega, h.below, h.ge, h.lt, h.ne, h.le⟩

/-- What holds behind some steps. -/
def Rel (W : World) (t r B n : Nat) (w : World) : Prop := ∃ (P R : List It) (v : Value) (tm : Int), St W t r B P R v tm n w
theorem St.rel {W w : World} {t r B n : Nat} {P R : List It} {v : Value} {tm : Int} (h : St W t r B P R v tm n w) : Rel W t r B n w := ⟨P, R, v, tm, h⟩

/-- One step, as it was handed in. -/
structure Stp where
  wh : Int
  o : Int
  u : Int
  d : ByteArray
  v : Int
def Stp.cells (x : Stp) : List Value := [.int .i64 x.wh, .int .i64 x.o, .int .i64 x.u, .string x.d, .int .i64 x.v]
/-- The steps lie behind this address. -/
def Steps (w : World) (ao : Option Addr) (xs : List Stp) : Prop :=
  0 < xs.length → ∃ b off, ao = some ⟨b, off, none⟩ ∧ b < w.heap.size ∧ ∀ j (h : j < xs.length) i, i < 5 → w.cell? ⟨b, off + j * 5 + i, none⟩ = xs[j].cells[i]?

/-- A step's box. -/
def UB (w : World) (b : Nat) (wh o u : Int) (d : ByteArray) (v : Int) : Prop := w.heap[b]? = some (.cells #[.int .i64 wh, .int .i64 o, .int .i64 u, .string d, .int .i64 v] 125)
theorem UB.cells {w : World} {b : Nat} {wh o u v : Int} {d : ByteArray} (h : UB w b wh o u d v) : w.cell? ⟨b, 0, none⟩ = some (.int .i64 wh) ∧ w.cell? ⟨b, 1, none⟩ = some (.int .i64 o) ∧ w.cell? ⟨b, 2, none⟩ = some (.int .i64 u) ∧ w.cell? ⟨b, 3, none⟩ = some (.string d) ∧ w.cell? ⟨b, 4, none⟩ = some (.int .i64 v) := by
  refine ⟨?_, ?_, ?_, ?_, ?_⟩ <;> (rw [cell_of_row _ _ _ _ _ _ h]; rfl)
theorem UB.lt {w : World} {b : Nat} {wh o u v : Int} {d : ByteArray} (h : UB w b wh o u d v) : b < w.heap.size := (Array.getElem?_eq_some_iff.1 h).1
theorem UB.below {w w' : World} {b : Nat} {wh o u v : Int} {d : ByteArray} (h : UB w b wh o u d v) (hb : Below w.heap.size w w') : UB w' b wh o u d v := (hb.block b h.lt).trans h
theorem UB.ob {w w' : World} {b : Nat} {wh o u v : Int} {d : ByteArray} {bs : List Nat} (h : UB w b wh o u d v) (hb : Ob bs w w') (hn : b ∉ bs) : UB w' b wh o u d v := (hb.block b h.lt hn).trans h
theorem UB.made (w : World) (wh o u : Int) (d : ByteArray) (v : Int) : UB (w.alloc (.cells #[.int .i64 wh, .int .i64 o, .int .i64 u, .string d, .int .i64 v] 125)) w.heap.size wh o u d v := heap_alloc_new w _

theorem map_pairwise {P : List It} {tm : Int} (h : Ord P tm) : (P.map (·.e)).Pairwise fun a b => a.o ≠ b.o := h.objs

/-- The document's cache behind a call of the program's. -/
theorem St.ref1 {W w w1 : World} {t r B n : Nat} {P R : List It} {v : Value} {tm : Int} (h : St W t r B P R v tm n w) (hO : Ob [t] w w1) : RefIs w1 r B v R tm :=
  h.ref.ob hO (by have := h.ne; simp; omega) (fun g hg => by have := (h.own g hg).1; have := h.lt; simp; omega)
/-- The program's cache behind a call of the document's. -/
theorem St.cac1 {W w w1 : World} {t r B n : Nat} {P R : List It} {v : Value} {tm : Int} {bs : List Nat} (h : St W t r B P R v tm n w) (hO : Ob bs w w1) (hbs : ∀ k ∈ bs, k = r ∨ B ≤ k) : CacheIs w1 t (P.map (·.e)) (P.map (·.e)).length :=
  h.cac.ob hO (fun hk => by have := h.ne; have := h.lt; rcases hbs t hk with q | q <;> omega)
theorem St.below2 {W w w1 w2 : World} {t r B n : Nat} {P R : List It} {v : Value} {tm : Int} {cs bs : List Nat} (h : St W t r B P R v tm n w) (hO : Ob cs w w1) (hP : Ob bs w1 w2) (ha : ∀ k ∈ cs, W.heap.size ≤ k) (hb : ∀ k ∈ bs, W.heap.size ≤ k) : Below W.heap.size W w2 :=
  (h.below.trans (hO.below ha h.below.size)).trans (hP.below hb (Nat.le_trans h.below.size hO.size))

/-- A value is put. -/
theorem St.put {W w w1 w2 : World} {t r B n : Nat} {P R R' : List It} {v v' : Value} {tm : Int} {e : E} (h : St W t r B P R v tm n w) (hC : CacheIs w1 t (putL (P.map (·.e)) e) (putL (P.map (·.e)) e).length) (hO : Ob [t] w w1) (hR : RefIs w2 r B v' R' (tm + 1)) (hp : (putP P e tm).Perm R') (hQ : Ob [r] w1 w2) : Rel W t r B (n + 1) w2 := by
  obtain ⟨g1, g2⟩ := h.ge
  refine ⟨putP P e tm, R', v', tm + 1, ?_, hR, hp, putP_ord h.ord h.t0, putP_le h.len, by have := h.t0; omega, by have := h.tn; omega, h.below2 hO hQ (by simpa using g1) (by simpa using g2), h.ge, h.lt, h.ne, Nat.le_trans h.le (Nat.le_trans hO.size hQ.size)⟩
  rw [putP_map]
  exact hC.ob hQ (by have := h.ne; simp; omega)
/-- A value is taken out. -/
theorem St.drop {W w w1 w2 : World} {t r B n : Nat} {P R : List It} {v v' : Value} {tm o : Int} (h : St W t r B P R v tm n w) (hC : CacheIs w1 t (era o (P.map (·.e))) (era o (P.map (·.e))).length) (hO : Ob [t] w w1) (hR : RefIs w2 r B v' (R.filter (others o)) tm) (hQ : Ob [r] w1 w2) : Rel W t r B (n + 1) w2 := by
  obtain ⟨g1, g2⟩ := h.ge
  refine ⟨P.filter (others o), _, v', tm, ?_, hR, h.perm.filter _, h.ord.filter _, Nat.le_trans (List.length_filter_le _ _) h.len, h.t0, by have := h.tn; omega, h.below2 hO hQ (by simpa using g1) (by simpa using g2), h.ge, h.lt, h.ne, Nat.le_trans h.le (Nat.le_trans hO.size hQ.size)⟩
  rw [map_filter]
  exact hC.ob hQ (by have := h.ne; simp; omega)
/-- All are taken out. -/
theorem St.clear {W w w1 : World} {t r B n : Nat} {P R : List It} {v : Value} {tm : Int} (h : St W t r B P R v tm n w) (hC : CacheIs w1 t [] (([] : List E).length : Nat)) (hO : Ob [t] w w1) : Rel W t r B (n + 1) (w1.setCell ⟨r, 0, none⟩ (.slice none 0 0)) := by
  obtain ⟨g1, g2⟩ := h.ge
  have hQ : Ob [r] w1 (w1.setCell ⟨r, 0, none⟩ (.slice none 0 0)) := (Ob.refl _ _).setCell (by simp) _
  exact ⟨[], [], _, tm, hC.ob hQ (by have := h.ne; simp; omega), RefIs.laid (h.ref1 hO).blk (Row.nil _ _) h.ref.lt, List.Perm.refl _, Ord.nil _, by simp, h.t0, by have := h.tn; omega, h.below2 hO hQ (by simpa using g1) (by simpa using g2), h.ge, h.lt, h.ne, Nat.le_trans h.le (Nat.le_trans hO.size hQ.size)⟩
/-- A value that is there is used. -/
theorem putP_used {P : List It} {x : It} {tm : Int} (hx : x ∈ P) (hl : P.length ≤ 6) : putP P x.e tm = P.filter (others x.e.o) ++ [⟨x.e, tm + 1⟩] := by
  have : (P.filter (others x.e.o)).length < P.length := List.length_filter_lt_length_iff_exists.2 ⟨x, hx, by simp [others, oth]⟩
  unfold putP
  rw [if_neg (by omega)]
theorem St.hit {W w w1 w2 : World} {t r B n i k g : Nat} {P R : List It} {v : Value} {tm : Int} (h : St W t r B P R v tm n w) (hi : i < R.length) (hk : k < (P.map (·.e)).length) (he : (P.map (·.e))[k] = R[i].e)
    (hR : RefIs w1 r B v (R.set i ⟨R[i].e, tm + 1⟩) (tm + 1)) (hg : v.ownBlock = some g) (hO : Ob [r, g] w w1) (hC : CacheIs w2 t (putL (P.map (·.e)) (P.map (·.e))[k]) (putL (P.map (·.e)) (P.map (·.e))[k]).length) (hQ : Ob [t] w1 w2) : Rel W t r B (n + 1) w2 := by
  obtain ⟨g1, g2⟩ := h.ge
  have hgB := (h.own g hg).1
  have hlt := h.lt
  have hx : R[i] ∈ P := h.perm.mem_iff.2 (List.getElem_mem hi)
  have hu := putP_used (tm := tm) hx h.len
  refine ⟨putP P R[i].e tm, _, v, tm + 1, ?_, hR.ob hQ (by have := h.ne; simp; omega) (fun a ha => by rw [hg] at ha; injection ha with ha; subst ha; simp; omega), ?_, putP_ord h.ord h.t0, putP_le h.len, by have := h.t0; omega, by have := h.tn; omega, h.below2 hO hQ (by simp; omega) (by simpa using g1), h.ge, h.lt, h.ne, Nat.le_trans h.le (Nat.le_trans hO.size hQ.size)⟩
  · rw [putP_map, ← he]
    exact hC
  · rw [hu]
    exact used h.ord h.perm hi
/-- A value that is not there is asked for. -/
theorem St.miss {W w w1 w2 : World} {t r B n : Nat} {P R : List It} {v : Value} {tm : Int} (h : St W t r B P R v tm n w) (hR : RefIs w1 r B v R (tm + 1)) (hO : Ob [r] w w1) (hb : Below w1.heap.size w1 w2) : Rel W t r B (n + 1) w2 := by
  obtain ⟨g1, g2⟩ := h.ge
  have hC := h.cac1 hO (by simp)
  exact ⟨P, R, v, tm + 1, hC.below hb, hR.below hb, h.perm, h.ord.mono (by omega), h.len, by have := h.t0; omega, by have := h.tn; omega, h.below2 hO (Ob.of_below (bs := []) hb) (by simpa using g2) (by simp), h.ge, h.lt, h.ne, Nat.le_trans h.le (Nat.le_trans hO.size hb.size)⟩
/-- Where a value is, if it is there. -/
theorem St.where {W w : World} {t r B n : Nat} {P R : List It} {v : Value} {tm : Int} (h : St W t r B P R v tm n w) (o : Int) :
    (∃ i k, ∃ (hi : i < R.length) (hk : k < (P.map (·.e)).length), (P.map (·.e))[k] = R[i].e ∧ R[i].e.o = o) ∨ ((∀ x ∈ P.map (·.e), x.o ≠ o) ∧ ∀ i (hi : i < R.length), R[i].e.o ≠ o) := by
  by_cases hex : ∃ x ∈ P, x.e.o = o
  · obtain ⟨x, hx, ho⟩ := hex
    obtain ⟨i, hi, hix⟩ := List.getElem_of_mem (h.perm.mem_iff.1 hx)
    obtain ⟨k, hk, hkx⟩ := List.getElem_of_mem hx
    exact .inl ⟨i, k, hi, by simpa using hk, by rw [List.getElem_map, hkx, hix], by rw [hix]; exact ho⟩
  · refine .inr ⟨fun x hx ho => ?_, fun i hi ho => hex ⟨R[i], h.perm.mem_iff.2 (List.getElem_mem hi), ho⟩⟩
    obtain ⟨y, hy, rfl⟩ := List.mem_map.1 hx
    exact hex ⟨y, hy, ho⟩
theorem St.rone {W w : World} {t r B n : Nat} {P R : List It} {v : Value} {tm : Int} (h : St W t r B P R v tm n w) : R.Pairwise fun a b => a.e.o ≠ b.e.o := h.perm.pairwise h.ord.one (fun hab e => hab e.symm)
end Go.Proofs.YtbebfliimjjohaaDoor.Cache
