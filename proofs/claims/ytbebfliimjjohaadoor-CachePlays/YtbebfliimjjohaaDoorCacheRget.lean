/-
  The contract of Get of the document's own cache, over the turned program.
-/
import Derived.Test.YtbebfliimjjohaaDoorCacheRput
namespace Go.Proofs.YtbebfliimjjohaaDoor.Cache
open Go.RowKit

/-- The item at a place is used. -/
theorem Row.use {w : World} {B g c k : Nat} {R : List It} {s : Int} (h : Row w B (.slice (some ⟨g, 0, none⟩) R.length c) R) (hk : k < R.length) : Row (w.setCell ⟨g, k * 5 + 4, none⟩ (.int .i64 s)) B (.slice (some ⟨g, 0, none⟩) R.length c) (R.set k ⟨R[k].e, s⟩) := by
  unfold Row
  rw [List.length_set, rcells_set R k s hk]
  exact (World.ownsRow.stored h _ _).1
theorem RefIs.use {w : World} {r B g c k : Nat} {R : List It} {tm s : Int} (h : RefIs w r B (.slice (some ⟨g, 0, none⟩) R.length c) R tm) (hk : k < R.length) : RefIs (w.setCell ⟨g, k * 5 + 4, none⟩ (.int .i64 s)) r B (.slice (some ⟨g, 0, none⟩) R.length c) (R.set k ⟨R[k].e, s⟩) tm := by
  have hlt := h.lt
  have hg := (World.ownsRow.lt h.row g rfl).1
  refine ⟨?_, h.row.use hk, h.lt⟩
  rw [Below.heap_setCell w ⟨g, k * 5 + 4, none⟩ _ r (by show r ≠ g; omega)]
  exact h.blk

set_option maxHeartbeats 2000000 in
set_option maxRecDepth 100000 in
theorem rget_miss (r B : Nat) (o : Int) (v : Value) (R : List It) (tm : Int) (w : World) (h : RefIs w r B v R tm) (h0 : 0 ≤ tm) (ht : tm + 1 < 4611686018427387904) (hl : R.length ≤ 6) (hn : ∀ i (hi : i < R.length), R[i].e.o ≠ o) :
    Calls Tryd.prog 53 #[tp r, .int .i64 o] w fun e w' => e = .returned (.tuple #[.agg #[.string ⟨#[]⟩, .int .i64 0], .int .i64 0, .int .i64 7]) ∧ RefIs w' r B v R (tm + 1) ∧ Ob [r] w w' := by
  have hrw := h.ins
  have ha : RefIs ((w.setCell ⟨r, 1, none⟩ (.int .i64 (tm + 1))).alloc (.cells #[.string ⟨#[]⟩, .int .i64 0] 114)) r B v R (tm + 1) := (h.setTime (tm + 1)).below ((Below.refl _ _).alloc (Nat.le_refl _) _)
  have hes : (w.setCell ⟨r, 1, none⟩ (.int .i64 (tm + 1))).heap.size = w.heap.size := by simp
  have hv := VB.made (w.setCell ⟨r, 1, none⟩ (.int .i64 (tm + 1))) ⟨#[]⟩ 0
  rw [hes] at hv
  have hO := ((Ob.refl [r] w).setCell (q := r) (i := 1) (by simp) (.int .i64 (tm + 1))).alloc (.cells #[.string ⟨#[]⟩, .int .i64 0] 114)
  have hgw : Hid (∀ g, v.ownBlock = some g → g < w.heap.size) := fun g hg => (World.ownsRow.lt h.row g hg).2
  have hc0 := h.c0
  have hc1 := h.c1
  have hf1 := h.free 1
  have hw1 : IntKind.i64.wrap (tm + 1) = tm + 1 := by
    simp only [IntKind.wrap, IntKind.bits, IntKind.signed]
    simp
    omega
  obtain ⟨ao, c, rfl, hrow⟩ := ha.row.shape
  clear h
  go_enter Tryd.func53, Tryd.ntmps53
  go_wp2_with fail
  generalize (w.setCell ⟨r, 1, none⟩ (.int .i64 (tm + 1))).alloc (.cells #[.string ⟨#[]⟩, .int .i64 0] 114) = w1 at ha hv hO hrow ⊢
  clear hc0 hc1 hf1 hes
  go_loopw [21] (fun i wr => ∃ k : Nat, k ≤ R.length ∧ i = .int .i64 k ∧ Below w1.heap.size w1 wr) (fun i _ => R.length - (intOf i).toNat)
  case atStart => exact ⟨0, by omega, rfl, Below.refl _ _⟩
  case round =>
    obtain ⟨k, hk, rfl, hbl⟩ := hrel
    by_cases hlt : k < R.length
    · have hBr := hbl.size
      obtain ⟨g, rfl, _, _, hgl, hcell⟩ := hrow (by omega)
      have e0 := (hbl.cell (p := ⟨g, k * 5 + 0, none⟩) hgl).trans (hcell k 0 hlt (by omega))
      have e1 := (hbl.cell (p := ⟨g, k * 5 + 1, none⟩) hgl).trans (hcell k 1 hlt (by omega))
      have e2 := (hbl.cell (p := ⟨g, k * 5 + 2, none⟩) hgl).trans (hcell k 2 hlt (by omega))
      have e3 := (hbl.cell (p := ⟨g, k * 5 + 3, none⟩) hgl).trans (hcell k 3 hlt (by omega))
      have e4 := (hbl.cell (p := ⟨g, k * 5 + 4, none⟩) hgl).trans (hcell k 4 hlt (by omega))
      simp only [icells, List.getElem?_cons_zero, List.getElem?_cons_succ, Nat.add_zero] at e0 e1 e2 e3 e4
      have hlt' : (k : Int) < (R.length : Int) := by omega
      have hk0 : (0 : Int) ≤ (k : Int) := by omega
      have hne := hn k hlt
      obtain ⟨x, hx⟩ : ∃ x, R[k] = x := ⟨_, rfl⟩
      rw [hx] at e0 e1 e2 e3 e4 hne
      have hno : (x.e.o == o) = false := by simpa using hne
      have hbl' := hbl.alloc hBr (iobj x)
      clear hx hrow hcell ha hv hO hn hbl hne
      go_wp2_with fail
      go_roundw
      case rel => exact ⟨k + 1, by omega, by go_num, hbl'⟩
      case measure => simp [intOf]; omega
    · obtain rfl : k = R.length := by omega
      have hlt' : ¬ (R.length : Int) < (R.length : Int) := by omega
      have hRr := ha.below hbl
      have hvr := hv.ob (bs := []) (Ob.of_below hbl) (by simp)
      have HO : Hid (Ob [r] w wr) := hO.trans (Ob.of_below hbl)
      obtain ⟨b0, b1⟩ := hvr.cells
      have f0 := hvr.free 0
      have f1 := hvr.free 1
      have hvp : VB ((wr.setCell ⟨w.heap.size, 0, none⟩ (.string ⟨#[]⟩)).setCell ⟨w.heap.size, 1, none⟩ (.int .i64 0)) w.heap.size ⟨#[]⟩ 0 := hvr.put
      have hOp : Ob [w.heap.size] wr ((wr.setCell ⟨w.heap.size, 0, none⟩ (.string ⟨#[]⟩)).setCell ⟨w.heap.size, 1, none⟩ (.int .i64 0)) := ((Ob.refl _ _).setCell (by simp) _).setCell (by simp) _
      clear ha hv hO hrow hn hbl hvr
      go_wp2_with fail
      generalize (wr.setCell ⟨w.heap.size, 0, none⟩ (.string ⟨#[]⟩)).setCell ⟨w.heap.size, 1, none⟩ (.int .i64 0) = w3 at hvp hOp ⊢
      obtain ⟨c0, c1⟩ := hvp.cells
      have hR3 := hRr.ob hOp (by simp; omega) (fun g hg => by have := hgw.out g hg; simp; omega)
      refine bodyPost_ret (v := .tuple #[.agg #[.string ⟨#[]⟩, .int .i64 0], .int .i64 0, .int .i64 7]) (by simp [results, Tryd.results53, go_sem, c0, c1]) rfl ⟨rfl, hR3, ?_⟩
      exact Ob.new (q := w.heap.size) ((HO.out.mono (by simp)).trans (hOp.mono (by simp))) (Nat.le_refl _)
set_option maxHeartbeats 2000000 in
set_option maxRecDepth 100000 in
theorem rget_hit (r B : Nat) (o : Int) (v : Value) (R : List It) (tm : Int) (w : World) (h : RefIs w r B v R tm) (h0 : 0 ≤ tm) (ht : tm + 1 < 4611686018427387904) (hl : R.length ≤ 6) (n : Nat) (hnl : n < R.length) (hno : R[n].e.o = o) (h1 : R.Pairwise fun a b => a.e.o ≠ b.e.o) :
    Calls Tryd.prog 53 #[tp r, .int .i64 o] w fun e w' => e = .returned (.tuple #[.agg #[.string R[n].e.d, .int .i64 R[n].e.v], .int .i64 R[n].e.u, .int .i64 0]) ∧ RefIs w' r B v (R.set n ⟨R[n].e, tm + 1⟩) (tm + 1) ∧ ∃ g, v.ownBlock = some g ∧ Ob [r, g] w w' := by
  have hrw := h.ins
  have ha : RefIs ((w.setCell ⟨r, 1, none⟩ (.int .i64 (tm + 1))).alloc (.cells #[.string ⟨#[]⟩, .int .i64 0] 114)) r B v R (tm + 1) := (h.setTime (tm + 1)).below ((Below.refl _ _).alloc (Nat.le_refl _) _)
  have hes : (w.setCell ⟨r, 1, none⟩ (.int .i64 (tm + 1))).heap.size = w.heap.size := by simp
  have hv := VB.made (w.setCell ⟨r, 1, none⟩ (.int .i64 (tm + 1))) ⟨#[]⟩ 0
  rw [hes] at hv
  have hO := ((Ob.refl [r] w).setCell (q := r) (i := 1) (by simp) (.int .i64 (tm + 1))).alloc (.cells #[.string ⟨#[]⟩, .int .i64 0] 114)
  have hgw : Hid (∀ g, v.ownBlock = some g → g < w.heap.size) := fun g hg => (World.ownsRow.lt h.row g hg).2
  have hc0 := h.c0
  have hc1 := h.c1
  have hf1 := h.free 1
  have hw1 : IntKind.i64.wrap (tm + 1) = tm + 1 := by
    simp only [IntKind.wrap, IntKind.bits, IntKind.signed]
    simp
    omega
  obtain ⟨ao, c, rfl, hrow⟩ := ha.row.shape
  clear h
  go_enter Tryd.func53, Tryd.ntmps53
  go_wp2_with fail
  generalize (w.setCell ⟨r, 1, none⟩ (.int .i64 (tm + 1))).alloc (.cells #[.string ⟨#[]⟩, .int .i64 0] 114) = w1 at ha hv hO hrow ⊢
  clear hc0 hc1 hf1 hes
  go_loopw [21] (fun i wr => ∃ k : Nat, k ≤ n ∧ i = .int .i64 k ∧ Below w1.heap.size w1 wr) (fun i _ => R.length - (intOf i).toNat)
  case atStart => exact ⟨0, by omega, rfl, Below.refl _ _⟩
  case round =>
    obtain ⟨k, hk, rfl, hbl⟩ := hrel
    have hlt : k < R.length := by omega
    by_cases hkn : k < n
    · have hBr := hbl.size
      obtain ⟨g, rfl, _, _, hgl, hcell⟩ := hrow (by omega)
      have e0 := (hbl.cell (p := ⟨g, k * 5 + 0, none⟩) hgl).trans (hcell k 0 hlt (by omega))
      have e1 := (hbl.cell (p := ⟨g, k * 5 + 1, none⟩) hgl).trans (hcell k 1 hlt (by omega))
      have e2 := (hbl.cell (p := ⟨g, k * 5 + 2, none⟩) hgl).trans (hcell k 2 hlt (by omega))
      have e3 := (hbl.cell (p := ⟨g, k * 5 + 3, none⟩) hgl).trans (hcell k 3 hlt (by omega))
      have e4 := (hbl.cell (p := ⟨g, k * 5 + 4, none⟩) hgl).trans (hcell k 4 hlt (by omega))
      simp only [icells, List.getElem?_cons_zero, List.getElem?_cons_succ, Nat.add_zero] at e0 e1 e2 e3 e4
      have hlt' : (k : Int) < (R.length : Int) := by omega
      have hk0 : (0 : Int) ≤ (k : Int) := by omega
      have hne : R[k].e.o ≠ o := fun e => List.pairwise_iff_getElem.1 h1 k n hlt hnl hkn (e.trans hno.symm)
      obtain ⟨x, hx⟩ : ∃ x, R[k] = x := ⟨_, rfl⟩
      rw [hx] at e0 e1 e2 e3 e4 hne
      have hnx : (x.e.o == o) = false := by simpa using hne
      have hbl' := hbl.alloc hBr (iobj x)
      clear hx hrow hcell ha hv hO hbl hne h1 hno
      go_wp2_with fail
      go_roundw
      case rel => exact ⟨k + 1, by omega, by go_num, hbl'⟩
      case measure => simp [intOf]; omega
    · obtain rfl : k = n := by omega
      have hBr := hbl.size
      obtain ⟨g, rfl, hown, hBg, hgl, hcell⟩ := hrow (by omega)
      have e0 := (hbl.cell (p := ⟨g, k * 5 + 0, none⟩) hgl).trans (hcell k 0 hlt (by omega))
      have e1 := (hbl.cell (p := ⟨g, k * 5 + 1, none⟩) hgl).trans (hcell k 1 hlt (by omega))
      have e2 := (hbl.cell (p := ⟨g, k * 5 + 2, none⟩) hgl).trans (hcell k 2 hlt (by omega))
      have e3 := (hbl.cell (p := ⟨g, k * 5 + 3, none⟩) hgl).trans (hcell k 3 hlt (by omega))
      have e4 := (hbl.cell (p := ⟨g, k * 5 + 4, none⟩) hgl).trans (hcell k 4 hlt (by omega))
      simp only [icells, List.getElem?_cons_zero, List.getElem?_cons_succ, Nat.add_zero] at e0 e1 e2 e3 e4
      have hlt' : (k : Int) < (R.length : Int) := by omega
      have hk0 : (0 : Int) ≤ (k : Int) := by omega
      obtain ⟨x, hx⟩ : ∃ x, R[k] = x := ⟨_, rfl⟩
      rw [hx] at e0 e1 e2 e3 e4 hno
      have HX : Hid (R[k] = x) := hx
      subst hno
      have hgw' := hgw.out g hown
      have hRr := (ha.below hbl).below ((Below.refl _ wr).alloc (Nat.le_refl _) (iobj x))
      have hvr := (hv.ob (bs := []) (Ob.of_below hbl) (by simp)).ob (bs := []) ((Ob.refl _ wr).alloc (iobj x)) (by simp)
      have hib := IB.made wr x
      have hOr : Ob [r] w (wr.alloc (iobj x)) := (hO.trans (Ob.of_below hbl)).alloc _
      have hpq : w.heap.size < wr.heap.size := by have := hv.lt; omega
      unfold iobj at hRr hvr hib hOr
      clear hrow hcell ha hv hO hbl h1 hx
      go_wp2_with fail
      generalize wr.alloc (.cells #[.int .i64 x.e.o, .string x.e.d, .int .i64 x.e.v, .int .i64 x.e.u, .int .i64 x.s] 167) = w3 at hRr hvr hib hOr ⊢
      obtain ⟨q, hq⟩ : ∃ q, wr.heap.size = q := ⟨_, rfl⟩
      rw [hq] at hib hpq ⊢
      clear e0 e1 e2 e3 e4
      have c0 := hRr.c0
      have c1 := hRr.c1
      have hgf := World.ownsRow.frozenAt hRr.row (k * 5 + 4)
      have hgc : w3.cell? ⟨g, k * 5 + 4, none⟩ = some (.int .i64 x.s) := by
        rw [World.ownsRow.cellAt hRr.row _ (by omega), rcells_get R k 4 hlt (by omega), HX.out]
        rfl
      have hR4 : RefIs (w3.setCell ⟨g, k * 5 + 4, none⟩ (.int .i64 (tm + 1))).drew r B _ _ _ := (hRr.use (s := tm + 1) hlt).drew
      have hO4 : Ob [r, g] w (w3.setCell ⟨g, k * 5 + 4, none⟩ (.int .i64 (tm + 1))).drew := ((Ob.mono hOr (by simp)).setCell (by simp) _).drew
      have hO4' : Ob [g] w3 (w3.setCell ⟨g, k * 5 + 4, none⟩ (.int .i64 (tm + 1))).drew := ((Ob.refl _ _).setCell (by simp) _).drew
      have hv4 := hvr.ob hO4' (by simp; omega)
      have hi4 := hib.ob hO4' (by simp; omega)
      clear hRr hOr hvr hib hO4'
      go_still_tail 11, (by kernel_rfl)
      go_wp2_with fail
      generalize (w3.setCell ⟨g, k * 5 + 4, none⟩ (.int .i64 (tm + 1))).drew = w4 at hR4 hO4 hv4 hi4 ⊢
      clear c0 c1 hgf hgc
      obtain ⟨p, hp⟩ : ∃ p, w.heap.size = p := ⟨_, rfl⟩
      rw [hp] at hv4 hpq hgw' hrw ⊢
      have hne : p ≠ q := by omega
      obtain ⟨q0, q1, q2, q3, q4⟩ := hi4.cells
      obtain ⟨b0, b1⟩ := hv4.cells
      have f0 := hv4.free 0
      have f1 := hv4.free 1
      have hvp : VB ((w4.setCell ⟨p, 0, none⟩ (.string x.e.d)).setCell ⟨p, 1, none⟩ (.int .i64 x.e.v)) p x.e.d x.e.v := VB.put hv4
      have hOp : Ob [p] w4 ((w4.setCell ⟨p, 0, none⟩ (.string x.e.d)).setCell ⟨p, 1, none⟩ (.int .i64 x.e.v)) := ((Ob.refl _ _).setCell (by simp) _).setCell (by simp) _
      clear hv4 hi4
      go_region_held3 (fun w' => w'.cell? ⟨q, 1, none⟩ = some (.string x.e.d) ∧ w'.cell? ⟨q, 2, none⟩ = some (.int .i64 x.e.v) ∧ w'.cell? ⟨q, 3, none⟩ = some (.int .i64 x.e.u)) (go_keep) (fail)
      go_wp2_with fail
      generalize (w4.setCell ⟨p, 0, none⟩ (.string x.e.d)).setCell ⟨p, 1, none⟩ (.int .i64 x.e.v) = w5 at hvp hOp ⊢
      obtain ⟨c0, c1⟩ := hvp.cells
      have hR5 := (hR4.ob hOp (by simp; omega) (fun a ha => by have := hgw.out a ha; simp; omega)).drew
      have hO5 : Ob [r, g] w w5.drew := (Ob.new (q := p) ((hO4.mono (by simp)).trans (hOp.mono (by simp))) (by omega)).drew
      rw [HX.out] at hR5 ⊢
      exact bodyPost_ret (v := .tuple #[.agg #[.string x.e.d, .int .i64 x.e.v], .int .i64 x.e.u, .int .i64 0]) (by simp [results, Tryd.results53, go_sem, c0, c1]) rfl ⟨rfl, hR5, g, hown, hO5⟩
end Go.Proofs.YtbebfliimjjohaaDoor.Cache
