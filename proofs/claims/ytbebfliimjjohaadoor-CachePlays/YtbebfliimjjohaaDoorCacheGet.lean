/-
  The contract of a cache's Get, over the turned program.
-/
import Derived.Test.YtbebfliimjjohaaDoorCachePut
namespace Go.Proofs.YtbebfliimjjohaaDoor.Cache
open Go.RowKit

theorem found_none {o : Int} {L : List E} {i : Int} (h : Found o L i) (hn : ∀ x ∈ L, x.o ≠ o) : i = -1 := by
  rcases h with ⟨rfl, _⟩ | ⟨k, hk, _, ho⟩
  · rfl
  · exact absurd ho (hn _ (List.getElem_mem hk))
theorem found_at {o : Int} {L : List E} {i : Int} {k : Nat} (h : Found o L i) (h1 : L.Pairwise fun a b => a.o ≠ b.o) (hk : k < L.length) (ho : L[k].o = o) : i = (k : Int) := by
  rcases h with ⟨_, hn⟩ | ⟨j, hj, rfl, hjo⟩
  · exact absurd ho (hn _ (List.getElem_mem hk))
  · have hp := List.pairwise_iff_getElem.1 h1
    rcases Nat.lt_trichotomy j k with q | q | q
    · exact absurd (hjo.trans ho.symm) (hp j k hj hk q)
    · rw [q]
    · exact absurd (ho.trans hjo.symm) (hp k j hk hj q)

def vcells (d : ByteArray) (v : Int) : List Value := [.string d, .int .i64 v]
/-- A value is laid into a box. -/
theorem VB.put {w : World} {q : Nat} {d d' : ByteArray} {v v' : Int} (h : VB w q d v) : VB (w.setCells q 0 (vcells d' v')) q d' v' := heap_ow (vcells d' v') 0 w [.string d, .int .i64 v] h (by simp [vcells])
theorem VB.free {w : World} {q : Nat} {d : ByteArray} {v : Int} (h : VB w q d v) (i : Nat) : w.frozen? ⟨q, i, none⟩ = false := by
  unfold VB at h
  simp [World.frozen?, h]

set_option maxHeartbeats 1000000 in
set_option maxRecDepth 100000 in
theorem get_miss (o : Int) (t : Nat) (L : List E) (w : World) (h : CacheIs w t L L.length) (hn : ∀ x ∈ L, x.o ≠ o) :
    Calls Tryd.prog 54 #[tp t, .int .i64 o] w fun e w' => e = .returned (.tuple #[.agg #[.string ⟨#[]⟩, .int .i64 0], .int .i64 0, .iface 22 (.int .i64 7)]) ∧ Below w.heap.size w w' := by
  have ha := h.alloc (.cells #[.string ⟨#[]⟩, .int .i64 0] 114)
  have hv := VB.made w ⟨#[]⟩ 0
  have hb : Below w.heap.size w (w.alloc (.cells #[.string ⟨#[]⟩, .int .i64 0] 114)) := (Below.refl _ _).alloc (Nat.le_refl _) _
  clear h
  go_enter Tryd.func54, Tryd.ntmps54
  go_wp2_with fail
  generalize w.alloc (.cells #[.string ⟨#[]⟩, .int .i64 0] 114) = w1 at ha hv hb ⊢
  refine (find_any o t L w1 ha).mono ?_
  rintro e w2 ⟨i, rfl, hF, hb2⟩
  obtain rfl := found_none hF hn
  have hv2 := hv.ob (bs := []) (Ob.of_below hb2) (by simp)
  have HB : Hid (Below w.heap.size w w2) := hb.trans (hb2.mono hb.size)
  clear hF hn ha hv hb hb2
  obtain ⟨b0, b1⟩ := hv2.cells
  have f0 := hv2.free 0
  have f1 := hv2.free 1
  have hvp : VB ((w2.setCell ⟨w.heap.size, 0, none⟩ (.string ⟨#[]⟩)).setCell ⟨w.heap.size, 1, none⟩ (.int .i64 0)) w.heap.size ⟨#[]⟩ 0 := hv2.put
  have hO : Ob [w.heap.size] w2 ((w2.setCell ⟨w.heap.size, 0, none⟩ (.string ⟨#[]⟩)).setCell ⟨w.heap.size, 1, none⟩ (.int .i64 0)) := ((Ob.refl _ _).setCell (by simp) _).setCell (by simp) _
  clear hv2
  go_wp2_with fail
  generalize (w2.setCell ⟨w.heap.size, 0, none⟩ (.string ⟨#[]⟩)).setCell ⟨w.heap.size, 1, none⟩ (.int .i64 0) = w3 at hvp hO ⊢
  obtain ⟨c0, c1⟩ := hvp.cells
  refine bodyPost_ret (v := .tuple #[.agg #[.string ⟨#[]⟩, .int .i64 0], .int .i64 0, .iface 22 (.int .i64 7)]) (by simp [results, Tryd.results54, go_sem, c0, c1]) rfl ⟨rfl, ?_⟩
  exact HB.out.trans (hO.below (by simp) HB.out.size)

/-- An entry's box. -/
def EB (w : World) (q : Nat) (x : E) : Prop := w.heap[q]? = some (.cells #[.int .i64 x.o, .string x.d, .int .i64 x.v, .int .i64 x.u] 116)
theorem EB.made (w : World) (x : E) : EB (w.alloc (.cells #[.int .i64 x.o, .string x.d, .int .i64 x.v, .int .i64 x.u] 116)) w.heap.size x := heap_alloc_new w _
theorem EB.lt {w : World} {q : Nat} {x : E} (h : EB w q x) : q < w.heap.size := (Array.getElem?_eq_some_iff.1 h).1
theorem EB.ob {w w' : World} {q : Nat} {x : E} {bs : List Nat} (h : EB w q x) (hb : Ob bs w w') (hn : q ∉ bs) : EB w' q x := (hb.block q h.lt hn).trans h
theorem EB.cells {w : World} {q : Nat} {x : E} (h : EB w q x) : w.cell? ⟨q, 0, none⟩ = some (.int .i64 x.o) ∧ w.cell? ⟨q, 1, none⟩ = some (.string x.d) ∧ w.cell? ⟨q, 2, none⟩ = some (.int .i64 x.v) ∧ w.cell? ⟨q, 3, none⟩ = some (.int .i64 x.u) := by
  refine ⟨?_, ?_, ?_, ?_⟩ <;> (rw [cell_of_row _ _ _ _ _ _ h]; rfl)

set_option maxHeartbeats 1000000 in
set_option maxRecDepth 100000 in
theorem get_hit (o : Int) (t : Nat) (L : List E) (k : Nat) (w : World) (h : CacheIs w t L L.length) (h1 : L.Pairwise fun a b => a.o ≠ b.o) (hk : k < L.length) (ho : L[k].o = o) :
    Calls Tryd.prog 54 #[tp t, .int .i64 o] w fun e w' => e = .returned (.tuple #[.agg #[.string L[k].d, .int .i64 L[k].v], .int .i64 L[k].u, .nilIface]) ∧ CacheIs w' t (putL L L[k]) (putL L L[k]).length ∧ Ob [t] w w' := by
  have hlt := h.lt
  have h6 := h.le
  have ha := h.alloc (.cells #[.string ⟨#[]⟩, .int .i64 0] 114)
  have hv := VB.made w ⟨#[]⟩ 0
  have hb : Below w.heap.size w (w.alloc (.cells #[.string ⟨#[]⟩, .int .i64 0] 114)) := (Below.refl _ _).alloc (Nat.le_refl _) _
  clear h
  go_enter Tryd.func54, Tryd.ntmps54
  go_wp2_with fail
  generalize w.alloc (.cells #[.string ⟨#[]⟩, .int .i64 0] 114) = w1 at ha hv hb ⊢
  refine (find_any o t L w1 ha).mono ?_
  rintro e w2 ⟨i, rfl, hF, hb2⟩
  obtain rfl := found_at hF h1 hk ho
  have hv2 := hv.ob (bs := []) (Ob.of_below hb2) (by simp)
  have hC2 := ha.below hb2
  have HB : Hid (Below w.heap.size w w2) := hb.trans (hb2.mono hb.size)
  clear hF ha hv hb hb2
  have e0 := hC2.get k 0 hk (by omega)
  have e1 := hC2.get k 1 hk (by omega)
  have e2 := hC2.get k 2 hk (by omega)
  have e3 := hC2.get k 3 hk (by omega)
  simp only [ecells, List.getElem?_cons_zero, List.getElem?_cons_succ, Nat.add_zero] at e0 e1 e2 e3
  obtain ⟨x, hx⟩ : ∃ x, L[k] = x := ⟨_, rfl⟩
  rw [hx] at ho e0 e1 e2 e3
  subst ho
  have HX : Hid (L[k] = x) := hx
  clear hx
  have hkn : (k : Int) < 6 := by omega
  have hk0 : (0 : Int) ≤ (k : Int) := by omega
  have hnk : ¬ ((k : Int) < 0) := by omega
  have hq1 := EB.made w2 x
  have hC3 := hC2.alloc (.cells #[.int .i64 x.o, .string x.d, .int .i64 x.v, .int .i64 x.u] 116)
  have hO3 := (Ob.refl [t] w2).alloc (.cells #[.int .i64 x.o, .string x.d, .int .i64 x.v, .int .i64 x.u] 116)
  have hv3 := hv2.ob hO3 (by simp; omega)
  have hC3lt := hv2.lt
  have hO0 : Ob [t] w w2 := Ob.of_below HB.out
  clear HB hv2
  go_wp2_with fail
  generalize w2.alloc (.cells #[.int .i64 x.o, .string x.d, .int .i64 x.v, .int .i64 x.u] 116) = w3 at hq1 hC3 hO3 hv3 ⊢
  have hO3' : Hid (Ob [t] w w3) := hO0.trans hO3
  obtain ⟨q, hq⟩ : ∃ q, w2.heap.size = q := ⟨_, rfl⟩
  rw [hq] at hq1 hC3lt ⊢
  have hqt : q ∉ [t] := by have := hC2.lt; simp; omega
  clear hO0 hO3 hC2 e0 e1 e2 e3
  refine (put_any t x.o x.d x.v x.u L w3 hC3 h1).mono ?_
  rintro e w4 ⟨rfl, hC4, hO4⟩
  have hq4 := hq1.ob hO4 hqt
  have hv4 := hv3.ob hO4 (by simp; omega)
  have HO4 : Hid (Ob [t] w w4) := hO3'.out.trans hO4
  have HC4 : Hid (CacheIs w4 t (putL L x) (putL L x).length) := hC4
  clear hO3' hO4 hq1 hv3 hC3 hC4 hqt hq
  obtain ⟨p, hp⟩ : ∃ p, w.heap.size = p := ⟨_, rfl⟩
  rw [hp] at hv4 hC3lt hlt ⊢
  have hpq : p ≠ q := by omega
  obtain ⟨q0, q1, q2, q3⟩ := hq4.cells
  obtain ⟨b0, b1⟩ := hv4.cells
  have f0 := hv4.free 0
  have f1 := hv4.free 1
  have hvp : VB ((w4.setCell ⟨p, 0, none⟩ (.string x.d)).setCell ⟨p, 1, none⟩ (.int .i64 x.v)) p x.d x.v := VB.put hv4
  have hO : Ob [p] w4 ((w4.setCell ⟨p, 0, none⟩ (.string x.d)).setCell ⟨p, 1, none⟩ (.int .i64 x.v)) := ((Ob.refl _ _).setCell (by simp) _).setCell (by simp) _
  clear hv4 hq4
  go_wp2_with fail
  go_region_held3 (fun w' => w'.cell? ⟨q, 1, none⟩ = some (.string x.d) ∧ w'.cell? ⟨q, 2, none⟩ = some (.int .i64 x.v) ∧ w'.cell? ⟨q, 3, none⟩ = some (.int .i64 x.u)) (go_keep) (fail)
  go_wp2_with fail
  generalize (w4.setCell ⟨p, 0, none⟩ (.string x.d)).setCell ⟨p, 1, none⟩ (.int .i64 x.v) = w5 at hvp hO ⊢
  obtain ⟨c0, c1⟩ := hvp.cells
  rw [HX.out]
  refine bodyPost_ret (v := .tuple #[.agg #[.string x.d, .int .i64 x.v], .int .i64 x.u, .nilIface]) (by simp [results, Tryd.results54, go_sem, c0, c1]) rfl ⟨rfl, (HC4.out.ob hO (by simp; omega)).drew, Ob.drew ?_⟩
  exact Ob.new (q := p) ((HO4.out.mono (by simp)).trans (hO.mono (by simp))) (by omega)

end Go.Proofs.YtbebfliimjjohaaDoor.Cache
