/-
  The contract of a cache's find, over the turned program.
-/
import Derived.Test.YtbebfliimjjohaaDoorCacheIs
namespace Go.Proofs.YtbebfliimjjohaaDoor.Cache
open Go.RowKit

set_option maxHeartbeats 1000000 in
set_option maxRecDepth 100000 in
theorem pred_any (o : Int) (q : Nat) (x : E) (w : World) (hcell : w.cell? ⟨q, 0, none⟩ = some (.int .i64 o)) :
    Calls Tryd.prog 92 #[.agg #[.int .i64 x.o, .string x.d, .int .i64 x.v, .int .i64 x.u], tp q] w fun e w' => e = .returned (.bool (decide (x.o = o))) ∧ Below w.heap.size w w' := by
  have hq : q < w.heap.size := World.block_lt_of_cell? _ _ hcell
  have hne : q ≠ w.heap.size := by omega
  go_enter Tryd.func92, Tryd.ntmps92
  go_wp2
  all_goals (go_ret; exact ⟨rfl, (Below.refl _ _).alloc (Nat.le_refl _) _⟩)

theorem found_hit {o : Int} {L : List E} {k : Nat} (hk : k < L.length) (h : decide (L[k].o = o) = true) : Found o L (k : Int) := .inr ⟨k, hk, rfl, of_decide_eq_true h⟩
theorem found_miss {o : Int} {L : List E} (h : ∀ j (hj : j < L.length), decide (L[j].o = o) = false) : Found o L (-1) := .inl ⟨rfl, fun x hx => by
  obtain ⟨j, hj, rfl⟩ := List.getElem_of_mem hx
  exact of_decide_eq_false (h j hj)⟩

set_option maxHeartbeats 1000000 in
set_option maxRecDepth 100000 in
theorem index_any (o : Int) (q t : Nat) (L : List E) (n : Int) (w : World) (h : CacheIs w t L n) (hcell : w.cell? ⟨q, 0, none⟩ = some (.int .i64 o)) :
    Calls Tryd.prog 91 #[.slice (some ⟨t, 0, none⟩) L.length 6, .func (.func 92) #[] #[tp q]] w fun e w' => ∃ i, e = .returned (.int .i64 i) ∧ Found o L i ∧ Below w.heap.size w w' := by
  have hq := World.block_lt_of_cell? _ _ hcell
  have h6 := h.le
  go_enter Tryd.func91, Tryd.ntmps91
  go_wp2
  go_loopw [8] (fun i wr => ∃ k : Nat, k ≤ L.length ∧ i = .int .i64 k ∧ Hid (∀ j (hj : j < L.length), j < k → decide (L[j].o = o) = false) ∧ Below w.heap.size w wr) (fun i _ => L.length - (intOf i).toNat)
  case atStart => exact ⟨0, by omega, rfl, (fun j _ hj => by omega : ∀ j (hj : j < L.length), j < 0 → decide (L[j].o = o) = false), Below.refl _ _⟩
  case round =>
    obtain ⟨k, hk, rfl, hA, hbl⟩ := hrel
    by_cases hlt : k < L.length
    · have hltz : (k : Int) < (L.length : Int) := by omega
      have hr := h.below hbl
      have c0 := hr.get k 0 hlt (by omega)
      have c1 := hr.get k 1 hlt (by omega)
      have c2 := hr.get k 2 hlt (by omega)
      have c3 := hr.get k 3 hlt (by omega)
      have hcall := pred_any o q L[k] wr ((hbl.cell (p := ⟨q, 0, none⟩) hq).trans hcell)
      simp only [ecells, List.getElem?_cons_zero, List.getElem?_cons_succ, Nat.add_zero] at c0 c1 c2 c3
      obtain ⟨y, hy⟩ : ∃ y, L[k] = y := ⟨_, rfl⟩
      rw [hy] at hcall c0 c1 c2 c3
      obtain ⟨p, hp⟩ : ∃ p, decide (y.o = o) = p := ⟨_, rfl⟩
      rw [hp] at hcall
      have HQ : Hid (decide (L[k].o = o) = p) := by rw [hy]; exact hp
      have HB : Hid (Below w.heap.size w wr) := hbl
      clear hr h hcell hy hp hbl hq
      cases p with
      | true =>
        go_wp2_with fail
        refine hcall.mono ?_
        rintro e w' ⟨rfl, hb'⟩
        clear hcall c0 c1 c2 c3
        go_wp2_with fail
        go_ret
        exact ⟨_, rfl, found_hit hlt HQ.out, HB.out.trans (hb'.mono HB.out.size)⟩
      | false =>
        go_wp2_with fail
        refine hcall.mono ?_
        rintro e w' ⟨rfl, hb'⟩
        clear hcall c0 c1 c2 c3
        go_wp2_with fail
        go_roundw
        case rel =>
          refine ⟨k + 1, by omega, by go_num, (fun j hj hjk => ?_ : ∀ j (hj : j < L.length), j < k + 1 → decide (L[j].o = o) = false), HB.out.trans (hb'.mono HB.out.size)⟩
          by_cases e : j = k
          · subst e; exact HQ.out
          · exact hA.out j hj (by omega)
        case measure => simp [intOf]; omega
    · obtain rfl : k = L.length := by omega
      have hltz : ¬ (L.length : Int) < (L.length : Int) := by omega
      have HK : Hid (Found o L (-1)) := found_miss fun j hj => hA.out j hj hj
      clear hA h hcell
      go_wp2
      go_ret
      exact ⟨_, rfl, HK.out, hbl⟩

set_option maxHeartbeats 1000000 in
set_option maxRecDepth 100000 in
theorem find_any (o : Int) (t : Nat) (L : List E) (w : World) (h : CacheIs w t L L.length) :
    Calls Tryd.prog 83 #[tp t, .int .i64 o] w fun e w' => ∃ i, e = .returned (.int .i64 i) ∧ Found o L i ∧ Below w.heap.size w w' := by
  have h6 := h.le
  have hi0 : (0 : Int) ≤ (L.length : Int) := by omega
  have hi6 : (L.length : Int) ≤ 6 := by omega
  have h1 := h.alloc (.cells #[.int .i64 o] 3)
  have hb1 : Below w.heap.size w (w.alloc (.cells #[.int .i64 o] 3)) := (Below.refl _ _).alloc (Nat.le_refl _) _
  have hq1 : (w.alloc (.cells #[.int .i64 o] 3)).cell? ⟨w.heap.size, 0, none⟩ = some (.int .i64 o) := by rw [cell_of_row _ _ _ _ _ _ (heap_alloc_new w _)]; rfl
  go_enter Tryd.func83, Tryd.ntmps83
  go_wp2_with fail
  generalize w.alloc (.cells #[.int .i64 o] 3) = w1 at h1 hb1 hq1 ⊢
  have hm := h1.many
  have hn : ∀ w', Below w1.heap.size w1.drew w' → w'.cell? ⟨t, 24, none⟩ = some (.int .i64 L.length) := fun w' hb => (h1.drew.below hb).many
  have hcall := index_any o w.heap.size t L L.length w1.drew h1.drew hq1
  have HB : Hid (Below w.heap.size w w1) := hb1
  clear h h1 hb1 hq1
  go_region_held3 (fun w' => w'.cell? ⟨t, 24, none⟩ = some (.int .i64 L.length)) (assumption) (first | (go_at_call 91; refine hcall.mono ?_; rintro e w3 ⟨i, rfl, hF, hb3⟩; have hm3 := hn w3 hb3))
  go_wp2_with fail
  go_ret
  exact ⟨i, rfl, hF, HB.out.drew.trans (hb3.mono HB.out.size)⟩
end Go.Proofs.YtbebfliimjjohaaDoor.Cache
