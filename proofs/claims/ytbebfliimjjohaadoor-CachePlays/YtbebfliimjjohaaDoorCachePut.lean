/-
  The contracts of a cache's Put and Clear, over the turned program.
-/
import Derived.Test.YtbebfliimjjohaaDoorCacheDrop
import Derived.Deep.MidRow
namespace Go.Proofs.YtbebfliimjjohaaDoor.Cache
open Go.RowKit

/-- What Put leaves. -/
def putL (L : List E) (e : E) : List E := (if (era e.o L).length = 6 then (era e.o L).eraseIdx 0 else era e.o L) ++ [e]
/-- A value's box. -/
def VB (w : World) (q : Nat) (d : ByteArray) (v : Int) : Prop := w.heap[q]? = some (.cells #[.string d, .int .i64 v] 114)
theorem VB.made (w : World) (d : ByteArray) (v : Int) : VB (w.alloc (.cells #[.string d, .int .i64 v] 114)) w.heap.size d v := heap_alloc_new w _
theorem VB.lt {w : World} {q : Nat} {d : ByteArray} {v : Int} (h : VB w q d v) : q < w.heap.size := (Array.getElem?_eq_some_iff.1 h).1
theorem VB.ob {w w' : World} {q : Nat} {d : ByteArray} {v : Int} {bs : List Nat} (h : VB w q d v) (hb : Ob bs w w') (hn : q ∉ bs) : VB w' q d v := (hb.block q h.lt hn).trans h
theorem VB.cells {w : World} {q : Nat} {d : ByteArray} {v : Int} (h : VB w q d v) : w.cell? ⟨q, 0, none⟩ = some (.string d) ∧ w.cell? ⟨q, 1, none⟩ = some (.int .i64 v) := by
  refine ⟨?_, ?_⟩ <;> (rw [cell_of_row _ _ _ _ _ _ h]; rfl)
theorem ecells_one (e : E) : (ecells e).toArray.all (·.oneCell') = true := all_oneCell_toArray (by intro u hu; simp [ecells] at hu; rcases hu with rfl | rfl | rfl | rfl <;> rfl)
theorem info_entry4 : (Tryd.prog.info? 116).map (·.size) = some 4 := by kernel_rfl
theorem CacheIs.room {w : World} {t : Nat} {M : List E} {n : Int} (h : CacheIs w t M n) (hl : M.length < 6) : w.there t (M.length * 4) 4 := fun j hj => ⟨h.there _ (by omega), h.free _⟩
theorem put_mid {w : World} {t : Nat} {M : List E} {n : Int} (h : CacheIs w t M n) (hl : M.length < 6) (e : E) : CacheIs (w.setCells t (M.length * 4) (ecells e)) t (M ++ [e]) n ∧ Ob [t] w (w.setCells t (M.length * 4) (ecells e)) :=
  ⟨h.over (by simp; omega) (by simp [ecells]; omega) (ow_put _ e M hl), Ob.setCells (by simp) _ _ _ (Ob.refl _ _)⟩

set_option maxHeartbeats 2000000 in
set_option maxRecDepth 100000 in
theorem put_any (t : Nat) (o : Int) (d : ByteArray) (v u : Int) (L : List E) (w : World) (h : CacheIs w t L L.length) (h1 : L.Pairwise fun a b => a.o ≠ b.o) :
    Calls Tryd.prog 51 #[tp t, .int .i64 o, .agg #[.string d, .int .i64 v], .int .i64 u] w fun e w' => e = .returned (.tuple #[]) ∧ CacheIs w' t (putL L ⟨o, d, v, u⟩) (putL L ⟨o, d, v, u⟩).length ∧ Ob [t] w w' := by
  have ha := h.alloc (.cells #[.string d, .int .i64 v] 114)
  have hv := VB.made w d v
  have hO := (Ob.refl [t] w).alloc (.cells #[.string d, .int .i64 v] 114)
  have hqt : w.heap.size ∉ [t] := by have := h.lt; simp; omega
  clear h
  go_enter Tryd.func51, Tryd.ntmps51
  go_wp2_with fail
  generalize w.alloc (.cells #[.string d, .int .i64 v] 114) = w1 at ha hv hO ⊢
  refine (drop_any o t L w1 ha h1).mono ?_
  rintro e w2 ⟨rfl, hC2, hO2⟩
  have hv2 := hv.ob hO2 hqt
  have HO2 := hO.trans hO2
  clear hO hO2 hv ha h1
  have HP : putL L ⟨o, d, v, u⟩ = (if (era o L).length = 6 then (era o L).eraseIdx 0 else era o L) ++ [⟨o, d, v, u⟩] := rfl
  generalize era o L = M at hC2 HP
  have hm := hC2.many
  have h6 := hC2.le
  by_cases hl : M.length = 6
  · have hl' : ((M.length : Int) == 6) = true := by simp; omega
    rw [if_pos hl] at HP
    have HH : Hid (putL L ⟨o, d, v, u⟩ = M.eraseIdx 0 ++ [⟨o, d, v, u⟩]) := HP
    have hll : (M.eraseIdx 0).length = 5 := by rw [List.length_eraseIdx_of_lt (by omega)]; omega
    go_wp2_with fail
    refine (remove_any t M 0 w2 hC2 (by omega)).mono ?_
    rintro e w3 ⟨rfl, hC3, hO3⟩
    have hv3 := hv2.ob hO3 hqt
    have HO3 : Hid (Ob [t] w w3) := HO2.trans hO3
    clear HO2 hO3 hv2 hC2 hm HP hl' hl h6 hqt
    generalize M.eraseIdx 0 = N at hC3 HH hll
    have h5 : N.length < 6 := by omega
    have h5' : (N.length : Int) < 6 := by omega
    have h0 : (0 : Int) ≤ (N.length : Int) := by omega
    have hw := wrap_succ N.length (by omega)
    clear hll
    obtain ⟨b0, b1⟩ := hv3.cells
    have hm3 := hC3.many
    have hmid := put_mid hC3.drew h5 ⟨o, d, v, u⟩
    clear hv3
    go_wp2_with fail
    go_still_tail 12, (by kernel_rfl)
    refine wpList_store_mid rfl 116 (.tmp 29) (.tmp 26) rfl t (N.length * 4) (ecells ⟨o, d, v, u⟩).toArray rfl rfl (hC3.drew.room h5) info_entry4 (ecells_one _) ?_
    change wpList _ _ _ _ _ (w3.drew.setCells t (N.length * 4) (ecells ⟨o, d, v, u⟩))
    clear b0 b1 hC3 hm3
    generalize w3.drew.setCells t (N.length * 4) (ecells ⟨o, d, v, u⟩) = w4 at hmid ⊢
    obtain ⟨hC4, hO4⟩ := hmid
    have hm4 := hC4.many
    have hf4 := hC4.free 24
    go_wp2_with fail
    go_end0
    have e2 := hC4.setMany ((N ++ [(⟨o, d, v, u⟩ : E)]).length)
    rw [HH.out]
    refine ⟨rfl, ?_, ((HO3.out.drew.trans hO4)).setCell (by simp) _⟩
    simpa using e2
  · have hl' : ((M.length : Int) == 6) = false := by simp; omega
    rw [if_neg hl] at HP
    have HH : Hid (putL L ⟨o, d, v, u⟩ = M ++ [⟨o, d, v, u⟩]) := HP
    have h5 : M.length < 6 := by omega
    have h5' : (M.length : Int) < 6 := by omega
    have h0 : (0 : Int) ≤ (M.length : Int) := by omega
    have HO3 : Hid (Ob [t] w w2) := HO2
    have hw := wrap_succ M.length (by omega)
    clear HO2 HP hl hqt h6 hm
    obtain ⟨b0, b1⟩ := hv2.cells
    have hm2 := hC2.many
    have hmid := put_mid hC2.drew h5 ⟨o, d, v, u⟩
    clear hv2
    go_wp2_with fail
    go_still_tail 12, (by kernel_rfl)
    refine wpList_store_mid rfl 116 (.tmp 29) (.tmp 26) rfl t (M.length * 4) (ecells ⟨o, d, v, u⟩).toArray rfl rfl (hC2.drew.room h5) info_entry4 (ecells_one _) ?_
    change wpList _ _ _ _ _ (w2.drew.setCells t (M.length * 4) (ecells ⟨o, d, v, u⟩))
    clear b0 b1 hC2 hm2
    generalize w2.drew.setCells t (M.length * 4) (ecells ⟨o, d, v, u⟩) = w4 at hmid ⊢
    obtain ⟨hC4, hO4⟩ := hmid
    have hm4 := hC4.many
    have hf4 := hC4.free 24
    go_wp2_with fail
    go_end0
    have e2 := hC4.setMany ((M ++ [(⟨o, d, v, u⟩ : E)]).length)
    rw [HH.out]
    refine ⟨rfl, ?_, ((HO3.out.drew.trans hO4)).setCell (by simp) _⟩
    simpa using e2

theorem info_cache : (Tryd.prog.info? 119).map (·.size) = some 25 := by kernel_rfl
theorem zero_cells : acells [] ++ [Value.int .i64 ((([] : List E).length : Nat) : Int)] = [.int .i64 0, .string ⟨#[]⟩, .int .i64 0, .int .i64 0, .int .i64 0, .string ⟨#[]⟩, .int .i64 0, .int .i64 0, .int .i64 0, .string ⟨#[]⟩, .int .i64 0, .int .i64 0, .int .i64 0, .string ⟨#[]⟩, .int .i64 0, .int .i64 0, .int .i64 0, .string ⟨#[]⟩, .int .i64 0, .int .i64 0, .int .i64 0, .string ⟨#[]⟩, .int .i64 0, .int .i64 0, .int .i64 0] := rfl
set_option maxHeartbeats 2000000 in
set_option maxRecDepth 100000 in
theorem clear_any (t : Nat) (L : List E) (w : World) (h : CacheIs w t L L.length) :
    Calls Tryd.prog 57 #[tp t] w fun e w' => e = .returned (.tuple #[]) ∧ CacheIs w' t [] (([] : List E).length : Nat) ∧ Ob [t] w w' := by
  have hth : w.there t 0 (acells [] ++ [Value.int .i64 0]).toArray.size := fun j hj => ⟨h.there _ (by have : (acells [] ++ [Value.int .i64 0]).toArray.size = 25 := rfl; omega), h.free _⟩
  have hone : (acells [] ++ [Value.int .i64 0]).toArray.all (·.oneCell') = true := by kernel_rfl
  have hfin : CacheIs (w.setCells t 0 (acells [] ++ [Value.int .i64 0])) t [] (([] : List E).length : Nat) ∧ Ob [t] w (w.setCells t 0 (acells [] ++ [Value.int .i64 0])) := by
    refine ⟨h.over (by simp) (by simp [acells_length]) ?_, Ob.setCells (by simp) _ _ _ (Ob.refl _ _)⟩
    unfold ow
    rw [List.drop_of_length_le (by rw [List.length_append, List.length_append, acells_length h.le, acells_length (by simp)]; simp)]
    simp
  clear h
  go_enter Tryd.func57, Tryd.ntmps57
  go_wp2_with (refine wpList_store_mid rfl 119 (.tmp 4) (.tmp 3) rfl t 0 (acells [] ++ [Value.int .i64 0]).toArray rfl rfl hth info_cache hone ?_)
  go_end0
  exact ⟨rfl, hfin⟩
end Go.Proofs.YtbebfliimjjohaaDoor.Cache
