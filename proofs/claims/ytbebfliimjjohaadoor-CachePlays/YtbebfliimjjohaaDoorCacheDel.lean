/-
  What slices.Delete leaves of a cache's values, and the contracts of remove and Drop, over the turned program.
-/
import Derived.Test.YtbebfliimjjohaaDoorCacheFind
namespace Go.Proofs.YtbebfliimjjohaaDoor.Cache
open Go.RowKit

theorem info_entry : (Tryd.prog.info? 116).map (fun i => (i.zero, i.size, i.bytes)) = some (some (.agg #[.int .i64 0, .string ⟨#[]⟩, .int .i64 0, .int .i64 0]), 4, 40) := by kernel_rfl
theorem add_off (g o j : Nat) : (⟨g, o, none⟩ : Addr).add j = ⟨g, o + j, none⟩ := by unfold Addr.add; split <;> simp_all

theorem del_news {w : World} {t k : Nat} {L : List E} {n : Int} (h : CacheIs w t L n) : ∀ j u, (flat (L.drop (k + 1)))[j]? = some u → w.drew.cell? ((⟨t, (k + 1) * 4, none⟩ : Addr).add j) = some u := by
  intro j u hj
  have h6 := h.le
  have hlt := (List.getElem?_eq_some_iff.1 hj).1
  rw [flat_length, List.length_drop] at hlt
  obtain ⟨a, b, rfl, hb⟩ : ∃ a b, j = a * 4 + b ∧ b < 4 := ⟨j / 4, j % 4, by omega, by omega⟩
  have ha : k + 1 + a < L.length := by omega
  rw [flat_get _ a b (by rw [List.length_drop]; omega) hb, List.getElem_drop] at hj
  rw [add_off, show (k + 1) * 4 + (a * 4 + b) = (k + 1 + a) * 4 + b by omega]
  show w.cell? ⟨t, (k + 1 + a) * 4 + b, none⟩ = some u
  rw [h.get (k + 1 + a) b ha hb]
  exact hj
theorem del_spare {w : World} {t k m : Nat} {L : List E} {n : Int} (h : CacheIs w t L n) (hm : L.length = k + m + 1) : ∀ j, j < m * 4 → (w.drew.cell? ⟨t, 0 + k * 4 + j, none⟩).isSome = true ∧ w.drew.frozen? ⟨t, 0 + k * 4 + j, none⟩ = false := fun j hj => by
  have h6 := h.le
  exact ⟨h.there _ (by omega), h.free _⟩
theorem setCells_some {g : Nat} : ∀ (vs : List Value) (o : Nat) (w : World) (x : Addr), (w.cell? x).isSome = true → ((w.setCells g o vs).cell? x).isSome = true
  | [], _, _, _, h => h
  | v :: vs, o, w, x, h => by
    rw [World.setCells]
    refine setCells_some vs (o + 1) _ x ?_
    obtain ⟨u, hu⟩ := Option.isSome_iff_exists.1 h
    obtain ⟨u', hu'⟩ := cell?_setCell_some (p := ⟨g, o, none⟩) (x := v) hu
    rw [hu']
    rfl
theorem del_there {w : World} {t k m : Nat} {L : List E} {n : Int} (news : List Value) (h : CacheIs w t L n) (hm : L.length = k + m + 1) : ∀ j, j < 4 → ((w.drew.setCells t (k * 4) news).cell? ⟨t, (k + m) * 4 + j, none⟩).isSome = true := fun j hj => by
  have h6 := h.le
  exact setCells_some _ _ _ _ (h.there _ (by omega))
theorem clear_one (W : World) (g o c : Nat) (hc : ∀ j, j < 4 → (W.cell? ⟨g, o + j, none⟩).isSome = true) (hf : ∀ j, j < 4 → W.frozen? ⟨g, o + j, none⟩ = false) :
    (Builtin.clear_ #[169] 0 #[.slice (some ⟨g, o, none⟩) 1 c]).run Tryd.prog W = .ok (.tuple #[]) (W.setCells g o (ecells zeroE)) := by
  have hst := run_storeCells_cells (P := Tryd.prog) g o (ecells zeroE) 0 W (by simpa [ecells] using hc) (by simpa [ecells] using hf) (by intro v hv; simp [ecells] at hv; rcases hv with rfl | rfl | rfl | rfl <;> rfl)
  simp only [Nat.add_zero] at hst
  have hz : (Builtin.zeroCells #[Value.int .i64 0, Value.string ⟨#[]⟩, Value.int .i64 0, Value.int .i64 0] 1).toList = ecells zeroE := by kernel_rfl
  simp [Builtin.clear_, run_underlying Tryd.underlying169, Value.cells, hz, hst]
theorem del_fin {w : World} {t k m : Nat} {L : List E} {n : Int} (h : CacheIs w t L n) (hm : L.length = k + m + 1) :
    CacheIs ((w.drew.setCells t (k * 4) (flat (L.drop (k + 1)))).setCells t ((k + m) * 4) (ecells zeroE)) t (L.eraseIdx k) n ∧ Ob [t] w ((w.drew.setCells t (k * 4) (flat (L.drop (k + 1)))).setCells t ((k + m) * 4) (ecells zeroE)) := by
  have h6 := h.le
  have hal := acells_length h.le
  have e1 := heap_ow (flat (L.drop (k + 1))) (k * 4) w.drew _ h.blk (by rw [flat_length, List.length_drop, List.length_append, hal]; simp; omega)
  have el : (ow (acells L ++ [Value.int .i64 n]) (k * 4) (flat (L.drop (k + 1)))).length = 25 := by
    unfold ow
    rw [List.length_append, List.length_append, List.length_take, List.length_drop, List.length_append, hal, flat_length, List.length_drop]
    simp
    omega
  have e2 := heap_ow (ecells zeroE) ((k + m) * 4) _ _ e1 (by rw [el]; simp [ecells]; omega)
  rw [show (k + m) * 4 = (L.length - 1) * 4 by rw [hm]; rfl, ow_erase _ L k (by omega) h6] at e2
  refine ⟨⟨by have := List.length_eraseIdx_of_lt (l := L) (i := k) (by omega); omega, ?_⟩, ?_⟩
  · rw [show (k + m) * 4 = (L.length - 1) * 4 by rw [hm]; rfl]
    exact e2
  · exact Ob.setCells (by simp) _ _ _ (Ob.setCells (by simp) _ _ _ (Ob.refl _ _).drew)

set_option maxHeartbeats 2000000 in
set_option maxRecDepth 100000 in
theorem del_any (t : Nat) (L : List E) (n : Int) (k : Nat) (w : World) (h : CacheIs w t L n) (hk : k < L.length) :
    Calls Tryd.prog 90 #[.slice (some ⟨t, 0, none⟩) L.length 6, .int .i64 k, .int .i64 ((k : Int) + 1)] w fun e w' => e = .returned (.slice (some ⟨t, 0, none⟩) (L.length - 1) 6) ∧ CacheIs w' t (L.eraseIdx k) n ∧ Ob [t] w w' := by
  obtain ⟨i0, hi, hz0, hz1, hz2⟩ := info_parts info_entry
  have h6 := h.le
  obtain ⟨m, hm⟩ : ∃ m, L.length = k + m + 1 := ⟨L.length - (k + 1), by omega⟩
  have hfin := del_fin h hm
  have hnews := del_news (k := k) h
  obtain ⟨news, hnw⟩ : ∃ news, flat (L.drop (k + 1)) = news := ⟨_, rfl⟩
  have hnl : news.length = m * 4 := by rw [← hnw, flat_length, List.length_drop, hm]; omega
  have hn1 : ∀ u ∈ news, u.oneCell' = true := fun u hu => flat_one (L.drop (k + 1)) u (by rw [hnw]; exact hu)
  have hclr := clear_one (w.drew.setCells t (k * 4) news) t ((k + m) * 4) (6 - (k + m)) (del_there news h hm) (fun j _ => by rw [World.frozen?_setCells]; exact h.free _)
  have hspare := del_spare h hm
  rw [hnw] at hnews hfin
  rw [hm] at h6 ⊢
  have hne : ((k : Int) == (k : Int) + 1) = false := by simp; omega
  have hkc : k ≤ 6 := by omega
  have hki : (k : Int) ≤ 6 := by omega
  have hp0 : (0 : Int) ≤ (k : Int) + 1 := by omega
  have hp1 : (k : Int) + 1 ≤ (k : Int) + (m : Int) + 1 := by omega
  have hp2 : ((k : Int) + 1).toNat = k + 1 := by omega
  have HNE : Hid (∀ j u, news[j]? = some u → w.drew.cell? ((⟨t, (k + 1) * 4, none⟩ : Addr).add j) = some u) := hnews
  have HSP : Hid (∀ j, j < m * 4 → (w.drew.cell? ⟨t, 0 + k * 4 + j, none⟩).isSome = true ∧ w.drew.frozen? ⟨t, 0 + k * 4 + j, none⟩ = false) := hspare
  have HNL : Hid (news.length = m * 4) := hnl
  have HN1 : Hid (∀ u ∈ news, u.oneCell' = true) := hn1
  have HF : Hid (CacheIs ((w.drew.setCells t (k * 4) news).setCells t ((k + m) * 4) (ecells zeroE)) t (L.eraseIdx k) n ∧ Ob [t] w ((w.drew.setCells t (k * 4) news).setCells t ((k + m) * 4) (ecells zeroE))) := hfin
  clear hnews hspare hnl hn1 hfin h hnw hm
  by_cases hc1 : k = 5
  · obtain rfl : m = 0 := by omega
    have hnil : news = [] := List.eq_nil_of_length_eq_zero (by have := HNL.out; omega)
    subst hnil
    subst hc1
    go_enter Tryd.func90, Tryd.ntmps90
    go_wp2_with fail
    go_region_law (refine step_append_room rfl (.tmp 22) (.tmp 25) 169 rfl 116 i0 4 Tryd.underlying169 hi hz1 t 0 5 6 (by simp [Act.eval, Act.put]) ⟨t, 0, none⟩ 0 0 [] (by simp [Act.eval, Act.put]) rfl (fun j u hj => by simp at hj) (fun u hu => by simp at hu) (by omega) (fun j hj => by simp at hj) ?_)
    all_goals go_wp2_with fail
    all_goals go_ret
    exact ⟨rfl, HF.out⟩
  · have hk5 : ¬ (k + 1 = 6) := by omega
    have hk5' : ¬ (6 = k + 1) := by omega
    go_enter Tryd.func90, Tryd.ntmps90
    go_wp2_with fail
    go_region_law (refine step_append_room rfl (.tmp 22) (.tmp 25) 169 rfl 116 i0 4 Tryd.underlying169 hi hz1 t 0 k 6 (by simp [Act.eval, Act.put]) ⟨t, (k + 1) * 4, none⟩ m (5 - k) news (by simp [Act.eval, Act.put]) HNL.out HNE.out HN1.out (by omega) (fun j hj => HSP.out j (by rw [← HNL.out]; exact hj)) ?_)
    all_goals go_wp2_with fail
    all_goals go_ret
    exact ⟨rfl, HF.out⟩

end Go.Proofs.YtbebfliimjjohaaDoor.Cache
