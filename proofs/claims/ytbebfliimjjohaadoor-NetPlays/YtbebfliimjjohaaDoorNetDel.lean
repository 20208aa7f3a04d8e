/-
  What slices.Delete leaves of some packets, over the turned program.
-/
import Derived.Test.YtbebfliimjjohaaDoorNetOps
import Derived.Deep.RegionLaw
namespace Go.Proofs.YtbebfliimjjohaaDoor.Net
open Go.RowKit

/-- A row behind stores into it. -/
theorem heap_setCell {w : World} {g i : Nat} {cur : Array Value} {e : TypeId} {f : Nat × Nat} {u : Value} (h : w.heap[g]? = some (.cells cur e f)) : (w.setCell ⟨g, i, none⟩ u).heap[g]? = some (.cells (cur.setIfInBounds i u) e f) := by
  unfold World.setCell
  rw [Array.getElem?_modify, if_pos rfl, h]
  rfl

theorem heap_setCells {g : Nat} {e : TypeId} {f : Nat × Nat} : ∀ (vs : List Value) (o : Nat) (w : World) (cur : Array Value), w.heap[g]? = some (.cells cur e f) → o + vs.length ≤ cur.size →
    ∃ cur', (w.setCells g o vs).heap[g]? = some (.cells cur' e f) ∧ cur'.size = cur.size ∧ ∀ i, cur'[i]? = if o ≤ i ∧ i < o + vs.length then vs[i - o]? else cur[i]?
  | [], o, w, cur, h, _ => ⟨cur, h, rfl, fun i => by rw [if_neg (by simp)]⟩
  | v :: vs, o, w, cur, h, hl => by
    rw [List.length_cons] at hl
    obtain ⟨cur', h1, h2, h3⟩ := heap_setCells vs (o + 1) _ _ (heap_setCell (i := o) (u := v) h) (by simp; omega)
    refine ⟨cur', h1, by simpa using h2, fun i => ?_⟩
    rw [h3 i, List.length_cons]
    by_cases c1 : o + 1 ≤ i ∧ i < o + 1 + vs.length
    · rw [if_pos c1, if_pos (by omega), show i - o = (i - (o + 1)) + 1 by omega, List.getElem?_cons_succ]
    · rw [if_neg c1]
      by_cases c2 : i = o
      · subst c2
        rw [if_pos (by omega), Nat.sub_self, List.getElem?_cons_zero, Array.getElem?_setIfInBounds_self_of_lt (by omega)]
      · rw [if_neg (by omega), Array.getElem?_setIfInBounds_ne (by omega)]

theorem sizeOf_packet : Tryd.prog.cellsOf 149 = 2 := by kernel_rfl

theorem add_off (g o j : Nat) : (⟨g, o, none⟩ : Addr).add j = ⟨g, o + j, none⟩ := by unfold Addr.add; split <;> simp_all

theorem del_news {w : World} {B g c k m : Nat} {ps : List (Int × ByteArray)} (_hm : ps.length = k + m + 1) (hrow : w.ownsRow B 149 2 (.slice (some ⟨g, 0, none⟩) ps.length c) ps.length (pcells ps)) :
    ∀ j u, ((pcells ps).drop ((k + 1) * 2))[j]? = some u → w.drew.cell? ((⟨g, (k + 1) * 2, none⟩ : Addr).add j) = some u := by
  intro j u hj
  rw [List.getElem?_drop] at hj
  have hlt := (List.getElem?_eq_some_iff.1 hj).1
  rw [pcells_length] at hlt
  rw [add_off]
  show w.cell? ⟨g, (k + 1) * 2 + j, none⟩ = some u
  rw [hrow.cellAt _ (by omega)]
  exact hj

theorem del_spare {w : World} {B g c k m : Nat} {ps : List (Int × ByteArray)} (hm : ps.length = k + m + 1) (hrow : w.ownsRow B 149 2 (.slice (some ⟨g, 0, none⟩) ps.length c) ps.length (pcells ps)) :
    ∀ j, j < m * 2 → (w.drew.cell? ⟨g, 0 + k * 2 + j, none⟩).isSome = true ∧ w.drew.frozen? ⟨g, 0 + k * 2 + j, none⟩ = false := by
  intro j hj
  refine ⟨?_, hrow.frozenAt _⟩
  show (w.cell? ⟨g, 0 + k * 2 + j, none⟩).isSome = true
  rw [hrow.cellAt _ (by omega), List.getElem?_eq_getElem (by rw [pcells_length]; omega)]
  rfl

theorem setCells_some {g : Nat} : ∀ (vs : List Value) (o : Nat) (w : World) (x : Addr), (w.cell? x).isSome = true → ((w.setCells g o vs).cell? x).isSome = true
  | [], _, _, _, h => h
  | v :: vs, o, w, x, h => by
    rw [World.setCells]
    refine setCells_some vs (o + 1) _ x ?_
    obtain ⟨u, hu⟩ := Option.isSome_iff_exists.1 h
    obtain ⟨u', hu'⟩ := cell?_setCell_some (p := ⟨g, o, none⟩) (x := v) hu
    rw [hu']
    rfl

theorem del_there {w : World} {B g c k m : Nat} {ps : List (Int × ByteArray)} {news : List Value} (hm : ps.length = k + m + 1) (hrow : w.ownsRow B 149 2 (.slice (some ⟨g, 0, none⟩) ps.length c) ps.length (pcells ps)) :
    ∀ j, j < 2 → ((w.drew.setCells g (k * 2) news).cell? ⟨g, (k + m) * 2 + j, none⟩).isSome = true := by
  intro j hj
  refine setCells_some _ _ _ _ ?_
  show (w.cell? ⟨g, (k + m) * 2 + j, none⟩).isSome = true
  rw [hrow.cellAt _ (by omega), List.getElem?_eq_getElem (by rw [pcells_length]; omega)]
  rfl

theorem clear_one (W : World) (g o c : Nat) (hc : ∀ j, j < 2 → (W.cell? ⟨g, o + j, none⟩).isSome = true) (hf : ∀ j, j < 2 → W.frozen? ⟨g, o + j, none⟩ = false) :
    (Builtin.clear_ #[47] 0 #[.slice (some ⟨g, o, none⟩) 1 c]).run Tryd.prog W = .ok (.tuple #[]) (W.setCells g o [.int .i64 0, .string ⟨#[]⟩]) := by
  have hst := run_storeCells_cells (P := Tryd.prog) g o [.int .i64 0, .string ⟨#[]⟩] 0 W (by simpa using hc) (by simpa using hf) (by intro v hv; simp at hv; rcases hv with rfl | rfl <;> rfl)
  simp only [Nat.add_zero] at hst
  have hz : (Builtin.zeroCells #[Value.int .i64 0, Value.string ⟨#[]⟩] 1).toList = [.int .i64 0, .string ⟨#[]⟩] := by kernel_rfl
  simp [Builtin.clear_, run_underlying Tryd.underlying47, Value.cells, hz, hst]

theorem pcells_append (a b : List (Int × ByteArray)) : pcells (a ++ b) = pcells a ++ pcells b := by simp [pcells]

theorem pcells_erase : ∀ (ps : List (Int × ByteArray)) (k : Nat), k < ps.length → pcells (ps.eraseIdx k) = (pcells ps).take (k * 2) ++ (pcells ps).drop ((k + 1) * 2)
  | p :: ps, 0, _ => by simp [pcells]
  | p :: ps, k + 1, h => by
    have ih := pcells_erase ps k (by simpa using h)
    have e : ∀ qs, pcells (p :: qs) = .int .i64 p.1 :: .string p.2 :: pcells qs := fun qs => by simp [pcells]
    rw [List.eraseIdx_cons_succ, e, e, ih]
    rw [show (k + 1) * 2 = k * 2 + 1 + 1 by omega, show (k + 1 + 1) * 2 = (k + 1) * 2 + 1 + 1 by omega]
    simp
    rw [show k * 2 + 1 + 1 = (k + 1) * 2 by omega]

theorem grown_setCells {g : Nat} : ∀ (vs : List Value) (o : Nat) (a w : World), a.grownBy w (some g) → a.grownBy (w.setCells g o vs) (some g)
  | [], _, _, _, h => h
  | v :: vs, o, a, w, h => by
    rw [World.setCells]
    refine grown_setCells vs (o + 1) a _ ⟨h.os, h.tape, h.output, by simpa using h.size, fun k hk hne => ?_⟩
    rw [Below.heap_setCell w ⟨g, o, none⟩ v k (fun e => hne (by rw [e]))]
    exact h.block k hk hne

theorem del_fin {w : World} {B g c k m : Nat} {ps : List (Int × ByteArray)} {news : List Value} {z0 z1 : Value} (hm : ps.length = k + m + 1) (hk : k < ps.length) (hrow : w.ownsRow B 149 2 (.slice (some ⟨g, 0, none⟩) ps.length c) ps.length (pcells ps)) (hnw : (pcells ps).drop ((k + 1) * 2) = news) (hnl : news.length = m * 2) :
    ((w.drew.setCells g (k * 2) news).setCells g ((k + m) * 2) [z0, z1]).ownsRow B 149 2 (.slice (some ⟨g, 0, none⟩) (k + m) c) (k + m) (pcells (ps.eraseIdx k)) ∧ w.grownBy ((w.drew.setCells g (k * 2) news).setCells g ((k + m) * 2) [z0, z1]) (some g) := by
  refine ⟨?_, grown_setCells _ _ _ _ (grown_setCells _ _ _ _ ⟨rfl, rfl, rfl, Nat.le_refl _, fun _ _ _ => rfl⟩)⟩
  have hlen : (pcells ps).length = (k + m + 1) * 2 := by rw [pcells_length, hm]
  have hel : (pcells (ps.eraseIdx k)).length = (k + m) * 2 := by rw [pcells_length, List.length_eraseIdx_of_lt hk]; omega
  refine ⟨hel, .inr ?_⟩
  rcases hrow.2 with ⟨h, _⟩ | ⟨g', cap, cur, he, hB, hh, hn, hcm, hcs, htake⟩
  · cases h
  · injection he with e1 e2 e3
    injection e1 with e1
    injection e1 with e1
    subst e1 e3
    rw [hm] at hn htake
    obtain ⟨c1, h1, s1, g1⟩ := heap_setCells news (k * 2) w.drew cur hh (by rw [hnl, hcs]; omega)
    obtain ⟨c2, h2, s2, g2⟩ := heap_setCells [z0, z1] ((k + m) * 2) _ c1 h1 (by rw [s1, hcs]; simp; omega)
    refine ⟨g, c, c2, rfl, hB, h2, by omega, hcm, by rw [s2, s1, hcs], ?_⟩
    rw [pcells_erase ps k hk]
    apply List.ext_getElem?
    intro i
    rw [List.getElem?_take]
    by_cases hi : i < (k + m) * 2
    · rw [if_pos hi, Array.getElem?_toList, g2 i, if_neg (by simp; omega), g1 i]
      have hcur : ∀ j, j < (k + m + 1) * 2 → cur[j]? = (pcells ps)[j]? := fun j hj => by
        rw [← htake, List.getElem?_take, if_pos hj, Array.getElem?_toList]
      by_cases hi2 : i < k * 2
      · rw [if_neg (by omega), hcur i (by omega), List.getElem?_append_left (by rw [List.length_take]; omega), List.getElem?_take, if_pos hi2]
      · rw [if_pos (by omega), List.getElem?_append_right (by rw [List.length_take]; omega), List.length_take, ← hnw, show min (k * 2) (pcells ps).length = k * 2 by omega]
    · rw [if_neg hi, List.getElem?_eq_none]
      rw [List.length_append, List.length_take, List.length_drop]
      omega

set_option maxHeartbeats 2000000 in
set_option maxRecDepth 100000 in
theorem del_any (B g c : Nat) (ps : List (Int × ByteArray)) (k : Nat) (w : World) (hk : k < ps.length) (hl : ps.length ≤ 200) (hnc : ps.length ≤ c) (hcm : c ≤ 9223372036854775807) (hrow : w.ownsRow B 149 2 (.slice (some ⟨g, 0, none⟩) ps.length c) ps.length (pcells ps)) :
    Calls Tryd.prog 72 #[.slice (some ⟨g, 0, none⟩) ps.length c, .int .i64 k, .int .i64 ((k : Int) + 1)] w fun e w' => e = .returned (.slice (some ⟨g, 0, none⟩) (ps.length - 1) c) ∧ w'.ownsRow B 149 2 (.slice (some ⟨g, 0, none⟩) (ps.length - 1) c) (ps.length - 1) (pcells (ps.eraseIdx k)) ∧ w.grownBy w' (some g) := by
  obtain ⟨i0, hi, hz0, hz1, hz2⟩ := info_parts info_packet
  obtain ⟨m, hm⟩ : ∃ m, ps.length = k + m + 1 := ⟨ps.length - (k + 1), by omega⟩
  have hnews := del_news hm hrow
  have hspare := del_spare hm hrow
  obtain ⟨news, hnw⟩ : ∃ news, (pcells ps).drop ((k + 1) * 2) = news := ⟨_, rfl⟩
  have hnl : news.length = m * 2 := by rw [← hnw, List.length_drop, pcells_length, hm]; omega
  have hn1 : ∀ u ∈ news, u.oneCell' = true := fun u hu => pcells_one ps u (by rw [← hnw] at hu; exact List.mem_of_mem_drop hu)
  rw [hnw] at hnews
  rw [hm] at hnc hl ⊢
  have hne : ((k : Int) == (k : Int) + 1) = false := by simp; omega
  have hkc : k ≤ c := by omega
  have hp0 : (0 : Int) ≤ (k : Int) + 1 := by omega
  have hp1 : (k : Int) + 1 ≤ (k : Int) + (m : Int) + 1 := by omega
  have hp2 : ((k : Int) + 1).toNat = k + 1 := by omega
  have HNE : Hid (∀ j u, news[j]? = some u → w.drew.cell? ((⟨g, (k + 1) * 2, none⟩ : Addr).add j) = some u) := hnews
  have HSP : Hid (∀ j, j < m * 2 → (w.drew.cell? ⟨g, 0 + k * 2 + j, none⟩).isSome = true ∧ w.drew.frozen? ⟨g, 0 + k * 2 + j, none⟩ = false) := hspare
  have HNL : Hid (news.length = m * 2) := hnl
  have HN1 : Hid (∀ u ∈ news, u.oneCell' = true) := hn1
  clear hnews hspare hnl hn1
  by_cases hc1 : c = k + 1
  · obtain rfl : m = 0 := by omega
    have hnil : news = [] := List.eq_nil_of_length_eq_zero (by have := HNL.out; omega)
    subst hnil
    subst hc1
    have hii : (k : Int) ≤ (k : Int) + 1 := by omega
    go_enter Tryd.func72, Tryd.ntmps72
    go_wp2_with fail
    go_region_law (refine step_append_room rfl (.tmp 22) (.tmp 25) 47 rfl 149 i0 2 Tryd.underlying47 hi hz1 g 0 k (k + 1) (by simp [Act.eval, Act.put]) ⟨g, 0, none⟩ 0 0 [] (by simp [Act.eval, Act.put]) rfl (fun j u hj => by simp at hj) (fun u hu => by simp at hu) (by omega) (fun j hj => by simp at hj) ?_)
    have hclr := clear_one (w.drew.setCells g (k * 2) []) g (k * 2) 1 (del_there (m := 0) (news := []) hm hrow) (fun j _ => hrow.frozenAt _)
    all_goals go_wp2_with fail
    all_goals go_ret
    exact ⟨rfl, del_fin hm hk hrow hnw HNL.out⟩
  · go_enter Tryd.func72, Tryd.ntmps72
    go_wp2_with fail
    go_region_law (refine step_append_room rfl (.tmp 22) (.tmp 25) 47 rfl 149 i0 2 Tryd.underlying47 hi hz1 g 0 k c (by simp [Act.eval, Act.put]) ⟨g, (k + 1) * 2, none⟩ m (c - (k + 1)) news (by simp [Act.eval, Act.put]) HNL.out HNE.out HN1.out (by omega) (fun j hj => HSP.out j (by rw [← HNL.out]; exact hj)) ?_)
    have hclr := clear_one (w.drew.setCells g (k * 2) news) g ((k + m) * 2) (c - (k + m)) (del_there hm hrow) (fun j _ => by rw [World.frozen?_setCells]; exact hrow.frozenAt _)
    all_goals go_wp2_with fail
    all_goals go_ret
    exact ⟨rfl, del_fin hm hk hrow hnw HNL.out⟩

end Go.Proofs.YtbebfliimjjohaaDoor.Net
