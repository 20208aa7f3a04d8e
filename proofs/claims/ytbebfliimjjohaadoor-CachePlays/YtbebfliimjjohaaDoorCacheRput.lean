/-
  The contract of Put of the document's own cache, over the turned program.
-/
import Derived.Test.YtbebfliimjjohaaDoorCacheRobj
namespace Go.Proofs.YtbebfliimjjohaaDoor.Cache
open Go.RowKit

/-- What Put leaves, in the order of use. -/
def putP (P : List It) (e : E) (tm : Int) : List It := (if (P.filter (others e.o)).length = 6 then (P.filter (others e.o)).eraseIdx 0 else P.filter (others e.o)) ++ [⟨e, tm + 1⟩]
theorem eraseIdx_map {P : List It} : (P.eraseIdx 0).map (·.e) = (P.map (·.e)).eraseIdx 0 := by cases P <;> rfl
theorem putP_map (P : List It) (e : E) (tm : Int) : (putP P e tm).map (·.e) = putL (P.map (·.e)) e := by
  unfold putP putL
  rw [← map_filter, List.length_map]
  by_cases h : (P.filter (others e.o)).length = 6
  · rw [if_pos h, if_pos h, List.map_append, eraseIdx_map]
    rfl
  · rw [if_neg h, if_neg h, List.map_append]
    rfl
theorem putP_ord {P : List It} {e : E} {tm : Int} (h : Ord P tm) (h0 : 0 ≤ tm) : Ord (putP P e tm) (tm + 1) := by
  unfold putP
  have hf := h.filter (others e.o)
  have hn := ne_filter e.o P
  generalize P.filter (others e.o) = F at hf hn
  by_cases h6 : F.length = 6
  · rw [if_pos h6]
    cases F with
    | nil => simp at h6
    | cons x F => exact hf.tail.put h0 fun y hy => hn y (List.mem_cons_of_mem _ hy)
  · rw [if_neg h6]
    exact hf.put h0 hn
theorem putP_le {P : List It} {e : E} {tm : Int} (h : P.length ≤ 6) : (putP P e tm).length ≤ 6 := by
  have := List.length_filter_le (others e.o) P
  unfold putP
  split
  · rw [List.length_append, List.length_eraseIdx_of_lt (by omega)]
    simp
    omega
  · simp
    omega
theorem RefIs.laid {w : World} {r B : Nat} {x u : Value} {S : List It} {tm : Int} (h : w.heap[r]? = some (.cells #[x, .int .i64 tm] 123)) (k : Row w B u S) (hlt : r < B) : RefIs (w.setCell ⟨r, 0, none⟩ u) r B u S tm := by
  refine ⟨heap_setCell h, k.ob (bs := [r]) ((Ob.refl _ _).setCell (by simp) _) fun g hg => ?_, hlt⟩
  have := (World.ownsRow.lt k g hg).1
  simp
  omega

set_option maxHeartbeats 2000000 in
set_option maxRecDepth 100000 in
theorem rput_any (r B : Nat) (o : Int) (d : ByteArray) (vv u : Int) (v : Value) (R P : List It) (tm : Int) (w : World) (h : RefIs w r B v R tm) (hp : P.Perm R) (ho : Ord P tm) (h0 : 0 ≤ tm) (ht : tm + 1 < 4611686018427387904) (hB : B ≤ w.heap.size) (hl : R.length ≤ 6) :
    Calls Tryd.prog 52 #[tp r, .int .i64 o, .agg #[.string d, .int .i64 vv], .int .i64 u] w fun e w' => e = .returned (.tuple #[]) ∧ (∃ v' R', RefIs w' r B v' R' (tm + 1) ∧ (putP P ⟨o, d, vv, u⟩ tm).Perm R') ∧ Ob [r] w w' := by
  obtain ⟨i0, hi, hz0, hz1, hz2⟩ := info_parts info_item
  have hrlt := h.lt
  have hrw := h.ins
  have ha : RefIs ((w.setCell ⟨r, 1, none⟩ (.int .i64 (tm + 1))).alloc (.cells #[.string d, .int .i64 vv] 114)) r B v R (tm + 1) := (h.setTime (tm + 1)).below ((Below.refl _ _).alloc (Nat.le_refl _) _)
  have hes : (w.setCell ⟨r, 1, none⟩ (.int .i64 (tm + 1))).heap.size = w.heap.size := by simp
  have hv := VB.made (w.setCell ⟨r, 1, none⟩ (.int .i64 (tm + 1))) d vv
  rw [hes] at hv
  have hO := ((Ob.refl [r] w).setCell (q := r) (i := 1) (by simp) (.int .i64 (tm + 1))).alloc (.cells #[.string d, .int .i64 vv] 114)
  have hqt : w.heap.size ∉ [r] := by simp; omega
  have hc1 := h.c1
  have hf1 := h.free 1
  have hw1 : IntKind.i64.wrap (tm + 1) = tm + 1 := by
    simp only [IntKind.wrap, IntKind.bits, IntKind.signed]
    simp
    omega
  clear h
  go_enter Tryd.func52, Tryd.ntmps52
  go_wp2_with fail
  generalize (w.setCell ⟨r, 1, none⟩ (.int .i64 (tm + 1))).alloc (.cells #[.string d, .int .i64 vv] 114) = w1 at ha hv hO ⊢
  have hB1 : B ≤ w1.heap.size := by have := hO.size; omega
  refine (rdrop_any o r B v R (tm + 1) w1 ha hB1 (by omega)).mono ?_
  rintro e w2 ⟨rfl, ⟨v2, hR2, hge⟩, hO2⟩
  have hv2 := hv.ob hO2 hqt
  have HO2 : Ob [r] w w2 := hO.trans hO2
  have hge2 : ∀ g, v2.ownBlock = some g → w.heap.size < g := fun g hg => by have := hge g hg; have := hv.lt; omega
  have hgq : v2.ownBlock ≠ some w.heap.size := fun hg => by have := hge2 _ hg; omega
  have hgr : v2.ownBlock ≠ some r := fun hg => by have := hge2 r hg; omega
  have hpf := hp.filter (others o)
  have hfl := List.length_filter_le (others o) R
  have HPP : putP P ⟨o, d, vv, u⟩ tm = (if (P.filter (others o)).length = 6 then (P.filter (others o)).eraseIdx 0 else P.filter (others o)) ++ [⟨⟨o, d, vv, u⟩, tm + 1⟩] := rfl
  have hof := (ho.filter (others o)).put h0 (e := ⟨o, d, vv, u⟩) (ne_filter o P)
  generalize P.filter (others o) = F at hpf HPP hof
  generalize R.filter (others o) = S at hpf hfl hR2
  have hSl : S.length ≤ 6 := by omega
  have c0 := hR2.c0
  have c1 := hR2.c1
  obtain ⟨b0, b1⟩ := hv2.cells
  have hr2 := hR2.ins
  have hq2 := hv2.lt
  have hrow2 := hR2.row
  have hfr := hR2.free 0
  have hblk := hR2.blk
  have hrq : r ≠ w.heap.size := by omega
  obtain ⟨va, vc, rfl, _⟩ := hrow2.shape
  have e3 : S.length + 1 ≤ maxLen := by unfold maxLen; omega
  have e4 : (S.length + 1) * 48 ≤ 140737488355328 := by omega
  clear hO hO2 hv ha hge hqt ho hp hc1 hf1 hR2 hes hl hfl hv2
  go_wp2_with fail
  refine Gen.start (S := fun w' => w'.cell? ⟨r, 0, none⟩ = some (.slice va S.length vc) ∧ w'.cell? ⟨r, 1, none⟩ = some (.int .i64 (tm + 1)) ∧ w'.cell? ⟨w.heap.size, 0, none⟩ = some (.string d) ∧ w'.cell? ⟨w.heap.size, 1, none⟩ = some (.int .i64 vv)) (by kernel_rfl) ⟨c0, c1, b0, b1⟩ (fun hHeld => ?_)
  refine Gen.take (i := 0) (k := 15) (v := ?_) rfl rfl (by kernel_rfl) (by kernel_rfl) (by kernel_rfl) (by kernel_rfl) (by kernel_rfl) (by kernel_rfl) (fun _ _ _ h => h) (Or.inl ⟨by rfl, ?_⟩) hHeld ?_
  rotate_left
  · intro w' hSw
    go_simp
    try with_reducible rfl
  simp only [Act.put, List.setIfInBounds_toArray, List.set_cons_zero, List.set_cons_succ]
  refine Gen.take (i := 1) (k := 2) (v := ?_) rfl rfl (by kernel_rfl) (by kernel_rfl) (by kernel_rfl) (by kernel_rfl) (by kernel_rfl) (by kernel_rfl) (fun _ _ _ h => h) (Or.inl ⟨by rfl, ?_⟩) hHeld ?_
  rotate_left
  · intro w' hSw
    go_simp
    try with_reducible rfl
  simp only [Act.put, List.setIfInBounds_toArray, List.set_cons_zero, List.set_cons_succ]
  refine Gen.take (i := 2) (k := 3) (v := ?_) rfl rfl (by kernel_rfl) (by kernel_rfl) (by kernel_rfl) (by kernel_rfl) (by kernel_rfl) (by kernel_rfl) (fun _ _ _ h => h) (Or.inl ⟨by rfl, ?_⟩) hHeld ?_
  rotate_left
  · intro w' hSw
    go_simp
    try with_reducible rfl
  simp only [Act.put, List.setIfInBounds_toArray, List.set_cons_zero, List.set_cons_succ]
  refine Gen.take (i := 3) (k := 4) (v := ?_) rfl rfl (by kernel_rfl) (by kernel_rfl) (by kernel_rfl) (by kernel_rfl) (by kernel_rfl) (by kernel_rfl) (fun _ _ _ h => h) (Or.inl ⟨by rfl, ?_⟩) hHeld ?_
  rotate_left
  · intro w' hSw
    go_simp
    try with_reducible rfl
  simp only [Act.put, List.setIfInBounds_toArray, List.set_cons_zero, List.set_cons_succ]
  refine Gen.take (i := 4) (k := 14) (v := ?_) rfl rfl (by kernel_rfl) (by kernel_rfl) (by kernel_rfl) (by kernel_rfl) (by kernel_rfl) (by kernel_rfl) (fun _ _ _ h => h) (Or.inl ⟨by rfl, ?_⟩) hHeld ?_
  rotate_left
  · intro w' hSw
    go_simp
    try with_reducible rfl
  simp only [Act.put, List.setIfInBounds_toArray, List.set_cons_zero, List.set_cons_succ]
  refine Gen.take (i := 5) (k := 12) (v := ?_) rfl rfl (by kernel_rfl) (by kernel_rfl) (by kernel_rfl) (by kernel_rfl) (by kernel_rfl) (by kernel_rfl) (fun _ _ _ h => h) (Or.inl ⟨by rfl, ?_⟩) hHeld ?_
  rotate_left
  · intro w' hSw
    go_simp
    try with_reducible rfl
  simp only [Act.put, List.setIfInBounds_toArray, List.set_cons_zero, List.set_cons_succ]
  refine Gen.take (i := 6) (k := 12) (v := ?_) rfl rfl (by kernel_rfl) (by kernel_rfl) (by kernel_rfl) (by kernel_rfl) (by kernel_rfl) (by kernel_rfl) (fun _ _ _ h => h) (Or.inl ⟨by rfl, ?_⟩) hHeld ?_
  rotate_left
  · intro w' hSw
    go_simp
    try with_reducible rfl
  simp only [Act.put, List.setIfInBounds_toArray, List.set_cons_zero, List.set_cons_succ]
  refine Gen.take (i := 7) (k := 12) (v := ?_) rfl rfl (by kernel_rfl) (by kernel_rfl) (by kernel_rfl) (by kernel_rfl) (by kernel_rfl) (by kernel_rfl) (fun _ _ _ h => h) (Or.inl ⟨by rfl, ?_⟩) hHeld ?_
  rotate_left
  · intro w' hSw
    go_simp
    try with_reducible rfl
  simp only [Act.put, List.setIfInBounds_toArray, List.set_cons_zero, List.set_cons_succ]
  refine Gen.take (i := 8) (k := 9) (v := ?_) rfl rfl (by kernel_rfl) (by kernel_rfl) (by kernel_rfl) (by kernel_rfl) (by kernel_rfl) (by kernel_rfl) (fun _ _ _ h => h) (Or.inl ⟨by rfl, ?_⟩) hHeld ?_
  rotate_left
  · intro w' hSw
    go_simp
    try with_reducible rfl
  simp only [Act.put, List.setIfInBounds_toArray, List.set_cons_zero, List.set_cons_succ]
  refine Gen.take (i := 9) (k := 10) (v := ?_) rfl rfl (by kernel_rfl) (by kernel_rfl) (by kernel_rfl) (by kernel_rfl) (by kernel_rfl) (by kernel_rfl) (fun _ _ _ h => h) (Or.inl ⟨by rfl, ?_⟩) hHeld ?_
  rotate_left
  · intro w' hSw
    go_simp
    try with_reducible rfl
  simp only [Act.put, List.setIfInBounds_toArray, List.set_cons_zero, List.set_cons_succ]
  refine Gen.take (i := 10) (k := 11) (v := ?_) rfl rfl (by kernel_rfl) (by kernel_rfl) (by kernel_rfl) (by kernel_rfl) (by kernel_rfl) (by kernel_rfl) (fun _ _ _ h => h) (Or.inl ⟨by rfl, ?_⟩) hHeld ?_
  rotate_left
  · intro w' hSw
    go_simp
    try with_reducible rfl
  simp only [Act.put, List.setIfInBounds_toArray, List.set_cons_zero, List.set_cons_succ]
  refine Gen.take (i := 11) (k := 12) (v := ?_) rfl rfl (by kernel_rfl) (by kernel_rfl) (by kernel_rfl) (by kernel_rfl) (by kernel_rfl) (by kernel_rfl) (fun _ _ _ h => h) (Or.inl ⟨by rfl, ?_⟩) hHeld ?_
  rotate_left
  · intro w' hSw
    go_simp
    try with_reducible rfl
  simp only [Act.put, List.setIfInBounds_toArray, List.set_cons_zero, List.set_cons_succ]
  refine Gen.take (i := 12) (k := 13) (v := ?_) rfl rfl (by kernel_rfl) (by kernel_rfl) (by kernel_rfl) (by kernel_rfl) (by kernel_rfl) (by kernel_rfl) (fun _ _ _ h => h) (Or.inl ⟨by rfl, ?_⟩) hHeld ?_
  rotate_left
  · intro w' hSw
    go_simp
    try with_reducible rfl
  simp only [Act.put, List.setIfInBounds_toArray, List.set_cons_zero, List.set_cons_succ]
  refine Gen.one (i := 13) (by kernel_rfl) rfl rfl (fun K hK => ?_)
  go_simp
  have hb5 : Below w2.heap.size w2 (w2.alloc (.cells #[.int .i64 o, .string d, .int .i64 vv, .int .i64 u, .int .i64 (tm + 1)] 167)).drew := ((Below.refl _ _).alloc (Nat.le_refl _) _).drew
  refine hK.out _ _ ⟨(hb5.cell (p := ⟨r, 0, none⟩) hr2).trans c0, (hb5.cell (p := ⟨r, 1, none⟩) hr2).trans c1, (hb5.cell (p := ⟨w.heap.size, 0, none⟩) hq2).trans b0, (hb5.cell (p := ⟨w.heap.size, 1, none⟩) hq2).trans b1⟩ (fun hHeld => ?_)
  clear hK K
  try simp only [Act.put, List.setIfInBounds_toArray, List.set_cons_zero, List.set_cons_succ]
  refine Gen.one (i := 14) (by kernel_rfl) rfl rfl (fun K hK => ?_)
  have hsz5 := hb5.size
  refine wp_append_own _ (.tmp 22) (.tmp 31) 121 rfl B 167 i0 (.agg #[.int .i64 0, .string ⟨#[]⟩, .int .i64 0, .int .i64 0, .int .i64 0]) 5 48 Tryd.underlying121 hi hz0 hz1 hz2 rfl (by decide) _ _ _ (by rfl) (row_below hrow2 hb5) ⟨w2.heap.size, 0, none⟩ 1 1 (icells ⟨⟨o, d, vv, u⟩, tm + 1⟩) (by rfl) rfl (item_made w2 ⟨⟨o, d, vv, u⟩, tm + 1⟩) (icells_one _) e3 e4 (by have := HO2.size; omega) ?_
  intro v1 w6 hown1 hg1 _
  have hrow6 : Row w6 B v1 (S ++ [⟨⟨o, d, vv, u⟩, tm + 1⟩]) := Row.app hown1
  have hO6 : Ob [r] w w6 := (HO2.trans (Ob.of_below hb5)).grown hg1 (fun g hg => .inr (Nat.le_of_lt (hge2 g hg)))
  have hblk6 : w6.heap[r]? = some (.cells #[.slice va S.length vc, .int .i64 (tm + 1)] 123) := (hg1.block r (by omega) (fun e => hgr e.symm)).trans ((hb5.block r hr2).trans hblk)
  have hv6 : w6.cell? ⟨w.heap.size, 0, none⟩ = some (.string d) ∧ w6.cell? ⟨w.heap.size, 1, none⟩ = some (.int .i64 vv) := by
    have hbq : w6.heap[w.heap.size]? = w2.heap[w.heap.size]? := (hg1.block w.heap.size (by omega) (fun e => hgq e.symm)).trans (hb5.block _ hq2)
    exact ⟨(World.cell?_of_block (a := ⟨w.heap.size, 0, none⟩) hbq).trans b0, (World.cell?_of_block (a := ⟨w.heap.size, 1, none⟩) hbq).trans b1⟩
  have m0 : w6.cell? ⟨r, 0, none⟩ = some (.slice va S.length vc) := by rw [cell_of_row _ _ _ _ _ _ hblk6]; rfl
  have m1 : w6.cell? ⟨r, 1, none⟩ = some (.int .i64 (tm + 1)) := by rw [cell_of_row _ _ _ _ _ _ hblk6]; rfl
  have m2 : w6.frozen? ⟨r, 0, none⟩ = false := by simp [World.frozen?, hblk6]
  obtain ⟨va1, vc1, rfl, _⟩ := hrow6.shape
  refine hK.out _ _ ⟨m0, m1, hv6.1, hv6.2⟩ (fun hHeld => ?_)
  clear hK K
  try simp only [Act.put, List.setIfInBounds_toArray, List.set_cons_zero, List.set_cons_succ]
  refine Gen.take (i := 15) (k := 16) (v := ?_) rfl rfl (by kernel_rfl) (by kernel_rfl) (by kernel_rfl) (by kernel_rfl) (by kernel_rfl) (by kernel_rfl) (fun _ _ _ h => h) (Or.inl ⟨by rfl, ?_⟩) hHeld ?_
  rotate_left
  · intro w' hSw
    go_simp
    try with_reducible rfl
  simp only [Act.put, List.setIfInBounds_toArray, List.set_cons_zero, List.set_cons_succ]
  refine Gen.take (i := 16) (k := 17) (v := ?_) rfl rfl (by kernel_rfl) (by kernel_rfl) (by kernel_rfl) (by kernel_rfl) (by kernel_rfl) (by kernel_rfl) (fun _ _ _ h => h) (Or.inl ⟨by rfl, ?_⟩) hHeld ?_
  rotate_left
  · intro w' hSw
    go_simp
    try with_reducible rfl
  simp only [Act.put, List.setIfInBounds_toArray, List.set_cons_zero, List.set_cons_succ]
  refine Gen.last (i := 17) (by kernel_rfl) rfl rfl (by kernel_rfl) (by kernel_rfl) (fun K hK => ?_)
  go_simp
  refine hK.out _ _ ?_
  clear hK K hHeld
  have el : (S ++ [(⟨⟨o, d, vv, u⟩, tm + 1⟩ : It)]).length = S.length + 1 := by simp
  have hRn := RefIs.laid hblk6 hrow6 hrlt
  rw [el] at hRn
  have hOn := hO6.setCell (q := r) (i := 0) (by simp) (.slice va1 (S.length + 1) vc1)
  generalize w6.setCell ⟨r, 0, none⟩ (.slice va1 (S.length + 1) vc1) = w7 at hRn hOn ⊢
  have hpn := hpf.append_right [(⟨⟨o, d, vv, u⟩, tm + 1⟩ : It)]
  have hFl := hpf.length_eq
  have c7 := hRn.c0
  clear hO6 m0 m1 m2 hv6 hrow6 hown1 hg1 hblk6 hb5 hsz5 hrow2 hblk hfr b0 b1 c0 c1 hge2 hgr hgq HO2 hr2 hq2 e3 e4 hi hz0 hz1 hz2 hpf
  have hOH : Hid (Ob [r] w w7) := hOn
  have hB7 : B ≤ w7.heap.size := by have := hOn.size; omega
  clear hOn
  by_cases h6 : S.length = 6
  · rw [if_pos (by omega)] at HPP
    obtain ⟨x, F', rfl⟩ : ∃ x F', F = x :: F' := by
      cases F with
      | nil => simp at hFl; omega
      | cons x F' => exact ⟨x, F', rfl⟩
    have HH : Hid (putP P ⟨o, d, vv, u⟩ tm = F' ++ [⟨⟨o, d, vv, u⟩, tm + 1⟩]) := HPP
    have hfp := hpn.filter (others x.e.o)
    rw [List.cons_append] at hfp hof
    rw [filter_head hof] at hfp
    have hobj := robjs_any r B _ _ _ (tm + 1) w7 hRn hpn hof ht (by rw [el]; omega)
    have h6' : (6 : Int) < (S.length : Int) + 1 := by omega
    have hel7 : (S ++ [(⟨⟨o, d, vv, u⟩, tm + 1⟩ : It)]).length ≤ 7 := by rw [el]; omega
    clear HPP hpn
    go_wp2_with fail
    refine hobj.mono ?_
    rintro e w8 ⟨v8, rfl, hI8, hb8⟩
    obtain ⟨ao, cc, rfl, hsh⟩ := hI8.shape
    obtain ⟨g, rfl, hcell⟩ := hsh (by simp)
    have hc8 := hcell 0 (by simp)
    have hc8' : w8.cell? ⟨g, 0, none⟩ = some (.int .i64 x.e.o) := hc8
    have hlen8 : ((x :: F' ++ [(⟨⟨o, d, vv, u⟩, tm + 1⟩ : It)]).map (·.e.o)).length = 7 := by simp at hFl ⊢; omega
    rw [hlen8]
    have hR8 := hRn.below hb8
    have hdrop := rdrop_any x.e.o r B _ _ (tm + 1) w8 hR8 (by have := hb8.size; omega) hel7
    clear hobj hsh hcell hc8 hI8 hR8 hof c7
    go_wp2_with fail
    refine hdrop.mono ?_
    rintro e w9 ⟨rfl, ⟨v9, hR9, _⟩, hO9⟩
    go_wp2_with fail
    go_end0
    refine ⟨rfl, ⟨v9, _, hR9, ?_⟩, (hOH.out.trans (Ob.of_below hb8)).trans hO9⟩
    rw [HH.out]
    exact hfp
  · rw [if_neg (by omega)] at HPP
    have HH : Hid (putP P ⟨o, d, vv, u⟩ tm = F ++ [⟨⟨o, d, vv, u⟩, tm + 1⟩]) := HPP
    have h6' : ¬ (6 : Int) < (S.length : Int) + 1 := by omega
    clear HPP hof
    go_wp2_with fail
    go_end0
    refine ⟨rfl, ⟨_, _, hRn, ?_⟩, hOH.out⟩
    rw [HH.out]
    exact hpn
end Go.Proofs.YtbebfliimjjohaaDoor.Cache
