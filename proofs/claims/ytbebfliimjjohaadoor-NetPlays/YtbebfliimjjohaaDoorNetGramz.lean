/-
  What the law's closure does with a datagram whose bytes are nil, over the turned program.
-/
import Derived.Test.YtbebfliimjjohaaDoorNetGramn
namespace Go.Proofs.YtbebfliimjjohaaDoor.Net
open Go.RowKit
open Wire (Has bcell Sees conv_sees)
open Num (strOf ints)

theorem three_new (w : World) (x y : Value) (o1 o2 : Obj) : ∀ j u, [x, y][j]? = some u → (((w.alloc o1).alloc o2).alloc (.cells #[x, y] 52)).drew.cell? ((⟨w.heap.size + 1 + 1, 0, none⟩ : Addr).add j) = some u := by
  have e : ((w.alloc o1).alloc o2).heap.size = w.heap.size + 1 + 1 := by simp
  have h := two_new1 ((w.alloc o1).alloc o2) x y 52
  rw [e] at h
  exact h

theorem undrew {X w2 : World} {o : Obj} {r : Option Nat} (h : (X.alloc o).drew.grownBy w2 r) : (X.drew.alloc o).grownBy w2 r := ⟨h.os, h.tape, h.output, h.size, h.block⟩

theorem gram_end3 {w w2 : World} {o1 o2 o3 : Obj} {B q : Nat} {e : TypeId} {s n : Nat} {v x : Value} {xs : List Value} (ho : w.ownsRow B e s v n xs) (hg : (((w.alloc o1).alloc o2).alloc o3).drew.grownBy w2 v.ownBlock) (hq : q < w.heap.size) (hB : q < B) (hc : w.cell? ⟨q, 0, none⟩ = some x) (hf : w.frozen? ⟨q, 0, none⟩ = false) : w2.cell? ⟨q, 0, none⟩ = some x ∧ w2.frozen? ⟨q, 0, none⟩ = false := by
  have hb : w2.heap[q]? = w.heap[q]? := by
    rw [hg.block q (by simp; omega) (fun h => by have := (ho.lt q h.symm).1; omega)]
    show (((w.alloc o1).alloc o2).alloc o3).heap[q]? = _
    rw [Below.heap_alloc _ _ _ (by simp; omega), Below.heap_alloc _ _ _ (by simp; omega), Below.heap_alloc _ _ _ hq]
  exact ⟨(World.cell?_of_block hb).trans hc, (World.frozen?_of_block hb).trans hf⟩

set_option maxHeartbeats 8000000 in
set_option maxRecDepth 100000 in
theorem gsend_nil (B q ql : Nat) (gs : List G) (to : Int) (w : World) (h : GramIs w B q gs) (hl : gs.length < 200) :
    Calls Tryd.prog 22 #[.agg #[.int .i64 to, .slice none 0 0], .pointer (some ⟨q, 0, none⟩), .pointer (some ⟨ql, 0, none⟩)] w fun e w' => e = .returned (.tuple #[]) ∧ ∃ sv, GramIs w' B q (gs ++ [(to, sv, [])]) ∧ Only B 52 q w w' := by
  obtain ⟨⟨v, hv, hrow⟩, hfr, hlt, hle, hlen, hbytes⟩ := h
  obtain ⟨ao, c, rfl, hnc, _⟩ := row_shape hrow
  have hqs : q < w.heap.size := by omega
  have hf0 := hfr 0
  obtain ⟨i0, hi, hz0, hz1, hz2⟩ := info_parts info_gram
  obtain ⟨j0, hj, hy0, hy1, hy2⟩ := info_parts Wire.info_byte
  have e3 : gs.length + 1 ≤ maxLen := by unfold maxLen; omega
  have e4 : (gs.length + 1) * 32 ≤ 140737488355328 := by omega
  have hown0 := fun o1 => empty_row (o1 := o1) hle
  have hq3 : ∀ o1 o2 o3, (((w.alloc o1).alloc o2).alloc o3).cell? ⟨q, 0, none⟩ = some (.slice ao gs.length c) := fun o1 o2 o3 => by
    rw [World.cell?_alloc_lt _ _ ⟨q, 0, none⟩ (by simp; omega), World.cell?_alloc_lt _ _ ⟨q, 0, none⟩ (by simp; omega), World.cell?_alloc_lt _ _ ⟨q, 0, none⟩ hqs, hv]
  go_enter Tryd.func22, Tryd.ntmps22
  go_wp2_with fail
  go_region_law (first | (refine Wire.step_own rfl (wp_append_nil (.tmp 12) (.tmp 14) 33 rfl B 5 j0 1 Tryd.underlying33 hj _ _ _ (by simp [Act.eval]) (hown0 _) (by simp [Act.eval]) ?_)) | (refine Wire.step_own rfl (wp_append_own _ (.tmp 9) (.tmp 17) 50 rfl B 52 i0 (.agg #[.int .i64 0, .slice none 0 0]) 2 32 Tryd.underlying50 hi hz0 hz1 hz2 rfl (by decide) _ _ _ (by simp [Act.eval]) (((hrow.alloc _).alloc _).alloc _) ⟨w.heap.size + 1 + 1, 0, none⟩ 1 1 [.int .i64 to, .slice (some ⟨w.heap.size + 1, 0, none⟩) 0 0] (by simp [Act.eval]) rfl (three_new _ _ _ _ _) (two_one1 _ _ _ _) e3 e4 (by simp; omega) ?_); intro v2 w2 hown2 hg2 _; obtain ⟨ao2, c2, hv2, _, _⟩ := row_shape hown2; obtain ⟨n1, n2⟩ := gram_end3 hrow hg2 hqs hlt hv hf0; rw [hv2] at hown2; rw [hv2]))
  all_goals
    have F := gram_fin (bs := []) (World.grownBy.refl _ _) (hown0 _) ((hrow.alloc _).alloc _) (undrew hg2) hown2 n1 hqs hlt hle hfr hl hbytes (by simp) (by simp)
    clear hg2 hown2 n1 n2
    go_wp2
    go_end0
    exact ⟨rfl, _, F⟩

end Go.Proofs.YtbebfliimjjohaaDoor.Net
