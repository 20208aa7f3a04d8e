/-
  Contracts of New of both tables over the turned program.
-/
import Derived.Test.YtbebfliimjjohaaDoorLeaseFlush
import Derived.Carry
namespace Go.Proofs.YtbebfliimjjohaaDoor.Lease
open Go.RowKit Go.Maps
open Num (inB)

theorem frozen_of {w : World} {t : Nat} {cs : Array Value} {T : TypeId} (h : w.heap[t]? = some (.cells cs T)) (i : Nat) : w.frozen? ⟨t, i, none⟩ = false := by
  unfold World.frozen?
  dsimp only
  rw [h]
  simp
set_option maxRecDepth 100000 in
theorem new_any (w : World) :
    Calls Tryd.prog 36 #[] w fun e w' => e = .returned (tp (w.heap.size + 1)) ∧ TabIs w' (w.heap.size + 1) w.heap.size (.map []) (fun _ => 0) (fun _ => 0) 0 ∧ Below w.heap.size w w' ∧ w'.heap.size = w.heap.size + 2 := by
  have hm := fun (t : TypeId) (w : World) => run_makeMap (P := Tryd.prog) t w
  go_enter Tryd.func36, Tryd.ntmps36
  go_wp2
  go_ret
  have hs : (w.alloc (Obj.map #[] 0)).heap.size = w.heap.size + 1 := by simp
  have hB := heap_alloc_new (w.alloc (Obj.map #[] 0)) (.cells #[.map (some w.heap.size), .int .i64 0, .int .i64 0, .int .i64 0, .int .i64 0, .int .i64 0, .int .i64 0, .int .i64 0, .int .i64 0] 162)
  rw [hs] at hB
  have hbl := ((Below.refl w.heap.size w).alloc (Nat.le_refl _) (Obj.map #[] 0)).alloc (by simp) (.cells #[.map (some w.heap.size), .int .i64 0, .int .i64 0, .int .i64 0, .int .i64 0, .int .i64 0, .int .i64 0, .int .i64 0, .int .i64 0] 162)
  have hm2 := (World.ownsMap_made w Tryd.prog 164 (plainElem (H := Unit) Tryd.prog 3)).alloc (.cells #[.map (some w.heap.size), .int .i64 0, .int .i64 0, .int .i64 0, .int .i64 0, .int .i64 0, .int .i64 0, .int .i64 0, .int .i64 0] 162)
  refine ⟨rfl, ⟨?_, fun i hi => ?_, fun i hi => ?_, fun i => ?_, hm2, fun i => ⟨⟨by omega, by omega⟩, by omega, by omega⟩⟩, hbl, by simp⟩
  · rw [cell_of_row _ _ _ _ _ _ hB]; rfl
  · rw [cell_of_row _ _ _ _ _ _ hB]
    match i, hi with
    | 0, _ => rfl
    | 1, _ => rfl
    | 2, _ => rfl
    | 3, _ => rfl
  · rw [cell_of_row _ _ _ _ _ _ hB]
    match i, hi with
    | 0, _ => rfl
    | 1, _ => rfl
    | 2, _ => rfl
    | 3, _ => rfl
  · exact frozen_of hB i
set_option maxRecDepth 100000 in
theorem rnew_any (w : World) :
    Calls Tryd.prog 37 #[] w fun e w' => e = .returned (tp (w.heap.size + 3)) ∧ RefIs w' (w.heap.size + 3) w.heap.size (w.heap.size + 1) (w.heap.size + 2) (.map []) (.map []) (.map []) 0 ∧ Below w.heap.size w w' ∧ w'.heap.size = w.heap.size + 4 := by
  have hm := fun (t : TypeId) (w : World) => run_makeMap (P := Tryd.prog) t w
  go_enter Tryd.func37, Tryd.ntmps37
  go_wp2
  go_ret
  have hs1 : (w.alloc (Obj.map #[] 0)).heap.size = w.heap.size + 1 := by simp
  have hs2 : ((w.alloc (Obj.map #[] 0)).alloc (Obj.map #[] 0)).heap.size = w.heap.size + 2 := by simp
  have hs3 : (((w.alloc (Obj.map #[] 0)).alloc (Obj.map #[] 0)).alloc (Obj.map #[] 0)).heap.size = w.heap.size + 3 := by simp
  have hB := heap_alloc_new (((w.alloc (Obj.map #[] 0)).alloc (Obj.map #[] 0)).alloc (Obj.map #[] 0)) (.cells #[.map (some w.heap.size), .map (some (w.heap.size + 1)), .map (some (w.heap.size + 1 + 1))] 102)
  rw [hs3] at hB
  have hbl := ((((Below.refl w.heap.size w).alloc (Nat.le_refl _) (Obj.map #[] 0)).alloc (by simp) (Obj.map #[] 0)).alloc (by simp; omega) (Obj.map #[] 0)).alloc (by simp; omega) (.cells #[.map (some w.heap.size), .map (some (w.heap.size + 1)), .map (some (w.heap.size + 1 + 1))] 102)
  have m1 := (((World.ownsMap_made w Tryd.prog 103 (plainElem (H := Unit) Tryd.prog 3)).alloc (Obj.map #[] 0)).alloc (Obj.map #[] 0)).alloc (.cells #[.map (some w.heap.size), .map (some (w.heap.size + 1)), .map (some (w.heap.size + 1 + 1))] 102)
  have m2 := ((World.ownsMap_made (w.alloc (Obj.map #[] 0)) Tryd.prog 3 (plainElem (H := Unit) Tryd.prog 3)).alloc (Obj.map #[] 0)).alloc (.cells #[.map (some w.heap.size), .map (some (w.heap.size + 1)), .map (some (w.heap.size + 1 + 1))] 102)
  have m3 := (World.ownsMap_made ((w.alloc (Obj.map #[] 0)).alloc (Obj.map #[] 0)) Tryd.prog 3 (plainElem (H := Unit) Tryd.prog 3)).alloc (.cells #[.map (some w.heap.size), .map (some (w.heap.size + 1)), .map (some (w.heap.size + 1 + 1))] 102)
  rw [hs1] at m2
  rw [hs2] at m3
  refine ⟨rfl, ⟨?_, ?_, ?_, m1, m2, m3, by omega, by omega, by omega⟩, hbl, by simp⟩
  · rw [cell_of_row _ _ _ _ _ _ hB]; rfl
  · rw [cell_of_row _ _ _ _ _ _ hB]; rfl
  · rw [cell_of_row _ _ _ _ _ _ hB]; rfl
end Go.Proofs.YtbebfliimjjohaaDoor.Lease
