/-
  A disk's zero value.
-/
import Derived.Test.YtbebfliimjjohaaDoorWalDisk
namespace Go.Proofs.YtbebfliimjjohaaDoor.Wal
open Go.RowKit

def isZero : Value → Bool
  | .int .u8 0 => true
  | _ => false
theorem isZero_eq {v : Value} (h : isZero v = true) : v = .int .u8 0 := by
  unfold isZero at h
  split at h
  · rfl
  · cases h
theorem zero_head : (Tryd.zeroCells68.toList.take 12400).all isZero = true := by kernel_rfl
theorem zero_tail : Tryd.zeroCells68.toList.drop 12400 = [.bool false, .int .i64 0] := by kernel_rfl
theorem zero_at (i : Nat) (h : i < 12400) : Tryd.zeroCells68[i]? = some (.int .u8 0) := by
  have hl : 12400 < Tryd.zeroCells68.toList.length := by
    have := congrArg List.length zero_tail
    rw [List.length_drop] at this
    simp only [List.length_cons, List.length_nil] at this
    omega
  rw [← Array.getElem?_toList]
  have hi : i < Tryd.zeroCells68.toList.length := by omega
  have hm : (Tryd.zeroCells68.toList.take 12400)[i]? = some Tryd.zeroCells68.toList[i] := by
    rw [List.getElem?_take, if_pos h, List.getElem?_eq_getElem hi]
  rw [List.getElem?_eq_getElem hi, isZero_eq (List.all_eq_true.1 zero_head _ (List.mem_of_getElem? hm))]
theorem zero_end (i : Nat) : Tryd.zeroCells68[12400 + i]? = [Value.bool false, .int .i64 0][i]? := by
  rw [← Array.getElem?_toList, ← List.getElem?_drop, zero_tail]

theorem zero_disk (w : World) (t : TypeId) : DiskIs (w.alloc (.cells Tryd.zeroCells68 t)) w.heap.size [] false 0 := by
  have hc : ∀ i, i < 12400 → (w.alloc (.cells Tryd.zeroCells68 t)).cell? ⟨w.heap.size, i, none⟩ = some (.int .u8 0) := fun i hi => by
    rw [cell_of_row _ _ _ _ _ _ (heap_alloc_new w _), zero_at i hi]
  have hb : ∀ i, (w.alloc (.cells Tryd.zeroCells68 t)).cell? ⟨w.heap.size, 12400 + i, none⟩ = [Value.bool false, .int .i64 0][i]? := fun i => by
    rw [cell_of_row _ _ _ _ _ _ (heap_alloc_new w _), zero_end]
  refine ⟨fun k hk => by simp at hk, fun k hk j hj => ⟨by rw [hc _ (by omega)]; rfl, by simp⟩, fun k _ hk => hc _ (by omega), hb 0, hb 1, fun i => by simp, by simp, by simp⟩
end Go.Proofs.YtbebfliimjjohaaDoor.Wal
