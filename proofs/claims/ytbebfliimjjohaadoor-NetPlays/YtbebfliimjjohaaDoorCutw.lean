/-
  What wire.cutNumber finds, over the turned program.
-/
import Derived.Test.YtbebfliimjjohaaDoorMay
import Derived.Test.YtbebfliimjjohaaDoorCut
import Derived.Test.YtbebfliimjjohaaDoorBits
import Derived.Deep.QuietTactic
import Derived.BigQuiet
import Derived.BigRegion
namespace Go.Proofs.YtbebfliimjjohaaDoor.Wire
open Go.RowKit
open Num (val CutOk CutNo)

/-- The slice v has these bytes, in a block below B. -/
def Sees (w : World) (B : Nat) (v : Value) (l : List Int) : Prop :=
  ∃ ao c, v = .slice ao l.length c ∧ l.length ≤ c ∧ c ≤ 9223372036854775807 ∧ (∀ x ∈ l, 0 ≤ x ∧ x < 256) ∧
    (0 < l.length → ∃ b off, ao = some ⟨b, off, none⟩ ∧ b < B ∧ ∀ j, j < l.length → w.cell? ⟨b, off + j, none⟩ = some (.int .u8 (l.getD j 0)))

/-- The number x was cut off the bytes l (of block b), and v is what stands behind it. -/
def Cuts (w : World) (b : Nat) (l : List Int) (x : Int) (v : Value) : Prop :=
  ∃ rest ao c, v = .slice ao rest.length c ∧ rest.length ≤ l.length ∧ CutOk l x rest ∧ rest.length ≤ c ∧ c ≤ 9223372036854775807 ∧ (∀ x ∈ rest, 0 ≤ x ∧ x < 256) ∧
    (0 < rest.length → ∃ off, ao = some ⟨b, off, none⟩ ∧ ∀ j, j < rest.length → w.cell? ⟨b, off + j, none⟩ = some (.int .u8 (rest.getD j 0)))

theorem cut_fin {w : World} {b off k : Nat} {l : List Int} {x y z : Int} (hlt : k < l.length) (h128 : y < 128) (hby : ∀ x ∈ l, 0 ≤ x ∧ x < 256) (hY : l.getD k 0 = y) (hX : k ≤ 6 → x = val (l.take k)) (hG : ∀ j, j < k → 128 ≤ l.getD j 0)
    (hC : ∀ j, j < l.length → w.cell? ⟨b, off + j, none⟩ = some (.int .u8 (l.getD j 0))) (hZ : k ≤ 5 → z = y % 128 * 128 ^ k) (_hy0 : 0 ≤ y) (_hy1 : y < 256) :
    CutOk l (bits .or .i64 x z) (l.drop (k + 1)) ∧ (∀ x ∈ l.drop (k + 1), 0 ≤ x ∧ x < 256) ∧ ∀ j, j < (l.drop (k + 1)).length → w.cell? ⟨b, off + (k + 1) + j, none⟩ = some (.int .u8 ((l.drop (k + 1)).getD j 0)) := by
  refine ⟨Num.cutOk_mk hlt (by rw [hY]; exact h128) hG (fun h5 => ?_), fun x hx => hby x (List.mem_of_mem_drop hx), fun j hj => ?_⟩
  · have hb := Num.val_bd (l.take k)
    rw [List.length_take, show min k l.length = k by omega] at hb
    rw [Num.val_take_succ l k hlt, hY, hX (by omega)]
    exact or_any _ _ _ k (by omega) hb (by omega) (by omega) (hZ h5)
  · rw [List.length_drop] at hj
    have h := hC (k + 1 + j) (by omega)
    rw [← Nat.add_assoc] at h
    rw [h]
    simp only [List.getD_eq_getElem?_getD, List.getElem?_drop]

set_option maxHeartbeats 1000000 in
set_option maxRecDepth 100000 in
theorem cut_some (b off c : Nat) (l : List Int) (w : World) (hl : 0 < l.length) (h300 : l.length ≤ 300) (hc1 : l.length ≤ c) (hc2 : c ≤ 9223372036854775807) (hby : ∀ x ∈ l, 0 ≤ x ∧ x < 256)
    (hcell : ∀ j, j < l.length → w.cell? ⟨b, off + j, none⟩ = some (.int .u8 (l.getD j 0))) :
    Calls Tryd.prog 87 #[.slice (some ⟨b, off, none⟩) l.length c] w fun e w' => Below w.heap.size w w' ∧
      ((e = .returned (.tuple #[.int .i64 0, .slice none 0 0, .bool false]) ∧ CutNo l) ∨
       (∃ x v', e = .returned (.tuple #[.int .i64 x, v', .bool true]) ∧ Cuts w b l x v')) := by
  go_enter Tryd.func87, Tryd.ntmps87
  go_wp2
  go_loop [2, 9] (fun n i => ∃ (k : Nat) (x : Int), k ≤ l.length ∧ i = .int .i64 k ∧ n = .int .i64 x ∧ (k ≤ 6 → x = val (l.take k)) ∧ ∀ j, j < k → 128 ≤ l.getD j 0) (fun _ i => l.length - (intOf i).toNat)
  case atStart => exact ⟨0, 0, by omega, rfl, rfl, fun _ => rfl, fun j hj => by omega⟩
  case round =>
    obtain ⟨k, x, hk, rfl, rfl, hx, hge⟩ := hrel
    by_cases hlt : k < l.length
    · have hck := hcell k hlt
      obtain ⟨y, hy⟩ : ∃ y, l.getD k 0 = y := ⟨_, rfl⟩
      have hyb : 0 ≤ y ∧ y < 256 := by
        rw [← hy, List.getD_eq_getElem?_getD, List.getElem?_eq_getElem hlt]
        exact hby _ (List.getElem_mem _)
      rw [hy] at hck
      have HY : Hid (l.getD k 0 = y) := hy
      have HX : Hid (k ≤ 6 → x = val (l.take k)) := hx
      have HG : Hid (∀ j, j < k → 128 ≤ l.getD j 0) := hge
      have HC : Hid (∀ j, j < l.length → w.cell? ⟨b, off + j, none⟩ = some (.int .u8 (l.getD j 0))) := hcell
      clear hy hx hge hcell
      obtain ⟨hy0, hy1⟩ := hyb
      obtain ⟨z, hz, hzv⟩ := shl_any Tryd.prog (y % 128) k (by omega) (by omega)
      have HZ : Hid (k ≤ 5 → z = y % 128 * 128 ^ k) := hzv
      clear hzv
      by_cases h128 : y < 128
      · go_wp2_with fail
        go_region
        all_goals go_wp2
        all_goals go_ret3
        all_goals
          have F := cut_fin hlt h128 hby HY.out HX.out HG.out HC.out HZ.out hy0 hy1
          refine ⟨(Below.refl _ _).drew, .inr ⟨_, _, rfl, l.drop (k + 1), _, _, by rw [List.length_drop]; rfl, by rw [List.length_drop]; omega, F.1, by rw [List.length_drop]; omega, by omega, F.2.1, fun hp => ?_⟩⟩
          first | exact ⟨off + (k + 1), rfl, F.2.2⟩ | exact absurd hp (by rw [List.length_drop]; omega)
      · go_wp2_with fail
        go_round
        case rel =>
          refine ⟨k + 1, bits .or .i64 x z, by omega, by go_num, rfl, fun h6 => ?_, fun j hj => ?_⟩
          · have hb := Num.val_bd (l.take k)
            rw [List.length_take, show min k l.length = k by omega] at hb
            rw [Num.val_take_succ l k hlt, HY.out, HX.out (by omega)]
            exact or_any _ _ _ k (by omega) hb (by omega) (by omega) (HZ.out (by omega))
          · rcases Nat.lt_or_ge j k with h | h
            · exact HG.out j h
            · obtain rfl : j = k := by omega
              rw [HY.out]; omega
        case measure => simp [intOf]; omega
    · have HG : Hid (CutNo l) := fun n r h => Num.cut_miss (fun j hj => hge j (by omega)) h
      clear hge hx
      go_wp2_with fail
      go_ret3
      exact ⟨Below.refl _ _, .inl ⟨rfl, HG.out⟩⟩
end Go.Proofs.YtbebfliimjjohaaDoor.Wire
