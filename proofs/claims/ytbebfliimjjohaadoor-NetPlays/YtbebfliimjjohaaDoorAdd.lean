/-
  What wire.addNumber appends: a number's bytes, as a contract of its call over the turned program.
-/
import Derived.Test.YtbebfliimjjohaaDoorRows
import Derived.WalkKit
import Derived.ProofKit
import Derived.OpenShut
import Derived.WalkLawsBesides
import Derived.Outline
import Derived.Test.YtbebfliimjjohaaDoorNum
namespace Go.Proofs.YtbebfliimjjohaaDoor.Wire
open Go.RowKit
open Num (inB nb numB body ints M okB leaseN)

theorem info_byte : (Tryd.prog.info? 5).map (fun i => (i.zero, i.size, i.bytes)) = some (some (.int .u8 0), 1, 1) := by kernel_rfl

/-- The slice v of the call's own (blocks from B on) has just these bytes. -/
def Has (w : World) (B : Nat) (v : Value) (l : List Int) : Prop := w.ownsRow B 5 1 v l.length (l.map (Value.int .u8))

theorem Has.row {w : World} {B : Nat} {v : Value} {l : List Int} (h : Has w B v l) : w.ownsRow B 5 1 v l.length (l.map (Value.int .u8)) := h
theorem Has.alloc {w : World} {B : Nat} {v : Value} {l : List Int} (h : Has w B v l) (o : Obj) : (w.alloc o).ownsRow B 5 1 v l.length (l.map (Value.int .u8)) := World.ownsRow.alloc h o
theorem Has.nil (w : World) (B : Nat) : Has w B (.slice none 0 0) [] := World.ownsRow_nil _ _ _ _

theorem one_new (w : World) (x : Value) (t : TypeId) : ∀ j u, [x][j]? = some u → (w.alloc (.cells #[x] t)).cell? ((⟨w.heap.size, 0, none⟩ : Addr).add j) = some u := by
  intro j u hj
  match j, hj with
  | 0, hj => simp at hj; subst hj; simp [Addr.add]
  | n + 1, hj => simp at hj

theorem one_cell (k : IntKind) (n : Int) : ∀ u ∈ [Value.int k n], u.oneCell' = true := by intro u hu; simp at hu; subst hu; rfl

/-- What an append behind a new block leaves. -/
theorem Has.app {w wr w1 : World} {B m : Nat} {v v' : Value} {l news : List Int} {o : Obj} (h : Has wr B v l) (hb : Below B w wr) (hB : B ≤ wr.heap.size) (hm : m = news.length)
    (hown : w1.ownsRow B 5 1 v' (l.length + m) (l.map (Value.int .u8) ++ news.map (Value.int .u8))) (hg : (wr.alloc o).grownBy w1 v.ownBlock) : Has w1 B v' (l ++ news) ∧ Below B w w1 := by
  refine ⟨?_, ?_⟩
  · unfold Has
    rw [List.length_append, List.map_append, ← hm]
    exact hown
  · exact (hb.alloc hB o).grown hg (by simp; omega) (fun k hk => ((h.alloc o).lt k hk).1)

theorem nb_part {n k : Nat} {ys : List Int} (h : ys ++ nb k = nb n) (hk : ¬ k < 128) : (ys ++ [((k : Int) % 128 + 128)]) ++ nb (k / 128) = nb n := by
  rw [← h, Num.nb_ge hk]
  simp

theorem nb_last {n k : Nat} {ys : List Int} (h : ys ++ nb k = nb n) (hk : k < 128) : ys ++ [(k : Int)] = nb n := by
  rw [← h, Num.nb_lt hk]

theorem part_le {n k : Nat} {ys : List Int} (h : ys ++ nb k = nb n) (hn : n ≤ 1099511627776) : ys.length ≤ 6 := by
  have h1 : (nb n).length ≤ 6 := Num.nb_length 5 n (by have : (128 : Nat) ^ (5 + 1) = 4398046511104 := by decide
                                                       omega)
  rw [← h, List.length_append] at h1
  omega

set_option maxHeartbeats 1000000 in
set_option maxRecDepth 100000 in
theorem add_any (B : Nat) (n : Nat) (xs : List Int) (v : Value) (w : World) (hn : n ≤ 1099511627776) (hx : xs.length ≤ 1000) (hB : B ≤ w.heap.size) (hown : Has w B v xs) :
    Calls Tryd.prog 67 #[v, .int .i64 n] w fun e w' => ∃ v', e = .returned v' ∧ Has w' B v' (xs ++ nb n) ∧ Below B w w' := by
  obtain ⟨i0, hi, hz0, hz1, hz2⟩ := info_parts info_byte
  go_enter Tryd.func67, Tryd.ntmps67
  go_wp2
  go_loopw [0, 1] (fun v i wr => ∃ (k : Nat) (ys : List Int), k ≤ n ∧ i = .int .i64 k ∧ ys ++ nb k = nb n ∧ Has wr B v (xs ++ ys) ∧ Below B w wr) (fun _ i _ => (intOf i).toNat)
  case atStart => exact ⟨n, [], Nat.le_refl _, rfl, rfl, by simpa using hown, Below.refl _ _⟩
  case round =>
    obtain ⟨k, ys, hk, rfl, hys, hwn, hbl⟩ := hrel
    have HY : Hid (ys ++ nb k = nb n) := hys
    have hyl := part_le hys hn
    clear hys
    have hBr : B ≤ wr.heap.size := by have := hbl.size; omega
    have hl : (xs ++ ys).length ≤ 1006 := by rw [List.length_append]; omega
    obtain ⟨zs, hzs⟩ : ∃ zs, xs ++ ys = zs := ⟨_, rfl⟩
    rw [hzs] at hwn hl
    have HZ : Hid (xs ++ ys = zs) := hzs
    clear hzs
    by_cases h : k < 128
    · go_wp2_with (at_builtin; refine wpList_append_own _ rfl _ _ 33 rfl B 5 i0 (.int .u8 0) 1 1 Tryd.underlying33 hi hz0 hz1 hz2 rfl (by decide) _ _ _ rfl (hwn.alloc _) ⟨wr.heap.size, 0, none⟩ 1 1 [.int .u8 (k : Int)] rfl rfl (one_new _ _ _) (one_cell _ _) ?c3 ?c4 ?c5 ?_)
      case c3 => unfold maxLen; omega
      case c4 => omega
      case c5 => simp; omega
      intro v' w1 hown' hgrow _
      have R := hwn.app (news := [(k : Int)]) hbl hBr rfl hown' hgrow
      rw [← HZ.out, List.append_assoc, nb_last HY.out h] at R
      clear hown' hgrow hwn hbl
      go_wp2
      go_ret
      exact ⟨_, rfl, R⟩
    · go_wp2_with (at_builtin; refine wpList_append_own _ rfl _ _ 33 rfl B 5 i0 (.int .u8 0) 1 1 Tryd.underlying33 hi hz0 hz1 hz2 rfl (by decide) _ _ _ rfl (hwn.alloc _) ⟨wr.heap.size, 0, none⟩ 1 1 [.int .u8 ((k : Int) % 128 + 128)] rfl rfl (one_new _ _ _) (one_cell _ _) ?d3 ?d4 ?d5 ?_)
      case d3 => unfold maxLen; omega
      case d4 => omega
      case d5 => simp; omega
      intro v' w1 hown' hgrow _
      have R := hwn.app (news := [((k : Int) % 128 + 128)]) hbl hBr rfl hown' hgrow
      rw [← HZ.out, List.append_assoc] at R
      have P := nb_part HY.out h
      have HP : Hid ((ys ++ [((k : Int) % 128 + 128)]) ++ nb (k / 128) = nb n) := P
      clear hown' hgrow hwn hbl P
      go_wp2
      go_roundw
      case rel => exact ⟨k / 128, _, by omega, by go_num, HP.out, R.1, R.2⟩
      case measure => simp [intOf]; omega
end Go.Proofs.YtbebfliimjjohaaDoor.Wire
