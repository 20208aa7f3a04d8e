/-
  What wire.Encode answers: a message's bytes, or that it may not be, over the turned program.
-/
import Derived.Test.YtbebfliimjjohaaDoorMay
import Derived.Lib.AppendStr
namespace Go.Proofs.YtbebfliimjjohaaDoor.Wire
open Go.RowKit
open Num (inB nb numB body ints M okB leaseN)

theorem add_int (B : Nat) (x : Int) (xs : List Int) (v : Value) (w : World) (hn : numB x = true) (hx : xs.length ≤ 1000) (hB : B ≤ w.heap.size) (hown : Has w B v xs) :
    Calls Tryd.prog 67 #[v, .int .i64 x] w fun e w' => ∃ v', e = .returned v' ∧ Has w' B v' (xs ++ nb x.toNat) ∧ Below B w w' := by
  have h := Num.of_inB_true hn
  obtain ⟨n, rfl⟩ := Int.eq_ofNat_of_zero_le h.1
  exact add_any B n xs v w (by omega) hx hB hown

theorem Has.mono {w : World} {B B' : Nat} {v : Value} {l : List Int} (h : Has w B v l) (hB : B' ≤ B) : Has w B' v l := by
  refine ⟨h.1, ?_⟩
  rcases h.2 with h | ⟨g, cap, cur, h1, h2, h3⟩
  · exact .inl h
  · exact .inr ⟨g, cap, cur, h1, by omega, h3⟩

theorem agg_index (b : Nat) : ∀ k : Nat, k < 7 → ∀ w, (Instr.index 138 (.agg (ptrs b)) (.int .i64 (k : Int))).run Tryd.prog w = .ok (.pointer (some ⟨b, k, none⟩)) w := by
  apply seven <;> (intro w; kernel_rfl)

theorem body_take (ns : List Int) (k : Nat) (h : k < ns.length) : body (ns.take (k + 1)) = body (ns.take k) ++ nb (ns.getD k 0).toNat := by
  rw [List.take_succ_eq_append_getElem h, Num.body_snoc, List.getD_eq_getElem?_getD, List.getElem?_eq_getElem h]
  rfl

theorem all_take {ns : List Int} (h : ns.all numB = true) (k : Nat) : (ns.take k).all numB = true := by
  rw [List.all_eq_true] at h ⊢
  exact fun x hx => h x (List.mem_of_mem_take hx)

theorem two_new (w : World) (x y : Value) (t : TypeId) : ∀ j u, [x, y][j]? = some u → (w.alloc (.cells #[x, y] t)).cell? ((⟨w.heap.size, 0, none⟩ : Addr).add j) = some u := by
  intro j u hj
  match j, hj with
  | 0, hj => simp at hj; subst hj; simp [Addr.add]
  | 1, hj => simp at hj; subst hj; simp [Addr.add]
  | n + 2, hj => simp at hj

theorem two_cell (k : IntKind) (m n : Int) : ∀ u ∈ [Value.int k m, Value.int k n], u.oneCell' = true := by intro u hu; simp at hu; rcases hu with rfl | rfl <;> rfl

set_option maxHeartbeats 1000000 in
set_option maxRecDepth 100000 in
theorem enc_bad (m : M) (w : World) (hd : m.d.size ≤ 1000) (hm : okB m = false) :
    Calls Tryd.prog 19 #[M.agg m] w fun e w' => e = .returned (.tuple #[.slice none 0 0, .iface 22 (.int .i64 1)]) ∧ Below w.heap.size w w' := by
  have HM : Hid (okB m = false) := hm
  clear hm
  have may := fun w => mayBe_any m w hd
  rw [HM.out] at may
  obtain ⟨k, c, n, e, s, o, v, l, d⟩ := m
  unfold M.agg at *
  dsimp only at *
  go_enter Tryd.func19, Tryd.ntmps19
  go_wp2_with (go_at_call 65; refine (may _).mono ?_; rintro e w' ⟨rfl, hb⟩)
  go_ret2
  exact ⟨rfl, ((Below.refl _ _).alloc (Nat.le_refl _) _).trans (hb.mono (by simp))⟩

/-- What of the box of a message is there behind two calls that make new blocks alone. -/
theorem enc_facts {w w1 w2 : World} {k c n e s o v : Int} {l : Bool} {d : ByteArray} {t : TypeId}
    (hb1 : Below (w.alloc (.cells #[.int .i64 k, .int .i64 c, .int .i64 n, .int .i64 e, .int .i64 s, .int .i64 o, .int .i64 v, .bool l, .string d] t)).heap.size (w.alloc (.cells #[.int .i64 k, .int .i64 c, .int .i64 n, .int .i64 e, .int .i64 s, .int .i64 o, .int .i64 v, .bool l, .string d] t)) w1)
    (hb2 : Below w1.heap.size w1 w2) :
    (∀ j, j < 7 → w2.cell? ⟨w.heap.size, j, none⟩ = some (.int .i64 ([k, c, n, e, s, o, v].getD j 0))) ∧ w2.cell? ⟨w.heap.size, 7, none⟩ = some (.bool l) ∧ w2.cell? ⟨w.heap.size, 8, none⟩ = some (.string d) ∧ w.heap.size < w2.heap.size ∧ Below w.heap.size w w2 := by
  have hz1 := hb1.size
  simp at hz1
  have hz2 := hb2.size
  have hc : ∀ j, w2.cell? ⟨w.heap.size, j, none⟩ = (w.alloc (.cells #[.int .i64 k, .int .i64 c, .int .i64 n, .int .i64 e, .int .i64 s, .int .i64 o, .int .i64 v, .bool l, .string d] t)).cell? ⟨w.heap.size, j, none⟩ := by
    intro j
    rw [(bcell hb2).1 _ _ (by omega), (bcell hb1).1 _ _ (by simp)]
  refine ⟨?_, by rw [hc]; simp, by rw [hc]; simp, by omega, (((Below.refl _ _).alloc (Nat.le_refl _) _).trans (hb1.mono (by simp))).trans (hb2.mono (by omega))⟩
  intro j hj
  rw [hc]
  revert j
  apply seven <;> simp

theorem Has.strCells {w : World} {B : Nat} {v : Value} {l : List Int} {d : ByteArray} (h : w.ownsRow B 5 1 v (l.length + d.size) (l.map (Value.int .u8) ++ Lib.strCells d)) : Has w B v (l ++ ints d) := by
  unfold Has
  rw [List.length_append, Num.ints_length, List.map_append]
  have e : (ints d).map (Value.int .u8) = Lib.strCells d := by unfold Num.ints Lib.strCells; rw [List.map_map]; rfl
  rw [e]
  exact h

set_option maxHeartbeats 4000000 in
set_option maxRecDepth 100000 in
theorem enc_ok (m : M) (w : World) (hd : m.d.size ≤ 1000) (hm : okB m = true) :
    Calls Tryd.prog 19 #[M.agg m] w fun e w' => ∃ v', e = .returned (.tuple #[v', .nilIface]) ∧ Has w' w.heap.size v' m.bytes ∧ Below w.heap.size w w' := by
  obtain ⟨i0, hi, hz0, hz1, hz2⟩ := info_parts info_byte
  have may := fun w => mayBe_any m w hd
  rw [hm] at may
  have hd2 : m.d.size ≤ 20 := by simp [okB] at hm; exact hm.1.2
  have hall : m.nums.all numB = true := by simp only [okB, Bool.and_eq_true] at hm; exact hm.2
  clear hm
  obtain ⟨k, c, n, e, s, o, v, l, d⟩ := m
  unfold M.agg at *
  dsimp only at *
  obtain ⟨ns, hns⟩ : ∃ ns, ns = [k, c, n, e, s, o, v] := ⟨_, rfl⟩
  have hbytes : M.bytes ⟨k, c, n, e, s, o, v, l, d⟩ = body ns ++ [leaseN l, (d.size : Int)] ++ ints d := by rw [hns]; rfl
  rw [hbytes]
  have hall' : ns.all numB = true := by rw [hns]; exact hall
  have hlen : ns.length = 7 := by rw [hns]; rfl
  clear hall hbytes
  go_enter Tryd.func19, Tryd.ntmps19
  go_wp2_with (first | (go_at_call 65; refine (may _).mono ?_; rintro e w1 ⟨rfl, hb1⟩) | (go_at_call 66; refine (numbers_any _ _).mono ?_; rintro e w2 ⟨rfl, hb2⟩))
  obtain ⟨hcell, hlease, hdata, hsz, hbw⟩ := enc_facts hb1 hb2
  rw [← hns] at hcell
  clear hb1 hb2 may hns
  have hidx := agg_index w.heap.size
  go_loopw [4, 13] (fun v i wr => ∃ j : Nat, j ≤ 7 ∧ i = .int .i64 j ∧ Has wr w2.heap.size v (body (ns.take j)) ∧ Below w2.heap.size w2 wr) (fun _ i _ => 7 - (intOf i).toNat)
  case atStart => exact ⟨0, by omega, rfl, by simpa [body] using Has.nil _ _, Below.refl _ _⟩
  case round =>
    obtain ⟨j, hj, rfl, hwn, hbl⟩ := hrel
    have hbz := hbl.size
    have hsm := Num.body_small _ (all_take hall' j)
    have hln : (body (ns.take j)).length ≤ 42 := by have := hsm.1; rw [List.length_take] at this; omega
    clear hsm
    by_cases hlt : j < 7
    · have hij := hidx j hlt
      have hcj : wr.cell? ⟨w.heap.size, j, none⟩ = some (.int .i64 (ns.getD j 0)) := ((bcell hbl).1 _ _ hsz).trans (hcell j hlt)
      have hgj : numB (ns.getD j 0) = true := by
        rw [List.getD_eq_getElem?_getD, List.getElem?_eq_getElem (by omega)]
        exact List.all_eq_true.1 hall' _ (List.getElem_mem _)
      have HT : Hid (body (ns.take (j + 1)) = body (ns.take j) ++ nb (ns.getD j 0).toNat) := body_take ns j (by omega)
      obtain ⟨x, hx⟩ : ∃ x, ns.getD j 0 = x := ⟨_, rfl⟩
      obtain ⟨zs, hzs⟩ : ∃ zs, body (ns.take j) = zs := ⟨_, rfl⟩
      rw [hx] at hcj hgj HT
      rw [hzs] at hwn hln HT
      clear hx hzs hidx
      go_wp2_with (go_at_call 67; refine (add_int _ _ _ _ _ hgj (by omega) hbz hwn).mono ?_; rintro e w3 ⟨v3, rfl, hw3, hb3⟩)
      go_roundw
      case rel => exact ⟨j + 1, by omega, by go_num, by rw [HT.out]; exact hw3, hbl.trans hb3⟩
      case measure => simp [intOf]; omega
    · obtain rfl : j = 7 := by omega
      have hT : ns.take 7 = ns := List.take_of_length_le (by omega)
      rw [hT] at hwn hln
      have hl7 : wr.cell? ⟨w.heap.size, 7, none⟩ = some (.bool l) := ((bcell hbl).1 _ _ hsz).trans hlease
      have hd8 : wr.cell? ⟨w.heap.size, 8, none⟩ = some (.string d) := ((bcell hbl).1 _ _ hsz).trans hdata
      obtain ⟨zs, hzs⟩ : ∃ zs, body ns = zs := ⟨_, rfl⟩
      rw [hzs] at hwn hln
      have HZ : Hid (body ns = zs) := hzs
      clear hzs hidx
      cases l with
      | true =>
        go_wp2_with (at_builtin; refine wpList_append_own _ rfl _ _ 33 rfl w2.heap.size 5 i0 (.int .u8 0) 1 1 Tryd.underlying33 hi hz0 hz1 hz2 rfl (by decide) _ _ _ rfl (hwn.alloc _) ⟨wr.heap.size, 0, none⟩ 2 2 [.int .u8 1, .int .u8 (d.size : Int)] rfl rfl (two_new _ _ _ _) (two_cell _ _ _) ?atrue ?btrue ?ctrue ?_)
        case atrue => unfold maxLen; omega
        case btrue => omega
        case ctrue => simp; omega
        intro v4 w4 hown4 hg4 _
        have R := hwn.app (news := [1, (d.size : Int)]) hbl hbz rfl hown4 hg4
        obtain ⟨R1, R2⟩ := R
        have hln4 : (zs ++ [1, (d.size : Int)]).length ≤ 44 := by rw [List.length_append]; simp; omega
        obtain ⟨ys, hys⟩ : ∃ ys, zs ++ [1, (d.size : Int)] = ys := ⟨_, rfl⟩
        rw [hys] at R1 hln4
        have HYS : Hid (zs ++ [1, (d.size : Int)] = ys) := hys
        clear hown4 hg4 hwn hys hl7
        have hbz4 := R2.size
        have hd4 : w4.cell? ⟨w.heap.size, 8, none⟩ = some (.string d) := ((bcell R2).1 _ _ hsz).trans hdata
        go_wp2_with (at_builtin; refine Lib.wpList_append_own_string _ rfl _ _ 33 9 rfl w2.heap.size 5 i0 Tryd.underlying33 Tryd.underlying9 hi hz0 hz1 hz2 _ _ _ rfl R1.row d rfl ?dtrue ?etrue ?ftrue ?_)
        case dtrue => unfold maxLen; omega
        case etrue => omega
        case ftrue => omega
        intro v5 w5 hown5 hg5 _
        have R3 := Has.strCells hown5
        have R4 := R2.grown hg5 hbz4 (fun k hk => (R1.row.lt k hk).1)
        clear hown5 hg5
        go_wp2
        go_ret2
        refine ⟨_, rfl, ?_, hbw.trans (R4.mono (by omega))⟩
        rw [HZ.out]
        show Has w5 _ v5 (zs ++ [1, (d.size : Int)] ++ ints d)
        rw [HYS.out]
        exact R3.mono (by omega)
      | false =>
        go_wp2_with (at_builtin; refine wpList_append_own _ rfl _ _ 33 rfl w2.heap.size 5 i0 (.int .u8 0) 1 1 Tryd.underlying33 hi hz0 hz1 hz2 rfl (by decide) _ _ _ rfl (hwn.alloc _) ⟨wr.heap.size, 0, none⟩ 2 2 [.int .u8 0, .int .u8 (d.size : Int)] rfl rfl (two_new _ _ _ _) (two_cell _ _ _) ?afalse ?bfalse ?cfalse ?_)
        case afalse => unfold maxLen; omega
        case bfalse => omega
        case cfalse => simp; omega
        intro v4 w4 hown4 hg4 _
        have R := hwn.app (news := [0, (d.size : Int)]) hbl hbz rfl hown4 hg4
        obtain ⟨R1, R2⟩ := R
        have hln4 : (zs ++ [0, (d.size : Int)]).length ≤ 44 := by rw [List.length_append]; simp; omega
        obtain ⟨ys, hys⟩ : ∃ ys, zs ++ [0, (d.size : Int)] = ys := ⟨_, rfl⟩
        rw [hys] at R1 hln4
        have HYS : Hid (zs ++ [0, (d.size : Int)] = ys) := hys
        clear hown4 hg4 hwn hys hl7
        have hbz4 := R2.size
        have hd4 : w4.cell? ⟨w.heap.size, 8, none⟩ = some (.string d) := ((bcell R2).1 _ _ hsz).trans hdata
        go_wp2_with (at_builtin; refine Lib.wpList_append_own_string _ rfl _ _ 33 9 rfl w2.heap.size 5 i0 Tryd.underlying33 Tryd.underlying9 hi hz0 hz1 hz2 _ _ _ rfl R1.row d rfl ?dfalse ?efalse ?ffalse ?_)
        case dfalse => unfold maxLen; omega
        case efalse => omega
        case ffalse => omega
        intro v5 w5 hown5 hg5 _
        have R3 := Has.strCells hown5
        have R4 := R2.grown hg5 hbz4 (fun k hk => (R1.row.lt k hk).1)
        clear hown5 hg5
        go_wp2
        go_ret2
        refine ⟨_, rfl, ?_, hbw.trans (R4.mono (by omega))⟩
        rw [HZ.out]
        show Has w5 _ v5 (zs ++ [0, (d.size : Int)] ++ ints d)
        rw [HYS.out]
        exact R3.mono (by omega)
end Go.Proofs.YtbebfliimjjohaaDoor.Wire
