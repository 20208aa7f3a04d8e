/-
  The document's own answer: tenureref.Encode, over the turned program.
-/
import Derived.Test.YtbebfliimjjohaaDoorRefn
import Derived.Deep.RegionLaw
namespace Go.Proofs.YtbebfliimjjohaaDoor.Wire
open Go.RowKit
open Num (inB nb numB body ints M okB leaseN)

theorem number_int (x : Int) (w : World) (hn : numB x = true) :
    Calls Tryd.prog 64 #[.int .i64 x] w fun e w' => ∃ g cap, e = .returned (.slice (some ⟨g, 0, none⟩) (nb x.toNat).length cap) ∧ Has w' w.heap.size (.slice (some ⟨g, 0, none⟩) (nb x.toNat).length cap) (nb x.toNat) ∧ Below w.heap.size w w' := by
  have h := Num.of_inB_true hn
  obtain ⟨n, rfl⟩ := Int.eq_ofNat_of_zero_le h.1
  exact number_any 5 n w (by omega) (by have : (128 : Nat) ^ (5 + 1) = 4398046511104 := by decide
                                        omega)

set_option maxHeartbeats 1000000 in
set_option maxRecDepth 100000 in
theorem refe_head (m : M) (w : World) (hd : m.d.size ≤ 1000) (hm : inB m.k 1 9 = false ∨ 20 < m.d.size) :
    Calls Tryd.prog 17 #[M.agg m] w fun e w' => e = .returned (.tuple #[.slice none 0 0, .int .i64 1]) ∧ Below w.heap.size w w' := by
  obtain ⟨k, c, n, e, s, o, v, l, d⟩ := m
  unfold M.agg
  dsimp only at *
  cases hk : inB k 1 9 with
  | true =>
    have hd2 : 20 < d.size := by rcases hm with h | h; · rw [hk] at h; cases h
                                 · exact h
    clear hm
    go_enter Tryd.func17, Tryd.ntmps17
    go_wp2_with (go_at_call 60; refine (in_any _ _ _ _).mono ?_; rintro e w1 ⟨rfl, rfl⟩)
    go_ret2
    exact ⟨rfl, (Below.refl _ _).alloc (Nat.le_refl _) _⟩
  | false =>
    clear hm
    go_enter Tryd.func17, Tryd.ntmps17
    go_wp2_with (go_at_call 60; refine (in_any _ _ _ _).mono ?_; rintro e w1 ⟨rfl, rfl⟩)
    go_ret2
    exact ⟨rfl, (Below.refl _ _).alloc (Nat.le_refl _) _⟩

/-- What of the box of a message is there behind a call that makes new blocks alone. -/
theorem ref_facts {w w1 : World} {k c n e s o v : Int} {l : Bool} {d : ByteArray} {t : TypeId}
    (hb1 : Below (w.alloc (.cells #[.int .i64 k, .int .i64 c, .int .i64 n, .int .i64 e, .int .i64 s, .int .i64 o, .int .i64 v, .bool l, .string d] t)).heap.size (w.alloc (.cells #[.int .i64 k, .int .i64 c, .int .i64 n, .int .i64 e, .int .i64 s, .int .i64 o, .int .i64 v, .bool l, .string d] t)) w1) :
    w1.cell? ⟨w.heap.size, 7, none⟩ = some (.bool l) ∧ w1.cell? ⟨w.heap.size, 8, none⟩ = some (.string d) ∧ w.heap.size < w1.heap.size ∧ Below w.heap.size w w1 := by
  have hz1 := hb1.size
  simp at hz1
  have hc : ∀ j, w1.cell? ⟨w.heap.size, j, none⟩ = (w.alloc (.cells #[.int .i64 k, .int .i64 c, .int .i64 n, .int .i64 e, .int .i64 s, .int .i64 o, .int .i64 v, .bool l, .string d] t)).cell? ⟨w.heap.size, j, none⟩ := by
    intro j
    rw [(bcell hb1).1 _ _ (by simp)]
  exact ⟨by rw [hc]; simp, by rw [hc]; simp, by omega, ((Below.refl _ _).alloc (Nat.le_refl _) _).trans (hb1.mono (by simp))⟩

/-- 'append' onto a row of the call's own, as one step of a region that draws. -/
theorem step_own {P : Program} {ops : Array Oper} {o : Oper} {a : Act} {w : World} {K : Act → World → Prop} {Q : Exit → Act → World → Prop} {E : Prop}
    (hg : o.guard = none) (h : Oper.wp P o a w K Q) : if Region.wanted o (yielded ops a.tmps) = true then Oper.wp P o a w K Q else E := by
  have hw : Region.wanted o (yielded ops a.tmps) = true := by simp [Region.wanted, hg]
  rw [if_pos hw]
  exact h

/-- 'append(b, text...)' onto a row of the call's own. -/
theorem wp_append_text {P : Program} {w : World} {o : Oper} {a : Act} {K : Act → World → Prop} {Q : Exit → Act → World → Prop} (sl x : Operand) (t u : TypeId)
    (ho : o.op = .call { callee := .builtin .append, args := #[sl, x], argTypes := #[t, u] })
    (base : Nat) (e : TypeId) (i : TypeInfo) (ht : P.underlying t = some (.slice e)) (hu : P.underlying u = some .string) (hi : P.info? e = some i) (hz : i.zero = some (.int .u8 0))
    (hsize : i.size = 1) (hby : i.bytes = 1)
    (v : Value) (n : Nat) (xs : List Value) (hs : a.eval sl = v) (hown : w.ownsRow base e 1 v n xs) (s : ByteArray) (hx : a.eval x = .string s)
    (h63 : n + s.size ≤ maxLen) (hbytes : n + s.size ≤ 140737488355328) (hbase : base ≤ w.heap.size)
    (h : ∀ v' w', w'.ownsRow base e 1 v' (n + s.size) (xs ++ Lib.strCells s) → w.grownBy w' v.ownBlock → K (a.put o.dst v') w') : o.wp P a w K Q := by
  obtain ⟨v', w', hr, h2, h3, h4⟩ := Lib.run_append_own_string (P := P) w base t u o.type e i ht hu hi hz hsize hby v n xs hown s h63 hbytes hbase
  unfold Oper.wp execOp
  simp only [ho, resolve, invoke, builtin, Sem.run_bind, Sem.run_pure, Result.andThen_ok, List.map_toArray, List.map_cons, List.map_nil, hs, hx, hr]
  exact h v' w' h2 h3

theorem Has.appd {w wr w1 : World} {B m : Nat} {v v' : Value} {l news : List Int} {o : Obj} (h : Has wr B v l) (hb : Below B w wr) (hB : B ≤ wr.heap.size) (hm : m = news.length)
    (hown : w1.ownsRow B 5 1 v' (l.length + m) (l.map (Value.int .u8) ++ news.map (Value.int .u8))) (hg : (wr.alloc o).drew.grownBy w1 v.ownBlock) : Has w1 B v' (l ++ news) ∧ Below B w w1 :=
  h.app (o := o) hb hB hm hown ⟨hg.os, hg.tape, hg.output, hg.size, hg.block⟩

theorem body_le (ns : List Int) (hlen : ns.length = 7) (j : Nat) (h : (ns.take j).all numB = true) : (body (ns.take j)).length ≤ 42 := by
  have := (Num.body_small _ h).1
  rw [List.length_take] at this
  omega

set_option maxHeartbeats 4000000 in
set_option maxRecDepth 100000 in
theorem refe_tail (m : M) (w : World) (hk : inB m.k 1 9 = true) (hd2 : m.d.size ≤ 20) :
    Calls Tryd.prog 17 #[M.agg m] w fun e w' => ∃ v' q, e = .returned (.tuple #[v', .int .i64 q]) ∧ ((m.nums.all numB = true ∧ q = 0 ∧ Has w' w.heap.size v' m.bytes) ∨ (m.nums.all numB = false ∧ q = 1 ∧ v' = .slice none 0 0)) ∧ Below w.heap.size w w' := by
  obtain ⟨i0, hi, hz0, hz1, hz2⟩ := info_parts info_byte
  have lst := fun w => list_any m w
  have hlen : m.nums.length = 7 := rfl
  have hbytes : m.bytes = body m.nums ++ [leaseN m.l, (m.d.size : Int)] ++ ints m.d := rfl
  rw [hbytes]
  clear hbytes
  obtain ⟨ns, hns⟩ : ∃ ns, m.nums = ns := ⟨_, rfl⟩
  rw [hns] at lst hlen ⊢
  clear hns
  obtain ⟨k, c, n, e, s, o, v, l, d⟩ := m
  unfold M.agg at *
  dsimp only at *
  go_enter Tryd.func17, Tryd.ntmps17
  go_wp2_with (first | (go_at_call 60; refine (in_any _ _ _ _).mono ?_; rintro e w1 ⟨rfl, rfl⟩) | (go_at_call 63; refine (lst _).mono ?_; rintro e w2 ⟨b, rfl, hlo, hbh, hcell, hb2⟩))
  obtain ⟨hlease, hdata, hsz, hbw⟩ := ref_facts hb2
  clear hb2 lst hlo
  go_loopw [4, 20] (fun v i wr => ∃ j : Nat, j ≤ 7 ∧ i = .int .i64 j ∧ (ns.take j).all numB = true ∧ Has wr w2.heap.size v (body (ns.take j)) ∧ Below w2.heap.size w2 wr) (fun _ i _ => 7 - (intOf i).toNat)
  case atStart => exact ⟨0, by omega, rfl, rfl, by simpa [body] using Has.nil _ _, Below.refl _ _⟩
  case round =>
    obtain ⟨j, hj, rfl, hall, hwn, hbl⟩ := hrel
    have hbz := hbl.size
    have hln := body_le ns hlen j hall
    by_cases hlt : j < 7
    · have hcj : wr.cell? ⟨b, j, none⟩ = some (.int .i64 (ns.getD j 0)) := ((bcell hbl).1 _ _ hbh).trans (hcell j hlt)
      have HT : Hid (body (ns.take (j + 1)) = body (ns.take j) ++ nb (ns.getD j 0).toNat) := body_take ns j (by omega)
      have HA : Hid (ns.all numB = true → numB (ns.getD j 0) = true) := fun h => by
        rw [List.getD_eq_getElem?_getD, List.getElem?_eq_getElem (by omega)]
        exact List.all_eq_true.1 h _ (List.getElem_mem _)
      have HB : Hid ((ns.take (j + 1)).all numB = ((ns.take j).all numB && numB (ns.getD j 0))) := by
        show (ns.take (j + 1)).all numB = _
        rw [List.take_succ_eq_append_getElem (by omega), List.all_append, List.getD_eq_getElem?_getD, List.getElem?_eq_getElem (by omega)]
        simp
      have HALL : Hid ((ns.take j).all numB = true) := hall
      obtain ⟨x, hx⟩ : ∃ x, ns.getD j 0 = x := ⟨_, rfl⟩
      obtain ⟨zs, hzs⟩ : ∃ zs, body (ns.take j) = zs := ⟨_, rfl⟩
      rw [hx] at hcj HT HA HB
      rw [hzs] at hwn hln HT
      clear hx hzs hall hcell
      cases hg : numB x with
      | true =>
        have hg2 : inB x 0 1099511627776 = true := hg
        go_wp2_with (first | (go_at_call 60; refine (in_any _ _ _ _).mono ?_; rintro e w3 ⟨rfl, rfl⟩) | (go_at_call 64; refine (number_int _ _ hg).mono ?_; rintro e w3 ⟨g, cap, rfl, hw3, hb3⟩) | (at_builtin; refine wpList_append_own _ rfl _ _ 33 rfl w2.heap.size 5 i0 (.int .u8 0) 1 1 Tryd.underlying33 hi hz0 hz1 hz2 rfl (by decide) _ _ _ rfl (hwn.below hb3 (Nat.le_refl _)).row ⟨g, 0, none⟩ _ cap ((nb x.toNat).map (Value.int .u8)) rfl ?r2 (hw3.row.cells rfl) (ints_oneCell _ _) ?r3 ?r4 ?r5 ?_))
        case r2 => simp
        case r3 => have := (Num.nb_small hg).1; unfold maxLen; omega
        case r4 => have := (Num.nb_small hg).1; omega
        case r5 => have := hb3.size; omega
        intro v4 w4 hown4 hg4 _
        have R : Has w4 w2.heap.size v4 (zs ++ nb x.toNat) := by
          unfold Has
          rw [List.length_append, List.map_append]
          exact hown4
        have R2 : Below w2.heap.size w2 w4 := (hbl.trans (hb3.mono hbz)).grown hg4 (by have := hb3.size; omega) (fun k hk => ((hwn.below hb3 (Nat.le_refl _)).row.lt k hk).1)
        clear hown4 hg4 hw3 hb3 hwn hbl
        go_wp2
        go_roundw
        case rel => exact ⟨j + 1, by omega, by go_num, by rw [HB.out, HALL.out, hg]; rfl, by rw [HT.out]; exact R, R2⟩
        case measure => simp [intOf]; omega
      | false =>
        have hg2 : inB x 0 1099511627776 = false := hg
        go_wp2_with (go_at_call 60; refine (in_any _ _ _ _).mono ?_; rintro e w3 ⟨rfl, rfl⟩)
        go_ret2
        have hna : ns.all numB = false := by
          cases h : ns.all numB with
          | true => have := HA.out h; rw [hg] at this; cases this
          | false => rfl
        exact ⟨_, _, rfl, .inr ⟨hna, rfl, rfl⟩, hbw.trans (hbl.mono (by omega))⟩
    · obtain rfl : j = 7 := by omega
      have hT : ns.take 7 = ns := List.take_of_length_le (by omega)
      rw [hT] at hwn hln hall
      have HALL : Hid (ns.all numB = true) := hall
      have hl7 : wr.cell? ⟨w.heap.size, 7, none⟩ = some (.bool l) := ((bcell hbl).1 _ _ hsz).trans hlease
      have hd8 : wr.cell? ⟨w.heap.size, 8, none⟩ = some (.string d) := ((bcell hbl).1 _ _ hsz).trans hdata
      obtain ⟨zs, hzs⟩ : ∃ zs, body ns = zs := ⟨_, rfl⟩
      rw [hzs] at hwn hln
      have HZ : Hid (body ns = zs) := hzs
      clear hzs hall hcell
      cases l with
      | true =>
        go_wp2_with (at_builtin; refine wpList_append_own _ rfl _ _ 33 rfl w2.heap.size 5 i0 (.int .u8 0) 1 1 Tryd.underlying33 hi hz0 hz1 hz2 rfl (by decide) _ _ _ rfl (hwn.alloc _) ⟨wr.heap.size, 0, none⟩ 1 1 [.int .u8 1] rfl rfl (one_new _ _ _) (one_cell _ _) ?atrue ?btrue ?ctrue ?_)
        case atrue => unfold maxLen; omega
        case btrue => omega
        case ctrue => simp; omega
        intro v4 w4 hown4 hg4 _
        have R := hwn.app (news := [1]) hbl hbz rfl hown4 hg4
        obtain ⟨R1, R2⟩ := R
        have hln4 : (zs ++ [1]).length ≤ 43 := by rw [List.length_append]; simp; omega
        obtain ⟨ys, hys⟩ : ∃ ys, zs ++ [1] = ys := ⟨_, rfl⟩
        rw [hys] at R1 hln4
        have HYS : Hid (zs ++ [1] = ys) := hys
        clear hown4 hg4 hwn hys hl7
        have hbz4 := R2.size
        have hd4 : w4.cell? ⟨w.heap.size, 8, none⟩ = some (.string d) := ((bcell R2).1 _ _ hsz).trans hdata
        have hzd : w2.heap.size ≤ w4.heap.size := hbz4
        have hlt4 : w.heap.size < w4.heap.size := by omega
        obtain ⟨q, hq⟩ : ∃ q, IntKind.u8.wrap (d.size : Int) = q := ⟨_, rfl⟩
        have HQ : Hid (q = (d.size : Int)) := hq.symm.trans (wraps_u8 _ (by omega) (by omega))
        have e3 : ys.length + 1 ≤ maxLen := by unfold maxLen; omega
        have e4 : (ys.length + 1) * 1 ≤ 140737488355328 := by omega
        have e5 : ∀ o, w2.heap.size ≤ (w4.alloc o).drew.heap.size := fun o => by simp; omega
        have e6 : (ys ++ [q]).length + d.size ≤ maxLen := by unfold maxLen; rw [List.length_append]; simp; omega
        have e7 : (ys ++ [q]).length + d.size ≤ 140737488355328 := by rw [List.length_append]; simp; omega
        go_wp2
        go_region_law (first | (refine step_own rfl (wp_append_text (.tmp 46) (.tmp 48) 33 9 rfl w2.heap.size 5 i0 Tryd.underlying33 Tryd.underlying9 hi hz0 hz1 hz2 _ _ _ (by simp [Act.eval]) R3.row d (by simp [Act.eval]) e6 e7 R4.size ?_); intro v6 w6 hown6 hg6) | (refine step_own rfl (wp_append_own _ (.tmp 40) (.tmp 45) 33 rfl w2.heap.size 5 i0 (.int .u8 0) 1 1 Tryd.underlying33 hi hz0 hz1 hz2 rfl (by decide) v4 _ _ (by simp [Act.eval]) (R1.alloc _) ⟨w4.heap.size, 0, none⟩ 1 1 [.int .u8 q] (by simp [Act.eval]) rfl (one_new _ _ _) (one_cell _ _) e3 e4 (e5 _) ?_); intro v5 w5 hown5 hg5 _; obtain ⟨R3, R4⟩ := R1.appd (news := [q]) R2 hzd rfl hown5 hg5; have hd5 : w5.cell? ⟨w.heap.size, 8, none⟩ = some (.string d) := ((bcell R4).1 _ _ hsz).trans hdata; clear hown5 hg5))
        all_goals
          have R5 := Has.strCells hown6
          have R6 := R4.grown hg6 R4.size (fun k hk => (R3.row.lt k hk).1)
          clear hown6 hg6
          go_wp2
          go_ret2
          refine ⟨_, _, rfl, .inl ⟨HALL.out, rfl, ?_⟩, hbw.trans (R6.mono (by omega))⟩
          rw [HZ.out]
          have e : zs ++ [leaseN true, (d.size : Int)] ++ ints d = (ys ++ [q]) ++ ints d := by rw [← HYS.out, HQ.out]; simp [leaseN]
          rw [e]
          exact R5.mono (by omega)
      | false =>
        go_wp2_with (at_builtin; refine wpList_append_own _ rfl _ _ 33 rfl w2.heap.size 5 i0 (.int .u8 0) 1 1 Tryd.underlying33 hi hz0 hz1 hz2 rfl (by decide) _ _ _ rfl (hwn.alloc _) ⟨wr.heap.size, 0, none⟩ 1 1 [.int .u8 0] rfl rfl (one_new _ _ _) (one_cell _ _) ?afalse ?bfalse ?cfalse ?_)
        case afalse => unfold maxLen; omega
        case bfalse => omega
        case cfalse => simp; omega
        intro v4 w4 hown4 hg4 _
        have R := hwn.app (news := [0]) hbl hbz rfl hown4 hg4
        obtain ⟨R1, R2⟩ := R
        have hln4 : (zs ++ [0]).length ≤ 43 := by rw [List.length_append]; simp; omega
        obtain ⟨ys, hys⟩ : ∃ ys, zs ++ [0] = ys := ⟨_, rfl⟩
        rw [hys] at R1 hln4
        have HYS : Hid (zs ++ [0] = ys) := hys
        clear hown4 hg4 hwn hys hl7
        have hbz4 := R2.size
        have hd4 : w4.cell? ⟨w.heap.size, 8, none⟩ = some (.string d) := ((bcell R2).1 _ _ hsz).trans hdata
        have hzd : w2.heap.size ≤ w4.heap.size := hbz4
        have hlt4 : w.heap.size < w4.heap.size := by omega
        obtain ⟨q, hq⟩ : ∃ q, IntKind.u8.wrap (d.size : Int) = q := ⟨_, rfl⟩
        have HQ : Hid (q = (d.size : Int)) := hq.symm.trans (wraps_u8 _ (by omega) (by omega))
        have e3 : ys.length + 1 ≤ maxLen := by unfold maxLen; omega
        have e4 : (ys.length + 1) * 1 ≤ 140737488355328 := by omega
        have e5 : ∀ o, w2.heap.size ≤ (w4.alloc o).drew.heap.size := fun o => by simp; omega
        have e6 : (ys ++ [q]).length + d.size ≤ maxLen := by unfold maxLen; rw [List.length_append]; simp; omega
        have e7 : (ys ++ [q]).length + d.size ≤ 140737488355328 := by rw [List.length_append]; simp; omega
        go_wp2
        go_region_law (first | (refine step_own rfl (wp_append_text (.tmp 46) (.tmp 48) 33 9 rfl w2.heap.size 5 i0 Tryd.underlying33 Tryd.underlying9 hi hz0 hz1 hz2 _ _ _ (by simp [Act.eval]) R3.row d (by simp [Act.eval]) e6 e7 R4.size ?_); intro v6 w6 hown6 hg6) | (refine step_own rfl (wp_append_own _ (.tmp 40) (.tmp 45) 33 rfl w2.heap.size 5 i0 (.int .u8 0) 1 1 Tryd.underlying33 hi hz0 hz1 hz2 rfl (by decide) v4 _ _ (by simp [Act.eval]) (R1.alloc _) ⟨w4.heap.size, 0, none⟩ 1 1 [.int .u8 q] (by simp [Act.eval]) rfl (one_new _ _ _) (one_cell _ _) e3 e4 (e5 _) ?_); intro v5 w5 hown5 hg5 _; obtain ⟨R3, R4⟩ := R1.appd (news := [q]) R2 hzd rfl hown5 hg5; have hd5 : w5.cell? ⟨w.heap.size, 8, none⟩ = some (.string d) := ((bcell R4).1 _ _ hsz).trans hdata; clear hown5 hg5))
        all_goals
          have R5 := Has.strCells hown6
          have R6 := R4.grown hg6 R4.size (fun k hk => (R3.row.lt k hk).1)
          clear hown6 hg6
          go_wp2
          go_ret2
          refine ⟨_, _, rfl, .inl ⟨HALL.out, rfl, ?_⟩, hbw.trans (R6.mono (by omega))⟩
          rw [HZ.out]
          have e : zs ++ [leaseN false, (d.size : Int)] ++ ints d = (ys ++ [q]) ++ ints d := by rw [← HYS.out, HQ.out]; simp [leaseN]
          rw [e]
          exact R5.mono (by omega)
end Go.Proofs.YtbebfliimjjohaaDoor.Wire
