/-
  Contracts of Holders of both tables, and of sameInts, over the turned program.
-/
import Derived.Test.YtbebfliimjjohaaDoorLeaseObj
namespace Go.Proofs.YtbebfliimjjohaaDoor.Lease
open Go.RowKit Go.Maps
open Num (inB)

theorem info_int : (Tryd.prog.info? 3).map (fun i => (i.zero, i.size, i.bytes)) = some (some (.int .i64 0), 1, 8) := by kernel_rfl

/-- The slice v of the call's own (blocks from B on) has just these numbers. -/
def HasI (w : World) (B : Nat) (v : Value) (l : List Int) : Prop := w.ownsRow B 3 1 v l.length (l.map (Value.int .i64))
theorem HasI.alloc {w : World} {B : Nat} {v : Value} {l : List Int} (h : HasI w B v l) (o : Obj) : (w.alloc o).ownsRow B 3 1 v l.length (l.map (Value.int .i64)) := World.ownsRow.alloc h o
theorem HasI.nil (w : World) (B : Nat) : HasI w B (.slice none 0 0) [] := World.ownsRow_nil _ _ _ _
theorem row_below {w w' : World} {B s n : Nat} {e : TypeId} {v : Value} {xs : List Value} (h : w.ownsRow B e s v n xs) (hb : Below w.heap.size w w') : w'.ownsRow B e s v n xs := by
  refine ⟨h.1, ?_⟩
  rcases h.2 with h | ⟨g, cap, cur, h1, h2, h3, h4⟩
  · exact .inl h
  · exact .inr ⟨g, cap, cur, h1, h2, (hb.block g (Array.getElem?_eq_some_iff.1 h3).1).trans h3, h4⟩
theorem HasI.below {w w' : World} {B : Nat} {v : Value} {l : List Int} (h : HasI w B v l) (hb : Below w.heap.size w w') : HasI w' B v l := row_below h hb

theorem one_newI (w : World) (x : Value) (t : TypeId) : ∀ j u, [x][j]? = some u → (w.alloc (.cells #[x] t)).cell? ((⟨w.heap.size, 0, none⟩ : Addr).add j) = some u := by
  intro j u hj
  match j, hj with
  | 0, hj => simp at hj; subst hj; simp [Addr.add]
  | n + 1, hj => simp at hj
theorem one_cellI (k : IntKind) (n : Int) : ∀ u ∈ [Value.int k n], u.oneCell' = true := by intro u hu; simp at hu; subst hu; rfl

/-- What an append behind a new block leaves. -/
theorem HasI.app {w wr w1 : World} {B m : Nat} {v v' : Value} {l news : List Int} {o : Obj} (h : HasI wr B v l) (hb : Below B w wr) (hB : B ≤ wr.heap.size) (hm : m = news.length)
    (hown : w1.ownsRow B 3 1 v' (l.length + m) (l.map (Value.int .i64) ++ news.map (Value.int .i64))) (hg : (wr.alloc o).grownBy w1 v.ownBlock) : HasI w1 B v' (l ++ news) ∧ Below B w w1 := by
  refine ⟨?_, ?_⟩
  · unfold HasI
    rw [List.length_append, List.map_append, ← hm]
    exact hown
  · exact (hb.alloc hB o).grown hg (by simp; omega) (fun k hk => ((h.alloc o).lt k hk).1)

/-- Has that client a lease of the object that lasts beyond now? -/
def isH (D : Dat) (o now : Int) (c : Nat) : Bool := match D.atKey (kk c o) (num 0) with
  | .lit (.int .i64 x) => Maps.has D (kk c o) && decide (now < x)
  | _ => false
theorem isH_eq {D : Dat} {o now x : Int} {c : Nat} (hx : D.atKey (kk c o) (num 0) = num x) : isH D o now c = (Maps.has D (kk c o) && decide (now < x)) := by simp [isH, hx]
/-- The holders among the first k clients. -/
def hol (D : Dat) (o now : Int) (k : Nat) : List Int := ((List.range k).filter (isH D o now)).map (fun c : Nat => (c : Int))
theorem hol_zero (D : Dat) (o now : Int) : hol D o now 0 = [] := rfl
theorem hol_yes {D : Dat} {o now : Int} {k : Nat} (h : isH D o now k = true) : hol D o now (k + 1) = hol D o now k ++ [(k : Int)] := by simp [hol, List.range_succ, h]
theorem hol_no {D : Dat} {o now : Int} {k : Nat} (h : isH D o now k = false) : hol D o now (k + 1) = hol D o now k := by simp [hol, List.range_succ, h]
theorem hol_le (D : Dat) (o now : Int) (k : Nat) : (hol D o now k).length ≤ k := by
  have := List.length_filter_le (isH D o now) (List.range k)
  simpa [hol] using this
theorem Same.hol {D E : Dat} (h : Same D E) (o now : Int) (k : Nat) : hol D o now k = hol E o now k := by
  have e : isH D o now = isH E o now := by
    funext c
    unfold isH
    rw [h.look, h.has]
  unfold Lease.hol
  rw [e]
theorem below_tab {w w' : World} {t m n : Nat} {D : Dat} {v s : Int → Int} (h : TabIs w t m D v s n) (hb : Below w.heap.size w w') : TabIs w' t m D v s n := h.below hb

set_option maxHeartbeats 1000000 in
set_option maxRecDepth 100000 in
theorem hold_any (t m n : Nat) (D : Dat) (v s : Int → Int) (o now : Int) (w : World) (h : TabIs w t m D v s n) (ho : I64 o) :
    Calls Tryd.prog 48 #[tp t, .int .i64 o, .int .i64 now] w fun e w' => ∃ v', e = .returned v' ∧ HasI w' w.heap.size v' (hol D o now 4) ∧ Below w.heap.size w w' := by
  obtain ⟨i0, hi, hz0, hz1, hz2⟩ := info_parts info_int
  go_enter Tryd.func48, Tryd.ntmps48
  go_wp2
  go_loopw [7, 11] (fun v i wr => ∃ k : Nat, k ≤ 4 ∧ i = .int .i64 k ∧ HasI wr w.heap.size v (hol D o now k) ∧ Below w.heap.size w wr) (fun _ i _ => 4 - (intOf i).toNat)
  case atStart => exact ⟨0, by omega, rfl, HasI.nil _ _, Below.refl _ _⟩
  case round =>
    obtain ⟨k, hk, rfl, hwn, hbl⟩ := hrel
    have hr := h.below hbl
    clear h
    by_cases hk4 : k < 4
    · have hBr : w.heap.size ≤ wr.heap.size := hbl.size
      have hki : I64 (k : Int) := ⟨by omega, by omega⟩
      have hl := hol_le D o now k
      obtain ⟨zs, hzs⟩ : ∃ zs, hol D o now k = zs := ⟨_, rfl⟩
      rw [hzs] at hwn hl
      have HZ : Hid (hol D o now k = zs) := hzs
      clear hzs
      have hzl : zs.length ≤ 4 := by omega
      clear hl
      have hv := hr.obj
      obtain ⟨x, hx⟩ := own_num (t := 159) hr.own keyedP Tryd.underlying159 (keyP hki ho)
      obtain ⟨_, hrun, hxw⟩ := own_int (t := 159) hr.own keyedP Tryd.underlying159 (keyP hki ho) hx
      have hq := isH_eq (now := now) hx
      clear hx hxw hr
      obtain ⟨hb, ehb⟩ : ∃ hb, Maps.has D (kk k o) = hb := ⟨_, rfl⟩
      rw [ehb] at hrun hq
      clear ehb
      have hk4' : (k : Int) < 4 := by omega
      cases hb with
      | false =>
        have HQ : Hid (hol D o now (k + 1) = zs) := (hol_no (hq.trans (Bool.false_and _))).trans HZ.out
        clear hq
        go_wp2
        go_roundw
        case rel => exact ⟨k + 1, by omega, by go_num, by rw [HQ.out]; exact hwn, hbl⟩
        case measure => simp [intOf]; omega
      | true =>
        by_cases hlt : now < x
        · have HQ : Hid (hol D o now (k + 1) = zs ++ [(k : Int)]) := (hol_yes (hq.trans (by simp [hlt]))).trans (by rw [HZ.out])
          clear hq
          go_wp2_with (at_builtin; refine wpList_append_own _ rfl _ _ 109 rfl w.heap.size 3 i0 (.int .i64 0) 1 8 Tryd.underlying109 hi hz0 hz1 hz2 rfl (by decide) _ _ _ rfl (hwn.alloc _) ⟨wr.heap.size, 0, none⟩ 1 1 [.int .i64 (k : Int)] rfl rfl (one_newI _ _ _) (one_cellI _ _) ?c3 ?c4 ?c5 ?_)
          case c3 => unfold maxLen; omega
          case c4 => omega
          case c5 => simp; omega
          intro v' w1 hown' hgrow _
          have R := hwn.app (news := [(k : Int)]) hbl hBr rfl hown' hgrow
          rw [← HQ.out] at R
          clear hown' hgrow hwn hbl hrun hv
          go_wp2
          go_roundw
          case rel => exact ⟨k + 1, by omega, by go_num, R.1, R.2⟩
          case measure => simp [intOf]; omega
        · have HQ : Hid (hol D o now (k + 1) = zs) := (hol_no (hq.trans (by simp [hlt]))).trans HZ.out
          have hlt' : decide (now < x) = false := decide_eq_false hlt
          clear hq
          go_wp2
          go_roundw
          case rel => exact ⟨k + 1, by omega, by go_num, by rw [HQ.out]; exact hwn, hbl⟩
          case measure => simp [intOf]; omega
    · obtain rfl : k = 4 := by omega
      clear hr
      go_wp2
      go_ret
      exact ⟨_, rfl, hwn, hbl⟩

set_option maxHeartbeats 1000000 in
set_option maxRecDepth 100000 in
theorem rhold_any (r a b d n : Nat) (D Dv Ds : Dat) (o now : Int) (w : World) (h : RefIs w r a b d D Dv Ds n) (ho : I64 o) :
    Calls Tryd.prog 49 #[tp r, .int .i64 o, .int .i64 now] w fun e w' => ∃ v', e = .returned v' ∧ HasI w' w.heap.size v' (hol D o now 4) ∧ Below w.heap.size w w' := by
  obtain ⟨i0, hi, hz0, hz1, hz2⟩ := info_parts info_int
  go_enter Tryd.func49, Tryd.ntmps49
  go_wp2
  go_loopw [7, 11] (fun v i wr => ∃ k : Nat, k ≤ 4 ∧ i = .int .i64 k ∧ HasI wr w.heap.size v (hol D o now k) ∧ Below w.heap.size w wr) (fun _ i _ => 4 - (intOf i).toNat)
  case atStart => exact ⟨0, by omega, rfl, HasI.nil _ _, Below.refl _ _⟩
  case round =>
    obtain ⟨k, hk, rfl, hwn, hbl⟩ := hrel
    have hr := h.below hbl
    clear h
    by_cases hk4 : k < 4
    · have hBr : w.heap.size ≤ wr.heap.size := hbl.size
      have hki : I64 (k : Int) := ⟨by omega, by omega⟩
      have hl := hol_le D o now k
      obtain ⟨zs, hzs⟩ : ∃ zs, hol D o now k = zs := ⟨_, rfl⟩
      rw [hzs] at hwn hl
      have HZ : Hid (hol D o now k = zs) := hzs
      clear hzs
      have hzl : zs.length ≤ 4 := by omega
      clear hl
      have hv := hr.obj
      obtain ⟨x, hx⟩ := own_num (t := 99) hr.ownO keyedA Tryd.underlying99 (keyA hki ho)
      obtain ⟨_, hrun, hxw⟩ := own_int (t := 99) hr.ownO keyedA Tryd.underlying99 (keyA hki ho) hx
      have hq := isH_eq (now := now) hx
      clear hx hxw hr
      obtain ⟨hb, ehb⟩ : ∃ hb, Maps.has D (kk k o) = hb := ⟨_, rfl⟩
      rw [ehb] at hrun hq
      clear ehb
      have hk4' : (k : Int) < 4 := by omega
      cases hb with
      | false =>
        have HQ : Hid (hol D o now (k + 1) = zs) := (hol_no (hq.trans (Bool.false_and _))).trans HZ.out
        clear hq
        go_wp2
        go_roundw
        case rel => exact ⟨k + 1, by omega, by go_num, by rw [HQ.out]; exact hwn, hbl⟩
        case measure => simp [intOf]; omega
      | true =>
        by_cases hlt : now < x
        · have HQ : Hid (hol D o now (k + 1) = zs ++ [(k : Int)]) := (hol_yes (hq.trans (by simp [hlt]))).trans (by rw [HZ.out])
          clear hq
          go_wp2_with (at_builtin; refine wpList_append_own _ rfl _ _ 109 rfl w.heap.size 3 i0 (.int .i64 0) 1 8 Tryd.underlying109 hi hz0 hz1 hz2 rfl (by decide) _ _ _ rfl (hwn.alloc _) ⟨wr.heap.size, 0, none⟩ 1 1 [.int .i64 (k : Int)] rfl rfl (one_newI _ _ _) (one_cellI _ _) ?c3 ?c4 ?c5 ?_)
          case c3 => unfold maxLen; omega
          case c4 => omega
          case c5 => simp; omega
          intro v' w1 hown' hgrow _
          have R := hwn.app (news := [(k : Int)]) hbl hBr rfl hown' hgrow
          rw [← HQ.out] at R
          clear hown' hgrow hwn hbl hrun hv
          go_wp2
          go_roundw
          case rel => exact ⟨k + 1, by omega, by go_num, R.1, R.2⟩
          case measure => simp [intOf]; omega
        · have HQ : Hid (hol D o now (k + 1) = zs) := (hol_no (hq.trans (by simp [hlt]))).trans HZ.out
          have hlt' : decide (now < x) = false := decide_eq_false hlt
          clear hq
          go_wp2
          go_roundw
          case rel => exact ⟨k + 1, by omega, by go_num, by rw [HQ.out]; exact hwn, hbl⟩
          case measure => simp [intOf]; omega
    · obtain rfl : k = 4 := by omega
      clear hr
      go_wp2
      go_ret
      exact ⟨_, rfl, hwn, hbl⟩

theorem below_drewN {N : Nat} {a b : World} (h : Below N a b) (k : Nat) : Below N a (b.drewN k) := ⟨h.os, h.tape, h.output, h.size, h.block⟩
theorem TabIs.drewN {w : World} {t m n : Nat} {D : Dat} {v s : Int → Int} (h : TabIs w t m D v s n) (k : Nat) : TabIs (w.drewN k) t m D v s n := ⟨h.obj, h.vol, h.ses, h.free, h.own, h.i64⟩
theorem RefIs.drewN {w : World} {r a b c n : Nat} {D Dv Ds : Dat} (h : RefIs w r a b c D Dv Ds n) (k : Nat) : RefIs (w.drewN k) r a b c D Dv Ds n := ⟨h.obj, h.vol, h.ses, h.ownO, h.ownV, h.ownS, h.ab, h.ac, h.bc⟩
theorem Ob.drewN {bs : List Nat} {a b : World} (h : Ob bs a b) (k : Nat) : Ob bs a (b.drewN k) := ⟨h.os, h.tape, h.output, h.size, h.block⟩
theorem HasI.shape {w : World} {B : Nat} {v : Value} {l : List Int} (h : HasI w B v l) : ∃ ao c, v = .slice ao l.length c ∧ (0 < l.length → ∃ g, ao = some ⟨g, 0, none⟩ ∧ ∀ i (hi : i < l.length), w.cell? ⟨g, i, none⟩ = some (.int .i64 l[i])) := by
  rcases h.2 with ⟨rfl, h0⟩ | ⟨g, cap, cur, rfl, _⟩
  · exact ⟨none, 0, by rw [h0], fun h => by omega⟩
  · refine ⟨_, cap, rfl, fun _ => ⟨g, rfl, fun i hi => ?_⟩⟩
    rw [World.ownsRow.cellAt h _ (by omega)]
    simp [hi]

set_option maxRecDepth 100000 in
theorem same_any (B C : Nat) (v u : Value) (l : List Int) (w : World) (h : HasI w B v l) (k : HasI w C u l) (hl : l.length ≤ 4) :
    Calls Tryd.prog 47 #[v, u] w fun e w' => e = .returned (.bool true) ∧ Below w.heap.size w w' := by
  obtain ⟨ao, c, rfl, hv⟩ := h.shape
  obtain ⟨bo, d, rfl, hu⟩ := k.shape
  clear h k
  by_cases h0 : 0 < l.length
  · obtain ⟨g, rfl, hg⟩ := hv h0
    obtain ⟨f, rfl, hf⟩ := hu h0
    clear hv hu
    go_enter Tryd.func47, Tryd.ntmps47
    go_wp2
    go_loopw [5] (fun i wr => ∃ j : Nat, j ≤ l.length ∧ i = .int .i64 j ∧ Below w.heap.size w wr) (fun i _ => l.length - (intOf i).toNat)
    case atStart => exact ⟨0, by omega, rfl, Below.refl _ _⟩
    case round =>
      obtain ⟨j, hj, rfl, hbl⟩ := hrel
      by_cases hjl : j < l.length
      · have h1 := (hbl.cell (p := ⟨g, j, none⟩) (World.block_lt_of_cell? _ _ (hg j hjl))).trans (hg j hjl)
        have h2 := (hbl.cell (p := ⟨f, j, none⟩) (World.block_lt_of_cell? _ _ (hf j hjl))).trans (hf j hjl)
        have hj' : (j : Int) < l.length := by omega
        clear hg hf
        go_wp2
        go_quiet (fail)
        go_wp2
        go_roundw
        case rel => exact ⟨j + 1, by omega, by go_num, below_drewN hbl _⟩
        case measure => simp [intOf]; omega
      · have hj' : ¬ (j : Int) < l.length := by omega
        clear hg hf
        go_wp2
        go_ret
        exact ⟨rfl, hbl⟩
  · have hz : l.length = 0 := by omega
    rw [hz]
    clear hv hu hz h0 hl
    go_enter Tryd.func47, Tryd.ntmps47
    go_wp2
    refine wp_loop_rounds 1 ?_
    rw [rounds_succ]
    go_wp2
    go_ret
    exact ⟨rfl, Below.refl _ _⟩
end Go.Proofs.YtbebfliimjjohaaDoor.Lease
