/-
  Lists of numbers of a call's own; the contracts of sameInts and of a cache's Objects, over the turned program.
-/
import Derived.Test.YtbebfliimjjohaaDoorCacheGet
namespace Go.Proofs.YtbebfliimjjohaaDoor.Cache
open Go.RowKit

theorem info_int : (Tryd.prog.info? 3).map (fun i => (i.zero, i.size, i.bytes)) = some (some (.int .i64 0), 1, 8) := by kernel_rfl
theorem below_drewN {N : Nat} {a b : World} (h : Below N a b) (k : Nat) : Below N a (b.drewN k) := ⟨h.os, h.tape, h.output, h.size, h.block⟩

/-- The slice v of the call's own (blocks from B on) has just these numbers. -/
def HasI (w : World) (B : Nat) (v : Value) (l : List Int) : Prop := w.ownsRow B 3 1 v l.length (l.map (Value.int .i64))
theorem HasI.alloc {w : World} {B : Nat} {v : Value} {l : List Int} (h : HasI w B v l) (o : Obj) : HasI (w.alloc o) B v l := World.ownsRow.alloc h o
theorem HasI.nil (w : World) (B : Nat) : HasI w B (.slice none 0 0) [] := World.ownsRow_nil _ _ _ _
theorem HasI.below {w w' : World} {B : Nat} {v : Value} {l : List Int} (h : HasI w B v l) (hb : Below w.heap.size w w') : HasI w' B v l := row_below h hb
theorem HasI.own {w : World} {B : Nat} {v : Value} {l : List Int} (h : HasI w B v l) : w.ownsRow B 3 1 v l.length (l.map (Value.int .i64)) := h
theorem HasI.drew {w : World} {B : Nat} {v : Value} {l : List Int} (h : HasI w B v l) : HasI w.drew B v l := h
theorem HasI.drewN {w : World} {B : Nat} {v : Value} {l : List Int} (h : HasI w B v l) (k : Nat) : HasI (w.drewN k) B v l := h

theorem one_newI (w : World) (a : Obj) (x : Value) (t : TypeId) : ∀ j u, [x][j]? = some u → ((w.alloc a).alloc (.cells #[x] t)).cell? ((⟨w.heap.size + 1, 0, none⟩ : Addr).add j) = some u := by
  intro j u hj
  match j, hj with
  | 0, hj =>
    simp at hj
    subst hj
    simp [Addr.add]
  | n + 1, hj => simp at hj
theorem one_cellI (k : IntKind) (n : Int) : ∀ u ∈ [Value.int k n], u.oneCell' = true := by intro u hu; simp at hu; subst hu; rfl

/-- What an append behind a new block leaves. -/
theorem HasI.app {w wr w1 : World} {B m : Nat} {v v' : Value} {l news : List Int} {o : Obj} (h : HasI wr B v l) (hb : Below B w wr) (hB : B ≤ wr.heap.size) (hm : m = news.length)
    (hown : w1.ownsRow B 3 1 v' (l.length + m) (l.map (Value.int .i64) ++ news.map (Value.int .i64))) (hg : (wr.alloc o).grownBy w1 v.ownBlock) : HasI w1 B v' (l ++ news) ∧ Below B w w1 := by
  refine ⟨?_, ?_⟩
  · unfold HasI
    rw [List.length_append, List.map_append, ← hm]
    exact hown
  · exact (hb.alloc hB o).grown hg (by simp; omega) (fun k hk => (World.ownsRow.lt (h.alloc o) k hk).1)
theorem HasI.shape {w : World} {B : Nat} {v : Value} {l : List Int} (h : HasI w B v l) : ∃ ao c, v = .slice ao l.length c ∧ (0 < l.length → ∃ g, ao = some ⟨g, 0, none⟩ ∧ ∀ i (hi : i < l.length), w.cell? ⟨g, i, none⟩ = some (.int .i64 l[i])) := by
  rcases h.2 with ⟨rfl, h0⟩ | ⟨g, cap, cur, rfl, _⟩
  · exact ⟨none, 0, by rw [h0], fun h => by omega⟩
  · refine ⟨_, cap, rfl, fun _ => ⟨g, rfl, fun i hi => ?_⟩⟩
    rw [World.ownsRow.cellAt h _ (by omega)]
    simp [hi]

set_option maxHeartbeats 1000000 in
set_option maxRecDepth 100000 in
theorem same_any (B C : Nat) (v u : Value) (l : List Int) (w : World) (h : HasI w B v l) (k : HasI w C u l) (hl : l.length ≤ 7) :
    Calls Tryd.prog 47 #[v, u] w fun e w' => e = .returned (.bool true) ∧ Below w.heap.size w w' := by
  obtain ⟨ao, c, rfl, hv⟩ := h.shape
  obtain ⟨bo, d, rfl, hu⟩ := k.shape
  clear h k
  by_cases h0 : 0 < l.length
  · obtain ⟨g, rfl, hg⟩ := hv h0
    obtain ⟨f, rfl, hf⟩ := hu h0
    clear hv hu
    go_enter Tryd.func47, Tryd.ntmps47
    go_wp2
    go_loopw [5] (fun i wr => ∃ j : Nat, j ≤ l.length ∧ i = .int .i64 j ∧ Below w.heap.size w wr) (fun i _ => l.length - (intOf i).toNat)
    case atStart => exact ⟨0, by omega, rfl, Below.refl _ _⟩
    case round =>
      obtain ⟨j, hj, rfl, hbl⟩ := hrel
      by_cases hjl : j < l.length
      · have h1 := (hbl.cell (p := ⟨g, j, none⟩) (World.block_lt_of_cell? _ _ (hg j hjl))).trans (hg j hjl)
        have h2 := (hbl.cell (p := ⟨f, j, none⟩) (World.block_lt_of_cell? _ _ (hf j hjl))).trans (hf j hjl)
        have hj' : (j : Int) < l.length := by omega
        clear hg hf
        go_wp2
        go_quiet (fail)
        go_wp2
        go_roundw
        case rel => exact ⟨j + 1, by omega, by go_num, below_drewN hbl _⟩
        case measure => simp [intOf]; omega
      · have hj' : ¬ (j : Int) < l.length := by omega
        clear hg hf
        go_wp2
        go_ret
        exact ⟨rfl, hbl⟩
  · have hz : l.length = 0 := by omega
    rw [hz]
    clear hv hu hz h0 hl
    go_enter Tryd.func47, Tryd.ntmps47
    go_wp2
    refine wp_loop_rounds 1 ?_
    rw [rounds_succ]
    go_wp2
    go_ret
    exact ⟨rfl, Below.refl _ _⟩

theorem take_snoc {L : List E} {k : Nat} (h : k < L.length) : (L.take (k + 1)).map (·.o) = (L.take k).map (·.o) ++ [L[k].o] := by
  rw [List.take_succ_eq_append_getElem h, List.map_append]
  rfl

set_option maxHeartbeats 1000000 in
set_option maxRecDepth 100000 in
theorem objs_any (t : Nat) (L : List E) (w : World) (h : CacheIs w t L L.length) :
    Calls Tryd.prog 58 #[tp t] w fun e w' => ∃ v', e = .returned v' ∧ HasI w' w.heap.size v' (L.map (·.o)) ∧ Below w.heap.size w w' := by
  obtain ⟨i0, hi, hz0, hz1, hz2⟩ := info_parts info_int
  have h6 := h.le
  have hm := h.many
  have hi0 : (0 : Int) ≤ (L.length : Int) := by omega
  have hi6 : (L.length : Int) ≤ 6 := by omega
  go_enter Tryd.func58, Tryd.ntmps58
  go_wp2_with fail
  refine wp_region_still_lit (by kernel_rfl) (by kernel_rfl) ?_
  repeat still_step
  refine wpStill_nil ?_
  go_wp2_with fail
  go_loopw [3, 15] (fun v i wr => ∃ k : Nat, k ≤ L.length ∧ i = .int .i64 k ∧ HasI wr w.heap.size v ((L.take k).map (·.o)) ∧ Below w.heap.size w wr) (fun _ i _ => L.length - (intOf i).toNat)
  case atStart => exact ⟨0, by omega, rfl, HasI.nil _ _, (Below.refl _ _).drew⟩
  case round =>
    obtain ⟨k, hk, rfl, hwn, hbl⟩ := hrel
    have hr := h.below hbl
    clear h hm
    by_cases hlt : k < L.length
    · have hBr : w.heap.size ≤ wr.heap.size := hbl.size
      have e0 := hr.get k 0 hlt (by omega)
      have e1 := hr.get k 1 hlt (by omega)
      have e2 := hr.get k 2 hlt (by omega)
      have e3 := hr.get k 3 hlt (by omega)
      simp only [ecells, List.getElem?_cons_zero, List.getElem?_cons_succ, Nat.add_zero] at e0 e1 e2 e3
      have HQ : Hid ((L.take (k + 1)).map (·.o) = (L.take k).map (·.o) ++ [L[k].o]) := take_snoc hlt
      have hzl : ((L.take k).map (·.o)).length ≤ 6 := by simp; omega
      generalize (L.take k).map (·.o) = zs at hwn HQ hzl
      obtain ⟨x, hx⟩ : ∃ x, L[k] = x := ⟨_, rfl⟩
      rw [hx] at e0 e1 e2 e3 HQ
      clear hx hr
      have hlt' : (k : Int) < (L.length : Int) := by omega
      go_wp2_with (at_builtin; refine wpList_append_own _ rfl _ _ 109 rfl w.heap.size 3 i0 (.int .i64 0) 1 8 Tryd.underlying109 hi hz0 hz1 hz2 rfl (by decide) _ _ _ rfl ((hwn.alloc _).alloc _).own ⟨wr.heap.size + 1, 0, none⟩ 1 1 [.int .i64 x.o] rfl rfl (one_newI _ _ _ _) (one_cellI _ _) ?c3 ?c4 ?c5 ?_)
      case c3 => unfold maxLen; omega
      case c4 => omega
      case c5 => simp; omega
      intro v' w1 hown' hgrow _
      have R := (hwn.alloc _).app (news := [x.o]) (hbl.alloc hBr _) (by simp; omega) rfl hown' hgrow
      rw [← HQ.out] at R
      clear hown' hgrow hwn hbl e0 e1 e2 e3
      go_wp2_with fail
      go_roundw
      case rel => exact ⟨k + 1, by omega, by go_num, R.1, R.2⟩
      case measure => simp [intOf]; omega
    · obtain rfl : k = L.length := by omega
      have hlt' : ¬ (L.length : Int) < (L.length : Int) := by omega
      rw [List.take_length] at hwn
      clear hr
      go_wp2_with fail
      go_ret
      exact ⟨_, rfl, hwn, hbl⟩
end Go.Proofs.YtbebfliimjjohaaDoor.Cache
