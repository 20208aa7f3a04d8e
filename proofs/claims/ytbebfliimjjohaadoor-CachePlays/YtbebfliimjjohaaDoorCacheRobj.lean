/-
  The contract of Objects of the document's own cache, over the turned program.
-/
import Derived.Test.YtbebfliimjjohaaDoorCacheRef
namespace Go.Proofs.YtbebfliimjjohaaDoor.Cache
open Go.RowKit

/-- An item's box. -/
def IB (w : World) (q : Nat) (x : It) : Prop := w.heap[q]? = some (iobj x)
theorem IB.made (w : World) (x : It) : IB (w.alloc (iobj x)) w.heap.size x := heap_alloc_new w _
theorem IB.lt {w : World} {q : Nat} {x : It} (h : IB w q x) : q < w.heap.size := (Array.getElem?_eq_some_iff.1 h).1
theorem IB.ob {w w' : World} {q : Nat} {x : It} {bs : List Nat} (h : IB w q x) (hb : Ob bs w w') (hn : q ∉ bs) : IB w' q x := (hb.block q h.lt hn).trans h
theorem IB.alloc {w : World} {q : Nat} {x : It} (h : IB w q x) (o : Obj) : IB (w.alloc o) q x := h.ob (bs := []) ((Ob.refl _ _).alloc o) (by simp)
theorem IB.cells {w : World} {q : Nat} {x : It} (h : IB w q x) : w.cell? ⟨q, 0, none⟩ = some (.int .i64 x.e.o) ∧ w.cell? ⟨q, 1, none⟩ = some (.string x.e.d) ∧ w.cell? ⟨q, 2, none⟩ = some (.int .i64 x.e.v) ∧ w.cell? ⟨q, 3, none⟩ = some (.int .i64 x.e.u) ∧ w.cell? ⟨q, 4, none⟩ = some (.int .i64 x.s) := by
  refine ⟨?_, ?_, ?_, ?_, ?_⟩ <;> (rw [cell_of_row _ _ _ _ _ _ h]; rfl)
theorem IB.free {w : World} {q : Nat} {x : It} (h : IB w q x) (i : Nat) : w.frozen? ⟨q, i, none⟩ = false := by
  unfold IB iobj at h
  simp [World.frozen?, h]
theorem IB.put {w : World} {q : Nat} {x y : It} (h : IB w q x) : IB (w.setCells q 0 (icells y)) q y := heap_ow (icells y) 0 w (icells x) h (by simp [icells])
theorem HasI.ob {w w' : World} {B : Nat} {v : Value} {l : List Int} {bs : List Nat} (h : HasI w B v l) (hb : Ob bs w w') (hn : ∀ g, v.ownBlock = some g → g ∉ bs) : HasI w' B v l := row_kept h fun g hg => hb.block g (World.ownsRow.lt h g hg).2 (hn g hg)

theorem one_newI0 (w : World) (x : Value) (t : TypeId) : ∀ j u, [x][j]? = some u → (w.alloc (.cells #[x] t)).cell? ((⟨w.heap.size, 0, none⟩ : Addr).add j) = some u := by
  intro j u hj
  match j, hj with
  | 0, hj => simp at hj; subst hj; simp [Addr.add]
  | n + 1, hj => simp at hj
theorem fold_snoc {R : List It} {j : Nat} (h : j < R.length) (last : Int) (z : It) : (R.take (j + 1)).foldl (bst last) z = bst last ((R.take j).foldl (bst last) z) R[j] := by
  rw [List.take_succ_eq_append_getElem h, List.foldl_append]
  rfl
theorem lst_succ {P : List It} {k : Nat} (h : k < P.length) : lst P (k + 1) = P[k].s := by
  unfold lst
  rw [if_neg (by omega), Nat.add_sub_cancel, getElem!_pos P k h]
theorem objs_snoc {P : List It} {k : Nat} (h : k < P.length) : (P.take (k + 1)).map (·.e.o) = (P.take k).map (·.e.o) ++ [P[k].e.o] := by
  rw [List.take_succ_eq_append_getElem h, List.map_append]
  rfl

set_option maxHeartbeats 2000000 in
set_option maxRecDepth 100000 in
theorem robjs_any (r B : Nat) (v : Value) (R P : List It) (tm : Int) (w : World) (h : RefIs w r B v R tm) (hp : P.Perm R) (ho : Ord P tm) (ht : tm < 4611686018427387904) (hl : R.length ≤ 7) :
    Calls Tryd.prog 59 #[tp r] w fun e w' => ∃ v', e = .returned v' ∧ HasI w' w.heap.size v' (P.map (·.e.o)) ∧ Below w.heap.size w w' := by
  obtain ⟨i0, hi, hz0, hz1, hz2⟩ := info_parts info_int
  have hc0 := h.c0
  obtain ⟨ao, c, rfl, hrow⟩ := h.row.shape
  have hpl := hp.length_eq
  have hrlt := h.lt
  go_enter Tryd.func59, Tryd.ntmps59
  go_wp2_with fail
  go_loopw [3, 4, 13] (fun ov la i wr => ∃ k : Nat, k ≤ R.length ∧ i = .int .i64 k ∧ la = .int .i64 (lst P k) ∧ HasI wr w.heap.size ov ((P.take k).map (·.e.o)) ∧ Below w.heap.size w wr) (fun _ _ i _ => R.length - (intOf i).toNat)
  case atStart => exact ⟨0, by omega, rfl, rfl, HasI.nil _ _, Below.refl _ _⟩
  case round =>
    obtain ⟨k, hk, rfl, rfl, hwn, hbl⟩ := hrel
    by_cases hlt : k < R.length
    · have hBr : w.heap.size ≤ wr.heap.size := hbl.size
      have hkP : k < P.length := by omega
      have HF : Hid (R.foldl (bst (lst P k)) zeroI = P[k]) := fold_is ho hp hkP ht
      have HL : Hid (lst P (k + 1) = P[k].s) := lst_succ hkP
      have HO : Hid ((P.take (k + 1)).map (·.e.o) = (P.take k).map (·.e.o) ++ [P[k].e.o]) := objs_snoc hkP
      have hzl : ((P.take k).map (·.e.o)).length ≤ 7 := by simp; omega
      generalize (P.take k).map (·.e.o) = zs at hwn HO hzl
      generalize lst P k = last at HF ⊢
      obtain ⟨y, hy⟩ : ∃ y, P[k] = y := ⟨_, rfl⟩
      rw [hy] at HF HL HO
      obtain ⟨g, rfl, hown, hBg, hgl, hcell⟩ := hrow (by omega)
      have hcell' : ∀ i j (hi : i < R.length), j < 5 → wr.cell? ⟨g, i * 5 + j, none⟩ = (icells R[i])[j]? := fun i j hi hj => (hbl.cell (p := ⟨g, i * 5 + j, none⟩) hgl).trans (hcell i j hi hj)
      have hr := h.below hbl
      have hc := hr.c0
      have hq : IB (wr.alloc (.cells #[.int .i64 0, .string ⟨#[]⟩, .int .i64 0, .int .i64 0, .int .i64 4611686018427387904] 167)) wr.heap.size zeroI := IB.made wr zeroI
      have hlt' : (k : Int) < (R.length : Int) := by omega
      have hbq := hbl.alloc hBr (.cells #[.int .i64 0, .string ⟨#[]⟩, .int .i64 0, .int .i64 0, .int .i64 4611686018427387904] 167)
      have hcq := Lib.cell?_alloc_some (.cells #[.int .i64 0, .string ⟨#[]⟩, .int .i64 0, .int .i64 0, .int .i64 4611686018427387904] 167) hc
      have hwq := hwn.alloc (.cells #[.int .i64 0, .string ⟨#[]⟩, .int .i64 0, .int .i64 0, .int .i64 4611686018427387904] 167)
      have hcellq : Hid (∀ i j (hi : i < R.length), j < 5 → (wr.alloc (.cells #[.int .i64 0, .string ⟨#[]⟩, .int .i64 0, .int .i64 0, .int .i64 4611686018427387904] 167)).cell? ⟨g, i * 5 + j, none⟩ = (icells R[i])[j]?) := fun i j hi hj => (hbq.cell (p := ⟨g, i * 5 + j, none⟩) hgl).trans (hcell i j hi hj)
      have hnq : ∀ a, u3.ownBlock = some a → a ≠ wr.heap.size := fun a ha => by have := (World.ownsRow.lt hwn a ha).2; omega
      have hrq : r ≠ wr.heap.size := by have := hr.ins; omega
      have hgq : g ≠ wr.heap.size := by omega
      clear hy hrow hcell h hr hc0 ho hp hcell' hbl hwn
      go_wp2_with fail
      generalize wr.alloc (.cells #[.int .i64 0, .string ⟨#[]⟩, .int .i64 0, .int .i64 0, .int .i64 4611686018427387904] 167) = wq at hq hbq hcq hwq hcellq ⊢
      obtain ⟨q, hqe⟩ : ∃ q, wr.heap.size = q := ⟨_, rfl⟩
      rw [hqe] at hq hnq hrq hgq hBr ⊢
      clear hqe hc
      go_loopw [21] (fun i wi => ∃ j : Nat, j ≤ R.length ∧ i = .int .i64 j ∧ IB wi q ((R.take j).foldl (bst last) zeroI) ∧ Ob [q] wq wi) (fun i _ => R.length - (intOf i).toNat)
      case atStart => exact ⟨0, by omega, rfl, hq, Ob.refl _ _⟩
      case round =>
        obtain ⟨j, hj, rfl, hib, hOi⟩ := hrel
        have hqw := hib.lt
        by_cases hjl : j < R.length
        · have hgw : g < wq.heap.size := by have := hbq.size; omega
          have hblk : wr.heap[g]? = wq.heap[g]? := hOi.block g hgw (by simpa using hgq)
          have e0 := (World.cell?_of_block (a := ⟨g, j * 5 + 0, none⟩) hblk).trans (hcellq.out j 0 hjl (by omega))
          have e1 := (World.cell?_of_block (a := ⟨g, j * 5 + 1, none⟩) hblk).trans (hcellq.out j 1 hjl (by omega))
          have e2 := (World.cell?_of_block (a := ⟨g, j * 5 + 2, none⟩) hblk).trans (hcellq.out j 2 hjl (by omega))
          have e3 := (World.cell?_of_block (a := ⟨g, j * 5 + 3, none⟩) hblk).trans (hcellq.out j 3 hjl (by omega))
          have e4 := (World.cell?_of_block (a := ⟨g, j * 5 + 4, none⟩) hblk).trans (hcellq.out j 4 hjl (by omega))
          simp only [icells, List.getElem?_cons_zero, List.getElem?_cons_succ, Nat.add_zero] at e0 e1 e2 e3 e4
          have HS : Hid ((R.take (j + 1)).foldl (bst last) zeroI = bst last ((R.take j).foldl (bst last) zeroI) R[j]) := fold_snoc hjl last zeroI
          generalize (R.take j).foldl (bst last) zeroI = b at hib HS
          obtain ⟨x, hx⟩ : ∃ x, R[j] = x := ⟨_, rfl⟩
          rw [hx] at e0 e1 e2 e3 e4 HS
          have hjl' : (j : Int) < (R.length : Int) := by omega
          have hj0 : (0 : Int) ≤ (j : Int) := by omega
          have hia := hib.alloc (iobj x)
          have hOa := hOi.alloc (iobj x)
          have hip : IB ((wr.setCells q 0 (icells x)).alloc (iobj x)) q x := hib.put.alloc _
          have hOp : Ob [q] wq ((wr.setCells q 0 (icells x)).alloc (iobj x)) := (Ob.setCells (by simp) _ _ _ hOi).alloc _
          obtain ⟨b0, b1, b2, b3, b4⟩ := hib.cells
          have f0 := hib.free 0
          have f1 := hib.free 1
          have f2 := hib.free 2
          have f3 := hib.free 3
          have f4 := hib.free 4
          have hqn : q ≠ wr.heap.size := by omega
          clear hx hblk hcellq hcq hwq hbq hib hOi hq hnq HO HL HF
          by_cases c1 : last < x.s
          · by_cases c2 : x.s < b.s
            · have hb : bst last b x = x := by unfold bst; simp [c1, c2]
              have HB : Hid (bst last b x = x) := hb
              clear hb
              clear hia hOa
              go_wp2_with fail
              go_roundw
              case rel => exact ⟨j + 1, by omega, by go_num, by rw [HS.out, HB.out]; exact hip, hOp⟩
              case measure => simp [intOf]; omega
            · clear hip hOp
              have hb : bst last b x = b := by unfold bst; simp [c2]
              have HB : Hid (bst last b x = b) := hb
              clear hb
              have c2' : decide (x.s < b.s) = false := decide_eq_false c2
              go_wp2_with fail
              go_roundw
              case rel => exact ⟨j + 1, by omega, by go_num, by rw [HS.out, HB.out]; exact hia, hOa⟩
              case measure => simp [intOf]; omega
          · clear hip hOp
            have hb : bst last b x = b := by unfold bst; simp [c1]
            have HB : Hid (bst last b x = b) := hb
            clear hb
            have c1' : decide (last < x.s) = false := decide_eq_false c1
            go_wp2_with fail
            go_roundw
            case rel => exact ⟨j + 1, by omega, by go_num, by rw [HS.out, HB.out]; exact hia, hOa⟩
            case measure => simp [intOf]; omega
        · obtain rfl : j = R.length := by omega
          have hjl' : ¬ (R.length : Int) < (R.length : Int) := by omega
          rw [List.take_length, HF.out] at hib
          obtain ⟨b0, b1, b2, b3, b4⟩ := hib.cells
          have hwi := hwq.ob hOi (fun a ha => by simpa using hnq a ha)
          have hbi : Below w.heap.size w wr := hbq.trans (hOi.below (by simpa using hBr) hbq.size)
          have hBi := hbi.size
          clear hcellq hcq hwq hbq hib hOi hq hnq HF
          go_wp2_with (at_builtin; refine wpList_append_own _ rfl _ _ 109 rfl w.heap.size 3 i0 (.int .i64 0) 1 8 Tryd.underlying109 hi hz0 hz1 hz2 rfl (by decide) _ _ _ rfl (hwi.alloc _).own ⟨wr.heap.size, 0, none⟩ 1 1 [.int .i64 y.e.o] rfl rfl (one_newI0 _ _ _) (one_cellI _ _) ?c3 ?c4 ?c5 ?_)
          case c3 => unfold maxLen; omega
          case c4 => omega
          case c5 => omega
          intro v' w1 hown' hgrow _
          have R1 := hwi.app (news := [y.e.o]) hbi hBi rfl hown' hgrow
          rw [← HO.out] at R1
          clear hown' hgrow hwi hbi b0 b1 b2 b3 b4
          go_wp2_with fail
          go_roundw
          case rel => exact ⟨k + 1, by omega, by go_num, by rw [HL.out], R1.1, R1.2⟩
          case measure => simp [intOf]; omega
    · obtain rfl : k = R.length := by omega
      have hlt' : ¬ (R.length : Int) < (R.length : Int) := by omega
      rw [← hpl, List.take_length] at hwn
      have HN : Hid (HasI wr w.heap.size u3 (P.map (·.e.o))) := hwn
      clear h hrow hwn hc0 hpl
      go_wp2_with fail
      go_ret
      exact ⟨_, rfl, HN.out, hbl⟩
end Go.Proofs.YtbebfliimjjohaaDoor.Cache
