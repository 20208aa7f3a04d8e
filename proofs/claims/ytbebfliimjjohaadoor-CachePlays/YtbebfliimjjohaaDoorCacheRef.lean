/-
  The contract of Drop of the document's own cache, over the turned program.
-/
import Derived.Test.YtbebfliimjjohaaDoorCacheObj
import Derived.Great.BuildSlice
namespace Go.Proofs.YtbebfliimjjohaaDoor.Cache
open Go.RowKit

theorem info_item : (Tryd.prog.info? 167).map (fun i => (i.zero, i.size, i.bytes)) = some (some (.agg #[.int .i64 0, .string ⟨#[]⟩, .int .i64 0, .int .i64 0, .int .i64 0]), 5, 48) := by kernel_rfl
/-- An item as a value. -/
def iagg (x : It) : Value := .agg #[.int .i64 x.e.o, .string x.e.d, .int .i64 x.e.v, .int .i64 x.e.u, .int .i64 x.s]
def iobj (x : It) : Obj := .cells #[.int .i64 x.e.o, .string x.e.d, .int .i64 x.e.v, .int .i64 x.e.u, .int .i64 x.s] 167
theorem item_made (w : World) (x : It) : ∀ j u, (icells x)[j]? = some u → (w.alloc (.cells #[.int .i64 x.e.o, .string x.e.d, .int .i64 x.e.v, .int .i64 x.e.u, .int .i64 x.s] 167)).cell? ((⟨w.heap.size, 0, none⟩ : Addr).add j) = some u := by
  intro j u hj
  rw [Addr.add_mid, Nat.zero_add, cell_of_row _ _ _ _ _ _ (heap_alloc_new w _), ← hj]
  exact List.getElem?_toArray
/-- A slice of one item, made of the item in a slot. -/
theorem fill_item (x : It) : Instr.fill (fun i => some (i * 5, 5)) ((Array.range (1 * 5)).map ((Value.agg #[.int .i64 0, .string ⟨#[]⟩, .int .i64 0, .int .i64 0, .int .i64 0]).cells[· % (Value.agg #[.int .i64 0, .string ⟨#[]⟩, .int .i64 0, .int .i64 0, .int .i64 0]).cells.size]!)) [(0, iagg x)] = some #[.int .i64 x.e.o, .string x.e.d, .int .i64 x.e.v, .int .i64 x.e.u, .int .i64 x.s] := by
  have h0 : Array.range 0 = #[] := rfl
  simp [Instr.fill, iagg, Value.cells, Array.range_succ, h0]
theorem wpList_oneItem {ops : Array Oper} {rest : List Oper} {o : Oper} {a : Act} {w : World} {Q : Exit → Act → World → Prop} (hg : o.guard = none) (t : Nat) (ho : o.op = .buildSlice 121 1 #[(0, .tmp t)]) (x : It) (ht : a.eval (.tmp t) = iagg x)
    (h : wpList Tryd.prog ops Q rest (a.put o.dst (.slice (some ⟨w.heap.size, 0, none⟩) 1 1)) (w.alloc (.cells #[.int .i64 x.e.o, .string x.e.d, .int .i64 x.e.v, .int .i64 x.e.u, .int .i64 x.s] 167))) : wpList Tryd.prog ops Q (o :: rest) a w := by
  obtain ⟨i0, hi, hy0, hy1, hy2⟩ := info_parts info_item
  refine wpList_buildSlice hg 121 167 1 _ ho _ i0 _ Tryd.underlying121 hi hy0 (by rw [hy1]; decide) (by rw [hy1]; decide) ?_ h
  rw [hy1]
  simp only [List.map_toArray, List.map_cons, List.map_nil, ht]
  exact fill_item x
theorem Row.own {w : World} {B : Nat} {v : Value} {R : List It} (h : Row w B v R) : w.ownsRow B 167 5 v R.length (rcells R) := h
theorem Row.alloc {w : World} {B : Nat} {v : Value} {R : List It} (h : Row w B v R) (o : Obj) : Row (w.alloc o) B v R := World.ownsRow.alloc h o
/-- What an append of one item behind a new block leaves. -/
theorem Row.app {w1 : World} {B : Nat} {v' : Value} {R : List It} {x : It} (hown : w1.ownsRow B 167 5 v' (R.length + 1) (rcells R ++ icells x)) : Row w1 B v' (R ++ [x]) := by
  unfold Row
  rw [List.length_append, rcells_snoc]
  exact hown

theorem Row.mono {w : World} {B C : Nat} {v : Value} {R : List It} (h : Row w C v R) (hb : B ≤ C) : Row w B v R := by
  refine ⟨h.1, ?_⟩
  rcases h.2 with h | ⟨g, cap, cur, h1, h2, h3⟩
  · exact .inl h
  · exact .inr ⟨g, cap, cur, h1, by omega, h3⟩

theorem filter_yes {R : List It} {k : Nat} {o : Int} (h : k < R.length) (hp : others o R[k] = true) : (R.take (k + 1)).filter (others o) = (R.take k).filter (others o) ++ [R[k]] := by
  rw [List.take_succ_eq_append_getElem h, List.filter_append, List.filter_cons_of_pos hp]
  rfl
theorem filter_no {R : List It} {k : Nat} {o : Int} (h : k < R.length) (hp : others o R[k] = false) : (R.take (k + 1)).filter (others o) = (R.take k).filter (others o) := by
  rw [List.take_succ_eq_append_getElem h, List.filter_append, List.filter_cons_of_neg (by simp [hp])]
  simp
theorem filter_le (R : List It) (k : Nat) (o : Int) : ((R.take k).filter (others o)).length ≤ R.length := Nat.le_trans (List.length_filter_le _ _) (by simp; omega)

set_option maxHeartbeats 2000000 in
set_option maxRecDepth 100000 in
theorem rdrop_any (o : Int) (r B : Nat) (v : Value) (R : List It) (tm : Int) (w : World) (h : RefIs w r B v R tm) (hB : B ≤ w.heap.size) (hl : R.length ≤ 7) :
    Calls Tryd.prog 56 #[tp r, .int .i64 o] w fun e w' => e = .returned (.tuple #[]) ∧ (∃ v', RefIs w' r B v' (R.filter (others o)) tm ∧ ∀ g, v'.ownBlock = some g → w.heap.size ≤ g) ∧ Ob [r] w w' := by
  obtain ⟨i0, hi, hz0, hz1, hz2⟩ := info_parts info_item
  have hc0 := h.c0
  obtain ⟨ao, c, rfl, hrow⟩ := h.row.shape
  go_enter Tryd.func56, Tryd.ntmps56
  go_wp2_with fail
  go_loopw [4, 12] (fun lv i wr => ∃ k : Nat, k ≤ R.length ∧ i = .int .i64 k ∧ Row wr w.heap.size lv ((R.take k).filter (others o)) ∧ Below w.heap.size w wr) (fun _ i _ => R.length - (intOf i).toNat)
  case atStart => exact ⟨0, by omega, rfl, Row.nil _ _, Below.refl _ _⟩
  case round =>
    obtain ⟨k, hk, rfl, hwn, hbl⟩ := hrel
    by_cases hlt : k < R.length
    · have hBr : w.heap.size ≤ wr.heap.size := hbl.size
      obtain ⟨g, rfl, _, _, hgl, hcell⟩ := hrow (by omega)
      have e0 := (hbl.cell (p := ⟨g, k * 5 + 0, none⟩) hgl).trans (hcell k 0 hlt (by omega))
      have e1 := (hbl.cell (p := ⟨g, k * 5 + 1, none⟩) hgl).trans (hcell k 1 hlt (by omega))
      have e2 := (hbl.cell (p := ⟨g, k * 5 + 2, none⟩) hgl).trans (hcell k 2 hlt (by omega))
      have e3 := (hbl.cell (p := ⟨g, k * 5 + 3, none⟩) hgl).trans (hcell k 3 hlt (by omega))
      have e4 := (hbl.cell (p := ⟨g, k * 5 + 4, none⟩) hgl).trans (hcell k 4 hlt (by omega))
      simp only [icells, List.getElem?_cons_zero, List.getElem?_cons_succ, Nat.add_zero] at e0 e1 e2 e3 e4
      have hlt' : (k : Int) < (R.length : Int) := by omega
      have hk0 : (0 : Int) ≤ (k : Int) := by omega
      have hfl := filter_le R k o
      cases hp : others o R[k] with
      | true =>
        have HQ : Hid ((R.take (k + 1)).filter (others o) = (R.take k).filter (others o) ++ [R[k]]) := filter_yes hlt hp
        generalize (R.take k).filter (others o) = zs at hwn HQ hfl
        obtain ⟨x, hx⟩ : ∃ x, R[k] = x := ⟨_, rfl⟩
        rw [hx] at e0 e1 e2 e3 e4 HQ hp
        have hpo : (x.e.o == o) = false := by simpa using oth_true hp
        clear hx hrow hcell h hc0 hp
        go_wp2_with (first | refine wpList_oneItem rfl 21 rfl x rfl ?_ | (at_builtin; refine wpList_append_own _ rfl _ _ 121 rfl w.heap.size 167 i0 (.agg #[.int .i64 0, .string ⟨#[]⟩, .int .i64 0, .int .i64 0, .int .i64 0]) 5 48 Tryd.underlying121 hi hz0 hz1 hz2 rfl (by decide) _ _ _ rfl ((hwn.alloc _).alloc _).own ⟨_, 0, none⟩ 1 1 (icells x) rfl rfl (item_made _ x) (icells_one x) ?c3 ?c4 ?c5 ?_))
        case c3 => unfold maxLen; omega
        case c4 => omega
        case c5 => simp; omega
        intro v' w1 hown' hgrow _
        have R1 : Row w1 w.heap.size v' (zs ++ [x]) := Row.app hown'
        have R2 : Below w.heap.size w w1 := ((hbl.alloc hBr _).alloc (by simp; omega) _).grown hgrow (by simp; omega) (fun k hk => (World.ownsRow.lt hwn k hk).1)
        rw [← HQ.out] at R1
        clear hown' hgrow hwn hbl e0 e1 e2 e3 e4
        go_wp2_with fail
        go_roundw
        case rel => exact ⟨k + 1, by omega, by go_num, R1, R2⟩
        case measure => simp [intOf]; omega
      | false =>
        have HQ : Hid ((R.take (k + 1)).filter (others o) = (R.take k).filter (others o)) := filter_no hlt hp
        generalize (R.take k).filter (others o) = zs at hwn HQ hfl
        obtain ⟨x, hx⟩ : ∃ x, R[k] = x := ⟨_, rfl⟩
        rw [hx] at e0 e1 e2 e3 e4 hp
        obtain rfl : x.e.o = o := oth_false hp
        have hwn' := hwn.alloc (iobj x)
        have hbl' := hbl.alloc hBr (iobj x)
        clear hx hrow hcell h hc0 hp hwn hbl
        go_wp2_with fail
        go_roundw
        case rel => exact ⟨k + 1, by omega, by go_num, by rw [HQ.out]; exact hwn', hbl'⟩
        case measure => simp [intOf]; omega
    · obtain rfl : k = R.length := by omega
      have hlt' : ¬ (R.length : Int) < (R.length : Int) := by omega
      rw [List.take_length] at hwn
      have hr := h.below hbl
      have hrow' : Row wr B _ _ := hwn.mono hB
      obtain ⟨ao', c', rfl, _⟩ := hwn.shape
      have hge : ∀ g, (Value.slice ao' (R.filter (others o)).length c').ownBlock = some g → w.heap.size ≤ g := fun g hg => (World.ownsRow.lt hwn g hg).1
      have HG : Hid (∀ g, (Value.slice ao' (R.filter (others o)).length c').ownBlock = some g → w.heap.size ≤ g) := hge
      clear hge
      have hc := hr.c0
      have hf := hr.free 0
      clear h hrow hwn hc0
      go_wp2_with fail
      go_end0
      exact ⟨rfl, ⟨_, hr.setRow hrow', HG.out⟩, (Ob.of_below hbl).setCell (by simp) _⟩
end Go.Proofs.YtbebfliimjjohaaDoor.Cache
