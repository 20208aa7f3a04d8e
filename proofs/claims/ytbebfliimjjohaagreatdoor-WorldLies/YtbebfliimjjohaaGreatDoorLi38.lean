/-
  Parts of the proof: WrmK WrmL WkpA.
-/
import Derived.Test.YtbebfliimjjohaaGreatDoorLi34
import Derived.Test.YtbebfliimjjohaaGreatDoorLi37
import Derived.Laws.Tables
import Derived.Test.YtbebfliimjjohaaGreatDoorLi20
import Derived.Maps.RangeWalk
import Derived.Test.YtbebfliimjjohaaGreatDoorLi06
namespace Go.Proofs.YtbebfliimjjohaaGreatDoor
section
namespace Wld
open Go.RowKit Go.Maps
open Lease (Ob I64 upd TabIs hol dels objB HasI map_block map_ne mx)
open Cache (tp row_kept row_below)
open Wal (R WalIs DiskIs Oq Fw rcells)
open Num (M okB strOf ints)
open Net (NetIs Only pcells)
def isZ : Value → Bool
 | .int .u8 0 => true
 | _ => false
theorem isZ_eq {v : Value} (h : isZ v = true) : v = .int .u8 0 := by
 unfold isZ at h
 split at h
 · rfl
 · cases h
theorem wz_disk : ((Tryz.zeroCells75.toList.drop 3).take 12400).all isZ = true := by kernel_rfl
theorem wz_tail : Tryz.zeroCells75.toList.drop 12403 = [.bool false, .int .i64 0, .slice none 0 0, .int .i64 0, .pointer none, .int .i64 0, .slice none 0 0, .slice none 0 0, .int .i64 0] := by kernel_rfl
theorem wz_len : Tryz.zeroCells75.toList.length = 12412 := by
 have := congrArg List.length wz_tail
 rw [List.length_drop] at this
 simp only [List.length_cons, List.length_nil] at this
 omega
theorem wz_at (i : Nat) (h : i < 12400) : Tryz.zeroCells75[3 + i]? = some (.int .u8 0) := by
 have hl := wz_len
 rw [← Array.getElem?_toList]
 have hi : 3 + i < Tryz.zeroCells75.toList.length := by omega
 have hm : ((Tryz.zeroCells75.toList.drop 3).take 12400)[i]? = some Tryz.zeroCells75.toList[3 + i] := by
   rw [List.getElem?_take, if_pos h, List.getElem?_drop, List.getElem?_eq_getElem hi]
 rw [List.getElem?_eq_getElem hi, isZ_eq (List.all_eq_true.1 wz_disk _ (List.mem_of_getElem? hm))]
theorem wz_end (i : Nat) : Tryz.zeroCells75[12403 + i]? = [Value.bool false, .int .i64 0, .slice none 0 0, .int .i64 0, .pointer none, .int .i64 0, .slice none 0 0, .slice none 0 0, .int .i64 0][i]? := by
 rw [← Array.getElem?_toList, ← List.getElem?_drop, wz_tail]
def wcells (z : Array Value) (tob tv td : Int) (G n : Nat) : Array Value := (((z.setIfInBounds 0 (.int .i64 tob)).setIfInBounds 1 (.int .i64 tv)).setIfInBounds 2 (.int .i64 td)).setIfInBounds 12409 (.slice (some ⟨G, 0, none⟩) n n)
theorem wcells_other (tob tv td : Int) (G n i : Nat) (h0 : 3 ≤ i) (h1 : i ≠ 12409) : (wcells Tryz.zeroCells75 tob tv td G n)[i]? = Tryz.zeroCells75[i]? := by
 unfold wcells
 rw [Array.getElem?_setIfInBounds_ne (by omega), Array.getElem?_setIfInBounds_ne (by omega), Array.getElem?_setIfInBounds_ne (by omega), Array.getElem?_setIfInBounds_ne (by omega)]
theorem wz_size : Tryz.zeroCells75.size = 12412 := by rw [← Array.length_toList]; exact wz_len
theorem wcells_0 (tob tv td : Int) (G n : Nat) : (wcells Tryz.zeroCells75 tob tv td G n)[0]? = some (.int .i64 tob) := by
 unfold wcells
 rw [Array.getElem?_setIfInBounds_ne (by omega), Array.getElem?_setIfInBounds_ne (by omega), Array.getElem?_setIfInBounds_ne (by omega), Array.getElem?_setIfInBounds_self_of_lt (by rw [wz_size]; omega)]
theorem wcells_1 (tob tv td : Int) (G n : Nat) : (wcells Tryz.zeroCells75 tob tv td G n)[1]? = some (.int .i64 tv) := by
 unfold wcells
 rw [Array.getElem?_setIfInBounds_ne (by omega), Array.getElem?_setIfInBounds_ne (by omega), Array.getElem?_setIfInBounds_self_of_lt (by rw [Array.size_setIfInBounds, wz_size]; omega)]
theorem wcells_2 (tob tv td : Int) (G n : Nat) : (wcells Tryz.zeroCells75 tob tv td G n)[2]? = some (.int .i64 td) := by
 unfold wcells
 rw [Array.getElem?_setIfInBounds_ne (by omega), Array.getElem?_setIfInBounds_self_of_lt (by rw [Array.size_setIfInBounds, Array.size_setIfInBounds, wz_size]; omega)]
theorem wcells_s (tob tv td : Int) (G n : Nat) : (wcells Tryz.zeroCells75 tob tv td G n)[12409]? = some (.slice (some ⟨G, 0, none⟩) n n) := by
 unfold wcells
 rw [Array.getElem?_setIfInBounds_self_of_lt (by rw [Array.size_setIfInBounds, Array.size_setIfInBounds, Array.size_setIfInBounds, wz_size]; omega)]
structure Nb (w wr : World) (Q G n k : Nat) (tob tv td : Int) (c m : Nat → Nat) : Prop where
 bl : Below w.heap.size w wr
 q : wr.heap[Q]? = some (.cells (wcells Tryz.zeroCells75 tob tv td G n) 75)
 g : isC wr G 84
 gf : ∀ i, wr.frozen? ⟨G, i, none⟩ = false
 seats : ∀ i, i < k → SeatIs wr G i (c i) ⟨K.new i (short td tob) (short td tv), 0, 0, -1⟩
 rest : ∀ i, k ≤ i → i < n → wr.cell? ⟨G, i * 4, none⟩ = some (.pointer none) ∧ wr.cell? ⟨G, i * 4 + 1, none⟩ = some (.int .i64 0) ∧ wr.cell? ⟨G, i * 4 + 2, none⟩ = some (.int .i64 0) ∧ wr.cell? ⟨G, i * 4 + 3, none⟩ = some (.int .i64 0)
 cli : ∀ i, i < k → CliIs wr (c i) (m i) (K.new i (short td tob) (short td tv))
 lo : ∀ i, i < k → Q < c i ∧ Q < m i
 ap : ∀ i j, i < k → j < k → i ≠ j → c i ≠ c j ∧ m i ≠ m j
theorem Nb.cell {w wr : World} {Q G n k : Nat} {tob tv td : Int} {c m : Nat → Nat} (h : Nb w wr Q G n k tob tv td c m) (i : Nat) : wr.cell? ⟨Q, i, none⟩ = (wcells Tryz.zeroCells75 tob tv td G n)[i]? := cell_of_row _ _ _ _ _ _ h.q
theorem Nb.done {w wr : World} {Q G n : Nat} {tob tv td : Int} {c m : Nat → Nat} (h : Nb w wr Q G n n tob tv td c m) (hn1 : 1 ≤ n) (hn4 : n ≤ 4) (a : Ad) : WdIs wr ⟨Q, G, c, m, a⟩ (Wd.bare tob tv td n) := by
 have hQ : Q < wr.heap.size := (Array.getElem?_eq_some_iff.1 h.q).1
 have hf : ∀ i, wr.frozen? ⟨Q, i, none⟩ = false := fun i => by
   simp [World.frozen?, h.q]
 have e : ∀ i, 3 ≤ i → i ≠ 12409 → wr.cell? ⟨Q, i, none⟩ = Tryz.zeroCells75[i]? := fun i h0 h1 => (h.cell i).trans (wcells_other _ _ _ _ _ _ h0 h1)
 refine ⟨⟨⟨_, _, h.q⟩, hf, (h.cell 0).trans (wcells_0 ..), (h.cell 1).trans (wcells_1 ..), (h.cell 2).trans (wcells_2 ..), (e 12407 (by omega) (by omega)).trans (wz_end 4), (e 12408 (by omega) (by omega)).trans (wz_end 5), (h.cell 12409).trans (wcells_s ..), (e 12411 (by omega) (by omega)).trans (wz_end 8)⟩, ?_, ?_, ⟨.slice none 0 0, (e 12410 (by omega) (by omega)).trans (wz_end 7), ?_⟩, h.g, h.gf, h.seats, h.cli, h.ap, fun v hv => (by cases hv), hn1, hn4⟩
 · refine ⟨fun k hk => (by simp [Wd.bare] at hk), fun k hk j hj => ⟨by rw [e _ (by omega) (by omega), show 3 + k * 62 + j = 3 + (k * 62 + j) by omega, wz_at _ (by omega)]; rfl, hf _⟩, fun k _ hk => ?_, (e 12403 (by omega) (by omega)).trans (wz_end 0), (e 12404 (by omega) (by omega)).trans (wz_end 1), hf, by simp [Wd.bare], by simp [Wd.bare]⟩
   rw [e _ (by omega) (by omega), show 3 + k * 62 + 61 = 3 + (k * 62 + 61) by omega, wz_at _ (by omega)]
 · exact ⟨⟨.slice none 0 0, (e 12405 (by omega) (by omega)).trans (wz_end 2), ⟨rfl, .inl ⟨rfl, rfl⟩⟩⟩, ⟨0, (e 12406 (by omega) (by omega)).trans (wz_end 3)⟩, hf, by show Q < Q + 1; omega, by show Q + 1 ≤ wr.heap.size; omega, by simp [Wd.bare]⟩
 · exact ⟨rfl, .inl ⟨rfl, rfl⟩⟩
theorem Nb.more {w wr w2 : World} {Q G n k : Nat} {tob tv td : Int} {c m : Nat → Nat} (h : Nb w wr Q G n k tob tv td c m) (hk : k < n) (hQG : G < Q) (hw : w.heap.size ≤ G) {x q : Nat} (hb : Below wr.heap.size wr w2) (hC : CliIs w2 x q (K.new k (short td tob) (short td tv))) (hx : wr.heap.size ≤ x) (hq : wr.heap.size ≤ q) :
   Nb w (seated w2 G k x 0) Q G n (k + 1) tob tv td (updN c k x) (updN m k q) := by
 have hQ : Q < wr.heap.size := (Array.getElem?_eq_some_iff.1 h.q).1
 obtain ⟨m1, m2, m3, m4⟩ := seated_meta w2 G k x 0
 have hs2 := hb.size
 have o : ∀ y, y ≠ G → (seated w2 G k x 0).heap[y]? = w2.heap[y]? := fun y hy => seated_other w2 G k x 0 y hy
 have r := h.rest k (by omega) hk
 have hG : G < wr.heap.size := h.g.lt
 have cG : ∀ i, w2.cell? ⟨G, i, none⟩ = wr.cell? ⟨G, i, none⟩ := fun i => hb.cell (p := ⟨G, i, none⟩) hG
 obtain ⟨n0, n2, n3⟩ := seated_new w2 G k x 0 ((cG _).trans r.1) ((cG _).trans r.2.2.1) ((cG _).trans r.2.2.2)
 have ot : ∀ i, i ≠ k → ∀ j, j < 4 → (seated w2 G k x 0).cell? ⟨G, i * 4 + j, none⟩ = wr.cell? ⟨G, i * 4 + j, none⟩ := fun i hi j hj => (seated_cell w2 G k x 0 _ (by omega) (by omega) (by omega)).trans (cG _)
 have hbl := h.bl.size
 refine ⟨⟨m2.trans (hb.os.trans h.bl.os), m3.trans (hb.tape.trans h.bl.tape), m4.trans (hb.output.trans h.bl.output), by omega, fun y hy => (o y (by omega)).trans ((hb.block y (by omega)).trans (h.bl.block y hy))⟩, (o Q (by omega)).trans ((hb.block Q hQ).trans h.q), ?_, fun i => ?_, fun i hi => ?_, fun i h1 h2 => ?_, fun i hi => ?_, fun i hi => ?_, fun i j hi hj hij => ?_⟩
 · unfold seated
   exact Wal.typ_setCell (Wal.typ_setCell (Wal.typ_setCell (h.g.same (hb.block G hG))))
 · rw [seated_fro, hb.frozen (p := ⟨G, i, none⟩) hG]; exact h.gf i
 · by_cases e : i = k
   · subst e
     rw [updN_same]
     exact ⟨n0, (seated_cell w2 G i x 0 (i * 4 + 1) (by omega) (by omega) (by omega)).trans ((cG _).trans r.2.1), n2, n3⟩
   · rw [updN_other _ _ e]
     have y := h.seats i (by omega)
     exact ⟨(ot i e 0 (by omega)).trans y.c0, (ot i e 1 (by omega)).trans y.c1, (ot i e 2 (by omega)).trans y.c2, (ot i e 3 (by omega)).trans y.c3⟩
 · have y := h.rest i (by omega) h2
   have e : i ≠ k := by omega
   exact ⟨(ot i e 0 (by omega)).trans y.1, (ot i e 1 (by omega)).trans y.2.1, (ot i e 2 (by omega)).trans y.2.2.1, (ot i e 3 (by omega)).trans y.2.2.2⟩
 · by_cases e : i = k
   · subst e
     rw [updN_same, updN_same]
     exact hC.blocks (o x (by omega)) (o q (by omega))
   · rw [updN_other _ _ e, updN_other _ _ e]
     have y := h.cli i (by omega)
     have lo := h.lo i (by omega)
     have lt := y.lt
     exact y.blocks ((o _ (by omega)).trans (hb.block _ lt.1)) ((o _ (by omega)).trans (hb.block _ lt.2))
 · by_cases e : i = k
   · subst e; rw [updN_same, updN_same]; omega
   · rw [updN_other _ _ e, updN_other _ _ e]; exact h.lo i (by omega)
 · unfold updN
   have li : i ≠ k → c i < wr.heap.size ∧ m i < wr.heap.size := fun e => (h.cli i (by omega)).lt
   have lj : j ≠ k → c j < wr.heap.size ∧ m j < wr.heap.size := fun e => (h.cli j (by omega)).lt
   by_cases e1 : i = k
   · have e2 : j ≠ k := by omega
     have := lj e2
     rw [if_pos e1, if_neg e2, if_pos e1, if_neg e2]
     omega
   · by_cases e2 : j = k
     · have := li e1
       rw [if_neg e1, if_pos e2, if_neg e1, if_pos e2]
       omega
     · rw [if_neg e1, if_neg e2, if_neg e1, if_neg e2]
       exact h.ap i j (by omega) (by omega) hij
theorem WdB.bare {tob tv td : Int} {n : Nat} (h1 : 1 ≤ tv) (h2 : tv ≤ tob) (h3 : tob ≤ 274877906944) (h4 : 0 ≤ td) (h5 : td ≤ 500) : WdB (Wd.bare tob tv td n) 0 := by
 have s1 := short_bounds h4 h5 (t := tob) (by omega) h3
 have s2 := short_bounds h4 h5 (t := tv) (by omega) (by omega)
 refine ⟨by show 0 ≤ tob; omega, h3, by show 0 ≤ tv; omega, by show tv ≤ _; omega, h4, h5, Int.le_refl 0, by simp [Wd.bare, K.new], fun i _ => ⟨⟨by simp [Wd.bare, K.new], by simp [Wd.bare, K.new], by simp [Wd.bare, K.new], by simp [Wd.bare, K.new], by simp [Wd.bare, K.new], by simp [Wd.bare, K.new], by simp [Wd.bare, K.new], s1.1, ?_, s2.1, ?_, by simp [Wd.bare, K.new], by simp [Wd.bare, K.new], by simp [Wd.bare, K.new], by simp [Wd.bare, K.new], fun x hx => (by cases hx), by show (⟨#[]⟩ : ByteArray).size ≤ 20; decide⟩, by simp [Wd.bare, K.new], by simp [Wd.bare, K.new], by simp [Wd.bare, K.new], by simp [Wd.bare, K.new], by simp [Wd.bare, K.new], by show (-1 : Int) < _; simp [Wd.bare]⟩, by simp [Wd.bare, K.new], by simp [Wd.bare, K.new], by simp [Wd.bare], fun p hp => (by simp [Wd.bare] at hp), by simp [Wd.bare], fun v hv => (by cases hv), fun r hr => (by simp [Wd.bare] at hr), by simp [Wd.bare], by simp [Wd.bare, K.new], by simp [Wd.bare, K.new]⟩
 · show short td tob ≤ _; omega
 · show short td tv ≤ _; omega
set_option maxRecDepth 100000 in
theorem mayW_any (tob tv td : Int) (w : World) (h1 : 1 ≤ tv) (h2 : tv ≤ tob) (h3 : tob ≤ 274877906944) (h4 : 0 ≤ td) (h5 : td ≤ 500) :
   Calls Tryz.prog 33 #[.agg #[.int .i64 tob, .int .i64 tv, .int .i64 td]] w fun e w' => e = .returned (.bool true) ∧ Below w.heap.size w w' ∧ w'.heap.size = w.heap.size + 1 := by
 have hb : Below w.heap.size w (w.alloc (.cells #[.int .i64 tob, .int .i64 tv, .int .i64 td] 32)) := (Below.refl _ _).alloc (Nat.le_refl _) _
 go_enter Tryz.func33, Tryz.ntmps33
 go_wp2
 go_ret
 exact ⟨by simp, hb, by simp⟩
end Wld
end
section
namespace Wld
open Go.RowKit Go.Maps
open Lease (Ob I64 upd TabIs hol dels objB HasI map_block map_ne mx)
open Cache (tp row_kept row_below)
open Wal (R WalIs DiskIs Oq Fw rcells)
open Num (M okB strOf ints)
open Net (NetIs Only pcells hasB)
set_option maxHeartbeats 1000000 in
set_option maxRecDepth 100000 in
theorem deliver_no (A : Wa) (s : Wd) (k : Int) (w : World) (h : WdIs w A s) (hk : hasB k s.net.length = false) :
   Calls Tryz.prog 23 #[tp A.Q, .int .i64 k] w fun e w' => (∃ v, e = .returned v) ∧ Below w.heap.size w w' := by
 have htk := Net.take_no (A.Q + 1) A.Q (s.net.map encN) k w h.net (by rw [List.length_map]; exact hk)
 clear h
 go_enter Tryz.func23, Tryz.ntmps23
 go_wp2_with fail
 refine htk.mono ?_
 rintro e w2 ⟨rfl, hb⟩
 have hb2 : ∀ o, Below w.heap.size w (w2.alloc o) := fun o => hb.alloc hb.size o
 clear htk
 go_wp2_with fail
 go_ret
 exact ⟨⟨_, rfl⟩, hb2 _⟩
set_option maxRecDepth 100000 in
theorem lose_no (A : Wa) (s : Wd) (k : Int) (w : World) (h : WdIs w A s) (hk : hasB k s.net.length = false) :
   Calls Tryz.prog 24 #[tp A.Q, .int .i64 k] w fun e w' => (∃ v, e = .returned v) ∧ Below w.heap.size w w' := by
 have htk := Net.take_no (A.Q + 1) A.Q (s.net.map encN) k w h.net (by rw [List.length_map]; exact hk)
 clear h
 go_enter Tryz.func24, Tryz.ntmps24
 go_wp2_with fail
 refine htk.mono ?_
 rintro e w2 ⟨rfl, hb⟩
 have hb2 : ∀ o, Below w.heap.size w (w2.alloc o) := fun o => hb.alloc hb.size o
 clear htk
 go_wp2_with fail
 go_ret
 exact ⟨⟨_, rfl⟩, hb2 _⟩
set_option maxRecDepth 100000 in
theorem twice_no (A : Wa) (s : Wd) (k : Int) (w : World) (h : WdIs w A s) (hk : hasB k s.net.length = false) :
   Calls Tryz.prog 25 #[tp A.Q, .int .i64 k] w fun e w' => (∃ v, e = .returned v) ∧ Below w.heap.size w w' := by
 have htk := Net.twice_no (A.Q + 1) A.Q (s.net.map encN) k w h.net (by rw [List.length_map]; exact hk)
 clear h
 go_enter Tryz.func25, Tryz.ntmps25
 go_wp2_with fail
 refine htk.mono ?_
 rintro e w2 ⟨rfl, rfl⟩
 clear htk
 go_wp2_with fail
 go_ret
 exact ⟨⟨_, rfl⟩, Below.refl _ _⟩
def zseats : Nat → List Value
 | 0 => []
 | n + 1 => [.pointer none, .int .i64 0, .int .i64 0, .int .i64 0] ++ zseats n
theorem zseats_at : ∀ (n i : Nat), i < n → (zseats n)[i * 4]? = some (.pointer none) ∧ (zseats n)[i * 4 + 1]? = some (.int .i64 0) ∧ (zseats n)[i * 4 + 2]? = some (.int .i64 0) ∧ (zseats n)[i * 4 + 3]? = some (.int .i64 0)
 | n + 1, 0, _ => ⟨rfl, rfl, rfl, rfl⟩
 | n + 1, i + 1, h => by
   have e : ∀ j, (zseats (n + 1))[(i + 1) * 4 + j]? = (zseats n)[i * 4 + j]? := fun j => by
     show ([Value.pointer none, .int .i64 0, .int .i64 0, .int .i64 0] ++ zseats n)[(i + 1) * 4 + j]? = _
     rw [List.getElem?_append_right (by simp; omega)]
     congr 1
     simp
     omega
   have h1 := zseats_at n i (by omega)
   exact ⟨(e 0).trans h1.1, (e 1).trans h1.2.1, (e 2).trans h1.2.2.1, (e 3).trans h1.2.2.2⟩
set_option maxRecDepth 100000 in
theorem make_seats (n : Nat) (h1 : 1 ≤ n) (h4 : n ≤ 4) (w : World) : (Instr.makeSlice 73 (.int .i64 n) (.int .i64 n)).run Tryz.prog w = .ok (.slice (some ⟨w.heap.size, 0, none⟩) n n) (w.alloc (.cells (zseats n).toArray 84)) := by
 obtain rfl | rfl | rfl | rfl : n = 1 ∨ n = 2 ∨ n = 3 ∨ n = 4 := by omega
 all_goals kernel_rfl
def Low (N : Nat) (w : World) (A : Wa) (s : Wd) : Prop := ∀ k, wfoot w A s k → N ≤ k
theorem Low.step {N : Nat} {w w' : World} {A A' : Wa} {s s' : Wd} (h : Low N w A s) (hf : Fz A s w A' s' w') (hN : N ≤ w.heap.size) : Low N w' A' s' := fun k hk => by
 by_cases hl : k < w.heap.size
 · exact h k (hf.grows k hl hk)
 · omega
theorem Fz.below {N : Nat} {w w' : World} {A A' : Wa} {s s' : Wd} (hf : Fz A s w A' s' w') (h : Low N w A s) (hQ : A.Q < w.heap.size) : Below N w w' :=
 ⟨hf.os, hf.tape, hf.output, hf.size, fun k hk => hf.blk k (by have := h A.Q (.Q rfl); omega) (fun q => by have := h k q; omega) (fun q => by have := h A.Q (.Q rfl); omega)⟩
theorem Nb.low {w wr : World} {Q G n : Nat} {tob tv td : Int} {c m : Nat → Nat} (h : Nb w wr Q G n n tob tv td c m) (hG : w.heap.size ≤ G) (hQ : w.heap.size ≤ Q) (a : Ad) : Low w.heap.size wr ⟨Q, G, c, m, a⟩ (Wd.bare tob tv td n) := fun k hk => by
 rcases hk with q | q | ⟨v, q1, q2⟩ | ⟨i, hi, q⟩ | ⟨i, hi, q⟩ | ⟨q, _⟩
 · rw [q]; exact hQ
 · rw [q]; exact hG
 · rw [h.cell 12410, wcells_other _ _ _ _ _ _ (by omega) (by omega), wz_end 7] at q1
   have e : v = .slice none 0 0 := (Option.some.inj q1).symm
   rw [e] at q2
   cases q2
 · have := h.lo i hi; rw [q]; show w.heap.size ≤ c i; omega
 · have := h.lo i hi; rw [q]; show w.heap.size ≤ m i; omega
 · cases q
theorem fill_two (z : Array Value) (hz : z.size = 12412) (tob tv td : Int) (G n : Nat) : Instr.fill (fun x => ([(0, 3), (3, 12402), (12405, 2), (12407, 1), (12408, 1), (12409, 1), (12410, 1), (12411, 1)] : List (Nat × Nat)).toArray[x]?) z [(0, .agg #[.int .i64 tob, .int .i64 tv, .int .i64 td]), (5, .slice (some ⟨G, 0, none⟩) n n)] = some (wcells z tob tv td G n) := by
 simp [Instr.fill, Value.cells, hz, wcells]
set_option maxRecDepth 100000 in
theorem built_world (tob tv td : Int) (G n : Nat) : Tryz.prog.built 75 [(0, .agg #[.int .i64 tob, .int .i64 tv, .int .i64 td]), (5, .slice (some ⟨G, 0, none⟩) n n)] = some (wcells Tryz.zeroCells75 tob tv td G n) := by
 have hi : (Tryz.prog.info? 75).map (·.zero) = some (some (.agg Tryz.zeroCells75)) := by kernel_rfl
 obtain ⟨it, h1, h2⟩ := Option.map_eq_some_iff.1 hi
 unfold Program.built
 rw [h1, Tryz.underlying75]
 dsimp only
 rw [h2]
 generalize hg : List.mapM (m := Option) (β := Nat × Nat) _ _ = r
 have hr : r = some [(0, 3), (3, 12402), (12405, 2), (12407, 1), (12408, 1), (12409, 1), (12410, 1), (12411, 1)] := by rw [← hg]; kernel_rfl
 rw [hr]
 exact fill_two _ wz_size tob tv td G n
theorem wp_buildIs {o : Oper} {a : Act} {w : World} {K : Act → World → Prop} {Q : Exit → Act → World → Prop} (t : TypeId) (parts : Array (Nat × Operand)) (ho : o.op = .build t parts) (cells : Array Value) (hf : Tryz.prog.built t (parts.map fun (i, x) => (i, a.eval x)).toList = some cells) (h : K (a.put o.dst (.agg cells)) w) : o.wp Tryz.prog a w K Q :=
 wp_build t parts ho (by rw [hf]; rfl) (by rw [hf]; exact h)
set_option maxHeartbeats 4000000 in
set_option maxRecDepth 100000 in
theorem newW_any (tob tv td : Int) (n : Nat) (w : World) (n1 : 1 ≤ n) (n4 : n ≤ 4) (h1 : 1 ≤ tv) (h2 : tv ≤ tob) (h3 : tob ≤ 274877906944) (h4 : 0 ≤ td) (h5 : td ≤ 500) :
   Calls Tryz.prog 15 #[.agg #[.int .i64 tob, .int .i64 tv, .int .i64 td], .int .i64 n] w fun e w' => ∃ A, e = .returned (.tuple #[tp A.Q, .nilIface]) ∧ WdIs w' A (Wd.bare tob tv td n).start ∧ Below w.heap.size w w' ∧ Low w.heap.size w' A (Wd.bare tob tv td n).start := by
 go_enter Tryz.func15, Tryz.ntmps15
 go_upto_region 1 with fail
 generalize hW : w.alloc (.cells #[.int .i64 tob, .int .i64 tv, .int .i64 td] 32) = w1
 have hb1 : Below w.heap.size w w1 := by rw [← hW]; exact (Below.refl _ _).alloc (Nat.le_refl _) _
 have hs1 : w1.heap.size = w.heap.size + 1 := by rw [← hW]; simp
 have t0 : w1.cell? ⟨w.heap.size, 0, none⟩ = some (.int .i64 tob) := by rw [← hW]; exact cell_of_row _ _ _ _ _ _ (heap_alloc_new w _)
 have t1 : w1.cell? ⟨w.heap.size, 1, none⟩ = some (.int .i64 tv) := by rw [← hW]; exact cell_of_row _ _ _ _ _ _ (heap_alloc_new w _)
 have t2 : w1.cell? ⟨w.heap.size, 2, none⟩ = some (.int .i64 td) := by rw [← hW]; exact cell_of_row _ _ _ _ _ _ (heap_alloc_new w _)
 clear hW
 have hmay := mayW_any tob tv td w1 h1 h2 h3 h4 h5
 have g1 : ¬ (n : Int) < 1 := by omega
 have g4 : ¬ (4 : Int) < (n : Int) := by omega
 go_wp2_with fail
 refine hmay.mono ?_
 rintro e w2 ⟨rfl, hb2, hs2⟩
 have s0 := (hb2.cell (p := ⟨w.heap.size, 0, none⟩) (by dsimp only; omega)).trans t0
 have s1 := (hb2.cell (p := ⟨w.heap.size, 1, none⟩) (by dsimp only; omega)).trans t1
 have s2 := (hb2.cell (p := ⟨w.heap.size, 2, none⟩) (by dsimp only; omega)).trans t2
 have HS : Hid (w2.heap.size = w.heap.size + 2) := (by omega : w2.heap.size = w.heap.size + 2)
 have hbw2 : Below w.heap.size w w2 := hb1.trans (hb2.mono (by omega))
 clear hmay t0 t1 t2 hs1 hs2 hb1 hb2
 go_upto_region 3 with fail
 refine Gen.start (S := fun w' => w'.cell? ⟨w.heap.size, 0, none⟩ = some (.int .i64 tob) ∧ w'.cell? ⟨w.heap.size, 1, none⟩ = some (.int .i64 tv) ∧ w'.cell? ⟨w.heap.size, 2, none⟩ = some (.int .i64 td)) (by kernel_rfl) ⟨s0, s1, s2⟩ (fun hHeld => ?_)
 refine Gen.tk 0 3 ?_ rfl rfl (Or.inl ⟨by rfl, ?_⟩) hHeld ?_
 rotate_left
 · intro w' hSw
   obtain ⟨s0, s1, s2⟩ := hSw
   go_simp
   try with_reducible rfl
 go_frame
 refine Gen.tk 1 2 ?_ rfl rfl (Or.inl ⟨by rfl, ?_⟩) hHeld ?_
 rotate_left
 · intro w' hSw
   go_simp
   try with_reducible rfl
 go_frame
 refine Gen.one (i := 2) (by kernel_rfl) rfl rfl (fun K hK => ?_)
 have hmk := make_seats n n1 n4 w2.drew
 go_simp
 have hS2 := HS.out
 have cs : ∀ i, i < 3 → ∀ u, w2.cell? ⟨w.heap.size, i, none⟩ = some u → (w2.alloc (.cells (zseats n).toArray 84)).drew.cell? ⟨w.heap.size, i, none⟩ = some u := fun i _ u hu => (World.cell?_alloc_lt w2 _ ⟨w.heap.size, i, none⟩ (by dsimp only; omega)).trans hu
 clear hS2
 refine hK.out _ _ ⟨cs 0 (by omega) _ s0, cs 1 (by omega) _ s1, cs 2 (by omega) _ s2⟩ (fun hHeld => ?_)
 clear hK K cs
 try go_frame
 refine Gen.one (i := 3) (by kernel_rfl) rfl rfl (fun K hK => ?_)
 refine wp_buildIs 75 #[(0, .tmp 20), (5, .tmp 22)] rfl (wcells Tryz.zeroCells75 tob tv td w2.heap.size n) ?_ ?_
 · have hbw := built_world tob tv td w2.heap.size n
   simpa [Act.eval] using hbw
 refine hK.out _ _ hHeld (fun hHeld => ?_)
 clear hK K
 try go_frame
 refine Gen.one (i := 4) (by kernel_rfl) rfl rfl (fun K hK => ?_)
 obtain ⟨zc, hzc⟩ : ∃ zc, wcells Tryz.zeroCells75 tob tv td w2.heap.size n = zc := ⟨_, rfl⟩
 have HZ : Hid (wcells Tryz.zeroCells75 tob tv td w2.heap.size n = zc) := hzc
 rw [hzc]
 clear hzc
 go_simp
 obtain ⟨G, hG⟩ : ∃ G, w2.heap.size = G := ⟨_, rfl⟩
 rw [hG] at HZ HS
 rw [hG]
 have hS2 := HS.out
 have HN : Hid (Nb w ((w2.alloc (.cells (zseats n).toArray 84)).alloc (.cells zc 75)).drew (G + 1) G n 0 tob tv td (fun _ => 0) (fun _ => 0)) := by
   have bl : Below w.heap.size w ((w2.alloc (.cells (zseats n).toArray 84)).alloc (.cells zc 75)).drew := ((hbw2.alloc (by omega) _).alloc (by simp; omega) _).drew
   have eG : ((w2.alloc (.cells (zseats n).toArray 84)).alloc (.cells zc 75)).drew.heap[G]? = some (.cells (zseats n).toArray 84) := by
     have hbb := (Below.refl (w2.alloc (.cells (zseats n).toArray 84)).heap.size (w2.alloc (.cells (zseats n).toArray 84))).alloc (Nat.le_refl _) (.cells zc 75)
     have e1 := hbb.block w2.heap.size (by simp)
     rw [heap_alloc_new] at e1
     rw [← hG]
     exact e1
   have eQ : ((w2.alloc (.cells (zseats n).toArray 84)).alloc (.cells zc 75)).drew.heap[G + 1]? = some (.cells zc 75) := by
     have e1 := heap_alloc_new (w2.alloc (.cells (zseats n).toArray 84)) (.cells zc 75)
     rw [show (w2.alloc (.cells (zseats n).toArray 84)).heap.size = G + 1 by rw [← hG]; simp] at e1
     exact e1
   have cG : ∀ i, ((w2.alloc (.cells (zseats n).toArray 84)).alloc (.cells zc 75)).drew.cell? ⟨G, i, none⟩ = (zseats n)[i]? := fun i => by
     rw [cell_of_row _ _ _ _ _ _ eG, List.getElem?_toArray]
   refine ⟨bl, by rw [HZ.out]; exact eQ, ⟨_, _, eG⟩, fun i => by simp [World.frozen?, eG], fun i hi => by omega, fun i _ hi => ?_, fun i hi => by omega, fun i hi => by omega, fun i j hi => by omega⟩
   have hz := zseats_at n i hi
   exact ⟨(cG _).trans hz.1, (cG _).trans hz.2.1, (cG _).trans hz.2.2.1, (cG _).trans hz.2.2.2⟩
 have HT : Hid (((w2.alloc (.cells (zseats n).toArray 84)).alloc (.cells zc 75)).drew.cell? ⟨w.heap.size, 0, none⟩ = some (.int .i64 tob) ∧ ((w2.alloc (.cells (zseats n).toArray 84)).alloc (.cells zc 75)).drew.cell? ⟨w.heap.size, 1, none⟩ = some (.int .i64 tv) ∧ ((w2.alloc (.cells (zseats n).toArray 84)).alloc (.cells zc 75)).drew.cell? ⟨w.heap.size, 2, none⟩ = some (.int .i64 td)) := by
   have hb4 : Below w2.heap.size w2 ((w2.alloc (.cells (zseats n).toArray 84)).alloc (.cells zc 75)).drew := (((Below.refl w2.heap.size w2).alloc (Nat.le_refl _) _).alloc (by simp) _).drew
   exact ⟨(hb4.cell (p := ⟨w.heap.size, 0, none⟩) (by dsimp only; omega)).trans s0, (hb4.cell (p := ⟨w.heap.size, 1, none⟩) (by dsimp only; omega)).trans s1, (hb4.cell (p := ⟨w.heap.size, 2, none⟩) (by dsimp only; omega)).trans s2⟩
 generalize ((w2.alloc (.cells (zseats n).toArray 84)).alloc (.cells zc 75)).drew = w3 at *
 clear hG hS2 hbw2 s0 s1 s2 HZ hmk
 refine hK.out _ _ HT.out (fun hHeld => ?_)
 clear hK K HT
 try go_frame
 refine Gen.last (i := 5) (by kernel_rfl) rfl rfl (by kernel_rfl) (by kernel_rfl) (fun K hK => ?_)
 go_simp
 refine hK.out _ _ ?_
 clear hK K hHeld
 have sts : w3.cell? ⟨G + 1, 12409, none⟩ = some (.slice (some ⟨G, 0, none⟩) n n) := (HN.out.cell 12409).trans (wcells_s ..)
 go_wp2_with fail
 go_loopw [30] (fun i wr => ∃ (k : Nat) (c m : Nat → Nat), k ≤ n ∧ i = .int .i64 k ∧ Nb w wr (G + 1) G n k tob tv td c m) (fun i _ => n - (intOf i).toNat)
 case atStart => exact ⟨0, _, _, by omega, rfl, HN.out⟩
 case round =>
   obtain ⟨k, c, m, hk, rfl, N⟩ := hrel
   by_cases hlt : k < n
   · have r := N.rest k (by omega) hlt
     have hS2 := HS.out
     have hen := enter_low (G + 1) G n k tob tv td 0 wr ((N.cell 12409).trans (wcells_s ..)) ((N.cell 0).trans (wcells_0 ..)) ((N.cell 1).trans (wcells_1 ..)) ((N.cell 2).trans (wcells_2 ..)) hlt n4 _ _ _ r.1 r.2.2.1 r.2.2.2 N.gf (by omega) (by omega) (by omega) (by omega) h4 h5 (by omega) (by omega)
     rw [show (0 : Int) * 4 + (k : Int) = k by omega] at hen
     have hkI : (k : Int) < (n : Int) := by omega
     have hkI0 : (0 : Int) ≤ (k : Int) := by omega
     have HX : Hid (∀ w2 x q, Below wr.heap.size wr w2 → CliIs w2 x q (K.new k (short td tob) (short td tv)) → wr.heap.size ≤ x → wr.heap.size ≤ q → ∃ c m, Nb w (seated w2 G k x 0) (G + 1) G n (k + 1) tob tv td c m) := fun w2 x q a1 a2 a3 a4 => ⟨_, _, N.more hlt (by omega) (by omega) a1 a2 a3 a4⟩
     clear N r HN sts hS2
     go_wp2_with fail
     refine hen.mono ?_
     rintro e w7 ⟨rfl, x, q, w6, a1, a2, a3, a4, hw7⟩
     have HN7 : Hid (∃ c m, Nb w w7 (G + 1) G n (k + 1) tob tv td c m) := by rw [hw7]; exact HX.out w6 x q a1 a2 a3 a4
     clear HX hen a1 a2 hw7
     go_wp2_with fail
     go_roundw
     case rel =>
       obtain ⟨c', m', hN7⟩ := HN7.out
       exact ⟨k + 1, c', m', by omega, by go_num, hN7⟩
     case measure => simp [intOf]; omega
   · obtain rfl : k = n := by omega
     have hS2 := HS.out
     have hD := N.done n1 n4 ⟨0, 0, 0, 0, 0⟩
     have hL := N.low (by omega) (by omega) ⟨0, 0, 0, 0, 0⟩
     have hst := start_any ⟨G + 1, G, c, m, ⟨0, 0, 0, 0, 0⟩⟩ (Wd.bare tob tv td k) 0 wr hD rfl (WdB.bare h1 h2 h3 h4 h5) (by simp [Wd.bare]) (fun r hr => by simp [Wd.bare] at hr)
     have HX : Hid (∀ (a : Ad) w', WdIs w' ⟨G + 1, G, c, m, a⟩ (Wd.bare tob tv td k).start → Fz ⟨G + 1, G, c, m, ⟨0, 0, 0, 0, 0⟩⟩ (Wd.bare tob tv td k) wr ⟨G + 1, G, c, m, a⟩ (Wd.bare tob tv td k).start w' → Below w.heap.size w w' ∧ Low w.heap.size w' ⟨G + 1, G, c, m, a⟩ (Wd.bare tob tv td k).start) := fun a w' _ b2 => ⟨N.bl.trans (b2.below hL hD.lt), hL.step b2 N.bl.size⟩
     clear N HN sts hS2 hD hL
     go_wp2_with fail
     refine hst.mono ?_
     rintro e w7 ⟨rfl, a, d1, d2⟩
     have HF := HX.out a w7 d1 d2
     clear HX hst d2
     go_wp2_with fail
     exact bodyPost_ret (v := .tuple #[tp (G + 1), .nilIface]) (by simp [results, Tryz.results15, go_sem]) rfl ⟨⟨G + 1, G, c, m, a⟩, rfl, d1, HF.1, HF.2⟩
end Wld
end
section
namespace Wld
open Go.RowKit Go.Maps
open Lease (Ob I64 upd TabIs hol dels objB HasI map_block map_ne mx)
open Cache (tp row_kept row_below)
open Num (M okB strOf ints)
open Clock (pick_any)
open Wal (R WalIs DiskIs Oq Fw rcells)
open Net (NetIs Only pcells)
structure TaleIs (w : World) (T : Nat) (A : Wa) (s : Wd) (wr : Int) (lies : Bool) : Prop where
 typ : isC w T 34
 fro : ∀ i, w.frozen? ⟨T, i, none⟩ = false
 c0 : w.cell? ⟨T, 0, none⟩ = some (tp A.Q)
 c1 : w.cell? ⟨T, 1, none⟩ = some (.int .i64 s.to)
 c2 : w.cell? ⟨T, 2, none⟩ = some (.int .i64 s.tv)
 c3 : w.cell? ⟨T, 3, none⟩ = some (.int .i64 s.td)
 c4 : w.cell? ⟨T, 4, none⟩ = some (.int .i64 s.n)
 c5 : w.cell? ⟨T, 5, none⟩ = some (.int .i64 wr)
 c6 : w.cell? ⟨T, 6, none⟩ = some (.bool lies)
 wd : WdIs w A s
theorem WdIs.apart {w w' : World} {A : Wa} {s : Wd} (h : WdIs w A s) {T : Nat} (hT : isC w T 34) (hs : w.heap.size ≤ w'.heap.size) (o : ∀ y, y ≠ T → w'.heap[y]? = w.heap[y]?) : WdIs w' A s ∧ ∀ k, wfoot w' A s k → wfoot w A s k := by
 have hQ := o A.Q (h.core.typ.ne hT (by decide))
 have eQ : ∀ i, w'.cell? ⟨A.Q, i, none⟩ = w.cell? ⟨A.Q, i, none⟩ := fun i => World.cell?_of_block hQ
 have fQ : ∀ i, w'.frozen? ⟨A.Q, i, none⟩ = w.frozen? ⟨A.Q, i, none⟩ := fun i => World.frozen?_of_block hQ
 have hG := o A.G (h.gt.ne hT (by decide))
 have hN : NetIs w' (A.Q + 1) A.Q (s.net.map encN) := NetIs.kept h.net hs (eQ _) (eQ _) fQ fun v g hv hg => by
   obtain ⟨v', hv', hr⟩ := h.net.row
   rw [hv] at hv'
   injection hv' with hv'
   subst hv'
   exact o g ((row_isC hr hg).2.ne hT (by decide))
 have hD : DiskIs w' A.Q s.rs s.fails s.left := DiskIs.cells h.disk (fun i _ _ => eQ i) fQ
 have hfoot : ∀ v, s.sv = some v → ∀ y, foot w A.a y → y ≠ A.a.q → w'.heap[y]? = w.heap[y]? := fun v hv y hy hyq => o y fun e => by
   have u := h.up v hv
   rw [e] at hy hyq
   exact u.sv.notFoot hT hyq (by decide) hy
 refine ⟨⟨h.core.cells (h.core.typ.same hQ) (fun i _ _ => eQ i) fQ, hD, hN, h.evs.imp fun v hv => ⟨(eQ _).trans hv.1, row_kept hv.2 fun g hg => o g ((row_isC hv.2 hg).2.ne hT (by decide))⟩, h.gt.same hG, fun i => (World.frozen?_of_block (a := ⟨A.G, i, none⟩) hG).trans (h.gf i), fun i hi => (h.seats i hi).same hG, fun i hi => (h.cli i hi).blocks (o _ ((h.cli i hi).isC.ne hT (by decide))) (o _ ((h.cli i hi).isM.ne hT)), h.ap, fun v hv => ?_, h.n1, h.n4⟩, fun k f => ?_⟩
 · have u := h.up v hv
   exact ⟨u.sv.feet hs (by rw [u.q, u.rs, u.fails, u.left]; exact hD) (hfoot v hv), u.q, u.rs, u.fails, u.left, u.ne, u.to, u.tv⟩
 · rcases f with f | f | ⟨v, f1, f2⟩ | ⟨i, hi, f⟩ | ⟨i, hi, f⟩ | ⟨f1, f2⟩
   · exact .Q f
   · exact .G f
   · exact .ev v ((eQ _).symm.trans f1) f2
   · exact .c i hi f
   · exact .m i hi f
   · obtain ⟨v, hv⟩ := Option.isSome_iff_exists.1 f1
     have u := h.up v hv
     have hl := u.sv.lts
     exact .sv f1 ((foot_kept (hfoot v hv _ (.inr (.inr (.inr (.inl rfl)))) (by omega)) (hfoot v hv _ (.inr (.inr (.inl rfl))) (by omega)) k).1 f2)
set_option maxHeartbeats 1000000 in
set_option maxRecDepth 100000 in
theorem terms_any (o v d : Int) (w : World) :
   Calls Tryz.prog 20 #[.int .i64 o, .int .i64 v, .int .i64 d] w fun e w' => ∃ tob tv td : Int, 1 ≤ tv ∧ tv ≤ 15 ∧ tv ≤ tob ∧ tob ≤ 39 ∧ 0 ≤ td ∧ td ≤ 500 ∧ e = .returned (.agg #[.int .i64 tob, .int .i64 tv, .int .i64 td]) ∧ Below w.heap.size w w' := by
 go_enter Tryz.func20, Tryz.ntmps20
 go_wp2_with fail
 refine (pick_any v 15 _ (by omega) (by omega)).mono ?_
 rintro e w2 ⟨r1, a1, a2, rfl, rfl⟩
 have hw1 : IntKind.i64.wrap (1 + r1) = 1 + r1 := wrapI (by omega) (by omega)
 go_wp2_with fail
 refine (pick_any o 25 _ (by omega) (by omega)).mono ?_
 rintro e w2 ⟨r2, b1, b2, rfl, rfl⟩
 have hw2 : IntKind.i64.wrap (1 + r1 + r2) = 1 + r1 + r2 := wrapI (by omega) (by omega)
 go_wp2_with fail
 refine (pick_any d 501 _ (by omega) (by omega)).mono ?_
 rintro e w2 ⟨r3, c1, c2, rfl, rfl⟩
 go_wp2_with fail
 refine bodyPost_ret (v := .agg #[.int .i64 (1 + r1 + r2), .int .i64 (1 + r1), .int .i64 r3]) (by simp [results, Tryz.results20, go_sem]) rfl ⟨1 + r1 + r2, 1 + r1, r3, by omega, by omega, by omega, by omega, c1, by omega, rfl, (Below.refl _ _).alloc (Nat.le_refl _) _⟩
set_option maxHeartbeats 2000000 in
set_option maxRecDepth 100000 in
theorem tells_any (o v d c : Int) (lies : Bool) (w : World) :
   Calls Tryz.prog 7 #[.int .i64 o, .int .i64 v, .int .i64 d, .int .i64 c, .bool lies] w fun e w' => ∃ T A tob tv td, ∃ n : Nat, 1 ≤ tv ∧ tv ≤ 15 ∧ tv ≤ tob ∧ tob ≤ 39 ∧ 0 ≤ td ∧ td ≤ 500 ∧ 1 ≤ n ∧ n ≤ 4 ∧ e = .returned (tp T) ∧ TaleIs w' T A (Wd.bare tob tv td n).start 0 lies ∧ w.heap.size ≤ T ∧ Below w.heap.size w w' ∧ Low w.heap.size w' A (Wd.bare tob tv td n).start := by
 go_enter Tryz.func7, Tryz.ntmps7
 go_wp2_with fail
 refine (terms_any o v d _).mono ?_
 rintro e w1 ⟨tob, tv, td, a1, a2, a3, a4, a5, a6, rfl, hb1⟩
 go_wp2_with fail
 refine (pick_any c 4 _ (by omega) (by omega)).mono ?_
 rintro e w2 ⟨r, b1, b2, rfl, rfl⟩
 obtain ⟨n, hn⟩ : ∃ n : Nat, 1 + r = (n : Int) := ⟨(1 + r).toNat, by omega⟩
 have hw1 : IntKind.i64.wrap (1 + r) = (n : Int) := (wrapI (by omega) (by omega)).trans hn
 have n1 : 1 ≤ n := by omega
 have n4 : n ≤ 4 := by omega
 clear hn b1 b2
 go_upto_region 2 with fail
 obtain ⟨T, hT⟩ : ∃ T, w2.heap.size = T := ⟨_, rfl⟩
 have hT0 : w.heap.size ≤ T := by have := hb1.size; omega
 generalize hW : w2.alloc (.cells #[.pointer none, .int .i64 tob, .int .i64 tv, .int .i64 td, .int .i64 n, .int .i64 0, .bool lies] 34) = w3
 have eT : w3.heap[T]? = some (.cells #[.pointer none, .int .i64 tob, .int .i64 tv, .int .i64 td, .int .i64 n, .int .i64 0, .bool lies] 34) := by rw [← hW, ← hT]; exact heap_alloc_new w2 _
 have hb3 : Below w.heap.size w w3 := by rw [← hW]; exact hb1.alloc (by have := hb1.size; omega) _
 have hlt : T < w3.heap.size := (Array.getElem?_eq_some_iff.1 eT).1
 rw [hT]
 clear hW hT hb1
 have t1 : w3.cell? ⟨T, 1, none⟩ = some (.int .i64 tob) := cell_of_row _ _ _ _ _ _ eT
 have t2 : w3.cell? ⟨T, 2, none⟩ = some (.int .i64 tv) := cell_of_row _ _ _ _ _ _ eT
 have t3 : w3.cell? ⟨T, 3, none⟩ = some (.int .i64 td) := cell_of_row _ _ _ _ _ _ eT
 have t4 : w3.cell? ⟨T, 4, none⟩ = some (.int .i64 n) := cell_of_row _ _ _ _ _ _ eT
 have hnew := newW_any tob tv td n w3.drew n1 n4 a1 a3 (by omega) a5 a6
 have hdr : w3.drew.heap.size = w3.heap.size := rfl
 have hS : ∀ w', Below w3.drew.heap.size w3.drew w' → w'.cell? ⟨T, 1, none⟩ = some (.int .i64 tob) ∧ w'.cell? ⟨T, 2, none⟩ = some (.int .i64 tv) ∧ w'.cell? ⟨T, 3, none⟩ = some (.int .i64 td) ∧ w'.cell? ⟨T, 4, none⟩ = some (.int .i64 n) := fun w' hb => ⟨(hb.cell (p := ⟨T, 1, none⟩) hlt).trans t1, (hb.cell (p := ⟨T, 2, none⟩) hlt).trans t2, (hb.cell (p := ⟨T, 3, none⟩) hlt).trans t3, (hb.cell (p := ⟨T, 4, none⟩) hlt).trans t4⟩
 have HE : Hid (w3.heap[T]? = some (.cells #[.pointer none, .int .i64 tob, .int .i64 tv, .int .i64 td, .int .i64 n, .int .i64 0, .bool lies] 34)) := eT
 clear eT
 go_region_held3 (fun w' => w'.cell? ⟨T, 1, none⟩ = some (.int .i64 tob) ∧ w'.cell? ⟨T, 2, none⟩ = some (.int .i64 tv) ∧ w'.cell? ⟨T, 3, none⟩ = some (.int .i64 td) ∧ w'.cell? ⟨T, 4, none⟩ = some (.int .i64 n)) (first | exact hS _ (by assumption) | exact hS _ (Below.refl _ _)) (first | (go_at_call 15; refine hnew.mono ?_; rintro e w4 ⟨A, rfl, hD, hb4, hL⟩))
 have eT := (hb4.block T hlt).trans HE.out
 have hsz := hb4.size
 have HF : Hid (TaleIs (w4.setCell ⟨T, 0, none⟩ (tp A.Q)) T A (Wd.bare tob tv td n).start 0 lies ∧ Below w.heap.size w (w4.setCell ⟨T, 0, none⟩ (tp A.Q)) ∧ Low w.heap.size (w4.setCell ⟨T, 0, none⟩ (tp A.Q)) A (Wd.bare tob tv td n).start) := by
   have hTc : isC w4 T 34 := ⟨_, _, eT⟩
   have o : ∀ y, y ≠ T → (w4.setCell ⟨T, 0, none⟩ (tp A.Q)).heap[y]? = w4.heap[y]? := fun y hy => Below.heap_setCell w4 ⟨T, 0, none⟩ _ y hy
   obtain ⟨k1, k2⟩ := hD.apart hTc (by simp) o
   have c : ∀ i, w4.cell? ⟨T, i, none⟩ = #[Value.pointer none, .int .i64 tob, .int .i64 tv, .int .i64 td, .int .i64 n, .int .i64 0, .bool lies][i]? := fun i => cell_of_row _ _ _ _ _ _ eT
   have e : ∀ i, i ≠ 0 → (w4.setCell ⟨T, 0, none⟩ (tp A.Q)).cell? ⟨T, i, none⟩ = w4.cell? ⟨T, i, none⟩ := fun i hi => World.cell?_setCell_other _ _ _ _ (by intro q; injection q with _ q; exact hi q.symm)
   have f0 : ∀ i, w4.frozen? ⟨T, i, none⟩ = false := fun i => by simp [World.frozen?, eT]
   have hb34 : Below w.heap.size w3 w4 := ⟨hb4.os, hb4.tape, hb4.output, hb4.size, fun k hk => hb4.block k (by show k < w3.heap.size; omega)⟩
   refine ⟨⟨Wal.typ_setCell hTc, fun i => by rw [World.frozen?_setCell]; exact f0 i, World.cell?_setCell_same _ _ _ (c 0), (e 1 (by omega)).trans (c 1), (e 2 (by omega)).trans (c 2), (e 3 (by omega)).trans (c 3), (e 4 (by omega)).trans (c 4), (e 5 (by omega)).trans (c 5), (e 6 (by omega)).trans (c 6), k1⟩, Below.setCell (hb3.trans hb34) (show w.heap.size ≤ (⟨T, 0, none⟩ : Addr).block from hT0) _, fun k hk => ?_⟩
   have := hL k (k2 k hk)
   have hs3 := hb3.size
   show w.heap.size ≤ k
   have h5 : w3.drew.heap.size = w3.heap.size := rfl
   omega
 have f0 : w4.frozen? ⟨T, 0, none⟩ = false := by simp [World.frozen?, eT]
 have z0 : w4.cell? ⟨T, 0, none⟩ = some (.pointer none) := cell_of_row _ _ _ _ _ _ eT
 clear hS HE eT hb4 hD hL hnew t1 t2 t3 t4 hsz hlt
 go_wp2_with fail
 go_ret
 exact ⟨T, A, tob, tv, td, n, a1, a2, a3, a4, a5, a6, n1, n4, rfl, HF.out.1, hT0, HF.out.2⟩
end Wld
end
end Go.Proofs.YtbebfliimjjohaaGreatDoor
