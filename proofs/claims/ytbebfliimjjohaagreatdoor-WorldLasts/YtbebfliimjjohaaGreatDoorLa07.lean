/-
  Parts of the proof: CliJ WalMay WalMath.
-/
import Derived.Test.YtbebfliimjjohaaGreatDoorLa06
import Derived.Laws.StructEq
import Derived.Test.YtbebfliimjjohaaGreatDoorLa03
section
namespace Go.Proofs.YtbebfliimjjohaaGreatDoor.Wld
open Go.RowKit Go.Maps
open Lease (Ob I64 upd upd_same upd_other mx map_block map_ne keyedI keyI I64.wf own_int own_num mx_i64)
open Cache (CacheIs E tp kp acells putL era)
open Num (M)
def K.hear (k : K) (m : M) : K × List M :=
  if m.k = 9 then (k.forget m, [k.ackM m])
  else if m.c ≠ k.id then (k, [])
  else if m.k = 7 ∧ m.n = k.renewal then (k.granted m.e m.s, [])
  else if m.k = 8 ∧ m.n = k.renewal then (k.flush m.e m.s, [])
  else if m.k = 5 ∧ k.waits 1 m.n = true then (k.read m, [])
  else if m.k = 6 ∧ k.waits 2 m.n = true then (k.overWith k.d m.v, [])
  else (k, [])

structure KOk (k : K) : Prop where
  cob0 : 0 ≤ k.cob
  cob7 : k.cob ≤ 7
  n : k.n < 1000000000000
  num0 : 0 ≤ k.num
  num : k.num ≤ 1000000000000
  ren0 : 0 ≤ k.renewal
  ren : k.renewal ≤ 1000000000000
  obj0 : 0 ≤ k.obj
  obj : k.obj ≤ 1099511627776
  vol0 : 0 ≤ k.vol
  vol : k.vol ≤ 1099511627776
  sent0 : 0 ≤ k.sent
  sent : k.sent ≤ 1099511627776
  ask0 : 0 ≤ k.asked
  ask : k.asked ≤ 1099511627776

abbrev mbox (w : World) (mk mc mn me ms mo mv : Int) (ml : Bool) (md : ByteArray) : World := w.alloc (.cells #[.int .i64 mk, .int .i64 mc, .int .i64 mn, .int .i64 me, .int .i64 ms, .int .i64 mo, .int .i64 mv, .bool ml, .string md] 96)

theorem mbox_is (w : World) (mk mc mn me ms mo mv : Int) (ml : Bool) (md : ByteArray) : MB (mbox w mk mc mn me ms mo mv ml md) w.heap.size ⟨mk, mc, mn, me, ms, mo, mv, ml, md⟩ := by
  refine ⟨?_, ?_, ?_, ?_, ?_, ?_, ?_, ?_, ?_⟩ <;> (rw [cell_of_row _ _ _ _ _ _ (heap_alloc_new w _)]; rfl)

set_option maxHeartbeats 4000000 in
set_option maxRecDepth 100000 in
theorem hear_inval (c q : Nat) (k : K) (mc mn : Int) (me ms mo mv : Int) (ml : Bool) (md : ByteArray) (w : World) (h : CliIs w c q k) (_hK : KOk k) (_hv : I64 mv) :
    Calls Tryz.prog 75 #[tp c, Wire.M.agg ⟨9, mc, mn, me, ms, mo, mv, ml, md⟩] w fun e w' => ∃ v, e = .returned v ∧ HasM w' w.heap.size v [k.ackM ⟨9, mc, mn, me, ms, mo, mv, ml, md⟩] ∧ CliIs w' c q (k.forget ⟨9, mc, mn, me, ms, mo, mv, ml, md⟩) ∧ Ob [c, q] w w' := by
  have hlt := h.lt
  have hB : MB (mbox w 9 mc mn me ms mo mv ml md) w.heap.size ⟨9, mc, mn, me, ms, mo, mv, ml, md⟩ := mbox_is w _ _ _ _ _ _ _ _ _
  have F : CliIs (mbox w 9 mc mn me ms mo mv ml md) c q k := h.alloc _
  have hO : Ob [c, q] w (mbox w 9 mc mn me ms mo mv ml md) := (Ob.refl _ _).alloc _
  have hs : (mbox w 9 mc mn me ms mo mv ml md).heap.size = w.heap.size + 1 := by simp
  unfold mbox at *
  unfold Wire.M.agg
  clear h
  go_enter Tryz.func75, Tryz.ntmps75
  go_wp2_with fail
  generalize (w.alloc (.cells #[.int .i64 9, .int .i64 mc, .int .i64 mn, .int .i64 me, .int .i64 ms, .int .i64 mo, .int .i64 mv, .bool ml, .string md] 96)) = w1 at *
  have b0 := hB.c0
  have b1 := hB.c1
  have b2 := hB.c2
  have b3 := hB.c3
  have b4 := hB.c4
  have b5 := hB.c5
  have b6 := hB.c6
  have b7 := hB.c7
  have b8 := hB.c8
  dsimp only at b0 b1 b2 b3 b4 b5 b6 b7 b8
  have d0 := F.c0
  have d6 := F.c6
  have d12 := F.c12
  clear hB
  go_wp2_with fail
  refine (forget_any c q k ⟨9, mc, mn, me, ms, mo, mv, ml, md⟩ w1 F).mono ?_
  rintro x w2 ⟨v, rfl, HM, G, hO2⟩
  go_wp2_with fail
  go_ret
  exact ⟨_, rfl, HM.mono (by omega), G, hO.trans hO2⟩

set_option maxHeartbeats 4000000 in
set_option maxRecDepth 100000 in
theorem hear_other (c q : Nat) (k : K) (mk mc mn : Int) (me ms mo mv : Int) (ml : Bool) (md : ByteArray) (w : World) (h : CliIs w c q k) (_hK : KOk k) (_hv : I64 mv) (hk : ¬ mk = 9) (hc : ¬ mc = k.id) :
    Calls Tryz.prog 75 #[tp c, Wire.M.agg ⟨mk, mc, mn, me, ms, mo, mv, ml, md⟩] w fun e w' => ∃ v, e = .returned v ∧ HasM w' w.heap.size v [] ∧ CliIs w' c q k ∧ Ob [c, q] w w' := by
  have hlt := h.lt
  have hB : MB (mbox w mk mc mn me ms mo mv ml md) w.heap.size ⟨mk, mc, mn, me, ms, mo, mv, ml, md⟩ := mbox_is w _ _ _ _ _ _ _ _ _
  have F : CliIs (mbox w mk mc mn me ms mo mv ml md) c q k := h.alloc _
  have hO : Ob [c, q] w (mbox w mk mc mn me ms mo mv ml md) := (Ob.refl _ _).alloc _
  have hs : (mbox w mk mc mn me ms mo mv ml md).heap.size = w.heap.size + 1 := by simp
  unfold mbox at *
  unfold Wire.M.agg
  clear h
  have g9 : (mk == 9) = false := by simpa using hk
  have gc : (mc == k.id) = false := by simpa using hc
  clear hk hc
  go_enter Tryz.func75, Tryz.ntmps75
  go_wp2_with fail
  generalize (w.alloc (.cells #[.int .i64 mk, .int .i64 mc, .int .i64 mn, .int .i64 me, .int .i64 ms, .int .i64 mo, .int .i64 mv, .bool ml, .string md] 96)) = w1 at *
  have b0 := hB.c0
  have b1 := hB.c1
  have b2 := hB.c2
  have b3 := hB.c3
  have b4 := hB.c4
  have b5 := hB.c5
  have b6 := hB.c6
  have b7 := hB.c7
  have b8 := hB.c8
  dsimp only at b0 b1 b2 b3 b4 b5 b6 b7 b8
  have d0 := F.c0
  have d6 := F.c6
  have d12 := F.c12
  clear hB
  go_wp2_with fail
  go_quiet (fail)
  go_wp2_with fail
  go_ret
  exact ⟨_, rfl, HasM.nil _ _, F.drewN _, hO.drewN _⟩

set_option maxHeartbeats 4000000 in
set_option maxRecDepth 100000 in
theorem hear_granted (c q : Nat) (k : K) (me ms mo mv : Int) (ml : Bool) (md : ByteArray) (w : World) (h : CliIs w c q k) (hK : KOk k) (_hv : I64 mv) :
    Calls Tryz.prog 75 #[tp c, Wire.M.agg ⟨7, k.id, k.renewal, me, ms, mo, mv, ml, md⟩] w fun e w' => ∃ v, e = .returned v ∧ HasM w' w.heap.size v [] ∧ CliIs w' c q (k.granted me ms) ∧ Ob [c, q] w w' := by
  have hlt := h.lt
  have hB : MB (mbox w 7 k.id k.renewal me ms mo mv ml md) w.heap.size ⟨7, k.id, k.renewal, me, ms, mo, mv, ml, md⟩ := mbox_is w _ _ _ _ _ _ _ _ _
  have F : CliIs (mbox w 7 k.id k.renewal me ms mo mv ml md) c q k := h.alloc _
  have hO : Ob [c, q] w (mbox w 7 k.id k.renewal me ms mo mv ml md) := (Ob.refl _ _).alloc _
  have hs : (mbox w 7 k.id k.renewal me ms mo mv ml md).heap.size = w.heap.size + 1 := by simp
  unfold mbox at *
  unfold Wire.M.agg
  clear h
  go_enter Tryz.func75, Tryz.ntmps75
  go_wp2_with fail
  generalize (w.alloc (.cells #[.int .i64 7, .int .i64 k.id, .int .i64 k.renewal, .int .i64 me, .int .i64 ms, .int .i64 mo, .int .i64 mv, .bool ml, .string md] 96)) = w1 at *
  have b0 := hB.c0
  have b1 := hB.c1
  have b2 := hB.c2
  have b3 := hB.c3
  have b4 := hB.c4
  have b5 := hB.c5
  have b6 := hB.c6
  have b7 := hB.c7
  have b8 := hB.c8
  dsimp only at b0 b1 b2 b3 b4 b5 b6 b7 b8
  have d0 := F.c0
  have d6 := F.c6
  have d12 := F.c12
  clear hB
  go_wp2_with fail
  go_quiet (fail)
  go_wp2_with fail
  go_quiet (fail)
  go_wp2_with fail
  refine (granted_any c q k me ms _ (F.drewN _) (by have := hK.ask0; have := hK.vol0; omega) (by have := hK.ask; have := hK.vol; omega)).mono ?_
  rintro x w2 ⟨rfl, G, hO2⟩
  go_wp2_with fail
  go_ret
  exact ⟨_, rfl, HasM.nil _ _, G, (hO.drewN _).trans hO2⟩

set_option maxHeartbeats 4000000 in
set_option maxRecDepth 100000 in
theorem hear_flush (c q : Nat) (k : K) (me ms mo mv : Int) (ml : Bool) (md : ByteArray) (w : World) (h : CliIs w c q k) (_hK : KOk k) (_hv : I64 mv) :
    Calls Tryz.prog 75 #[tp c, Wire.M.agg ⟨8, k.id, k.renewal, me, ms, mo, mv, ml, md⟩] w fun e w' => ∃ v, e = .returned v ∧ HasM w' w.heap.size v [] ∧ CliIs w' c q (k.flush me ms) ∧ Ob [c, q] w w' := by
  have hlt := h.lt
  have hB : MB (mbox w 8 k.id k.renewal me ms mo mv ml md) w.heap.size ⟨8, k.id, k.renewal, me, ms, mo, mv, ml, md⟩ := mbox_is w _ _ _ _ _ _ _ _ _
  have F : CliIs (mbox w 8 k.id k.renewal me ms mo mv ml md) c q k := h.alloc _
  have hO : Ob [c, q] w (mbox w 8 k.id k.renewal me ms mo mv ml md) := (Ob.refl _ _).alloc _
  have hs : (mbox w 8 k.id k.renewal me ms mo mv ml md).heap.size = w.heap.size + 1 := by simp
  unfold mbox at *
  unfold Wire.M.agg
  clear h
  go_enter Tryz.func75, Tryz.ntmps75
  go_wp2_with fail
  generalize (w.alloc (.cells #[.int .i64 8, .int .i64 k.id, .int .i64 k.renewal, .int .i64 me, .int .i64 ms, .int .i64 mo, .int .i64 mv, .bool ml, .string md] 96)) = w1 at *
  have b0 := hB.c0
  have b1 := hB.c1
  have b2 := hB.c2
  have b3 := hB.c3
  have b4 := hB.c4
  have b5 := hB.c5
  have b6 := hB.c6
  have b7 := hB.c7
  have b8 := hB.c8
  dsimp only at b0 b1 b2 b3 b4 b5 b6 b7 b8
  have d0 := F.c0
  have d6 := F.c6
  have d12 := F.c12
  clear hB
  go_wp2_with fail
  go_quiet (fail)
  go_wp2_with fail
  go_quiet (fail)
  go_wp2_with fail
  go_quiet (fail)
  go_wp2_with fail
  refine (flush_any c q k me ms _ (F.drewN _)).mono ?_
  rintro x w2 ⟨rfl, G, hO2⟩
  go_wp2_with fail
  go_ret
  exact ⟨_, rfl, HasM.nil _ _, G, (hO.drewN _).trans hO2⟩

set_option maxHeartbeats 4000000 in
set_option maxRecDepth 100000 in
theorem hear_value (c q : Nat) (k : K) (mn : Int) (me ms mo mv : Int) (ml : Bool) (md : ByteArray) (w : World) (h : CliIs w c q k) (hK : KOk k) (hv : I64 mv) (hw : k.waits 1 mn = true) :
    Calls Tryz.prog 75 #[tp c, Wire.M.agg ⟨5, k.id, mn, me, ms, mo, mv, ml, md⟩] w fun e w' => ∃ v, e = .returned v ∧ HasM w' w.heap.size v [] ∧ CliIs w' c q (k.read ⟨5, k.id, mn, me, ms, mo, mv, ml, md⟩) ∧ Ob [c, q] w w' := by
  have hlt := h.lt
  have hB : MB (mbox w 5 k.id mn me ms mo mv ml md) w.heap.size ⟨5, k.id, mn, me, ms, mo, mv, ml, md⟩ := mbox_is w _ _ _ _ _ _ _ _ _
  have F : CliIs (mbox w 5 k.id mn me ms mo mv ml md) c q k := h.alloc _
  have hO : Ob [c, q] w (mbox w 5 k.id mn me ms mo mv ml md) := (Ob.refl _ _).alloc _
  have hs : (mbox w 5 k.id mn me ms mo mv ml md).heap.size = w.heap.size + 1 := by simp
  unfold mbox at *
  unfold Wire.M.agg
  clear h
  go_enter Tryz.func75, Tryz.ntmps75
  go_wp2_with fail
  generalize (w.alloc (.cells #[.int .i64 5, .int .i64 k.id, .int .i64 mn, .int .i64 me, .int .i64 ms, .int .i64 mo, .int .i64 mv, .bool ml, .string md] 96)) = w1 at *
  have b0 := hB.c0
  have b1 := hB.c1
  have b2 := hB.c2
  have b3 := hB.c3
  have b4 := hB.c4
  have b5 := hB.c5
  have b6 := hB.c6
  have b7 := hB.c7
  have b8 := hB.c8
  dsimp only at b0 b1 b2 b3 b4 b5 b6 b7 b8
  have d0 := F.c0
  have d6 := F.c6
  have d12 := F.c12
  clear hB
  go_wp2_with fail
  go_quiet (fail)
  go_wp2_with fail
  go_quiet (fail)
  go_wp2_with fail
  go_quiet (fail)
  go_wp2_with fail
  refine (waits_any c q k 1 mn _ (F.drewN _)).mono ?_
  rintro x w2 ⟨rfl, rfl⟩
  rw [hw]
  go_wp2_with fail
  refine (read_any c q k ⟨5, k.id, mn, me, ms, mo, mv, ml, md⟩ _ (F.drewN _) hK.cob0 hK.cob7 hv hK.n (by have := hK.sent0; have := hK.obj0; omega) (by have := hK.sent; have := hK.obj; omega)).mono ?_
  rintro x w3 ⟨rfl, G, hO2⟩
  go_wp2_with fail
  go_ret
  exact ⟨_, rfl, HasM.nil _ _, G, (hO.drewN _).trans hO2⟩

set_option maxHeartbeats 4000000 in
set_option maxRecDepth 100000 in
theorem hear_done (c q : Nat) (k : K) (mn : Int) (me ms mo mv : Int) (ml : Bool) (md : ByteArray) (w : World) (h : CliIs w c q k) (hK : KOk k) (hv : I64 mv) (hw : k.waits 2 mn = true) :
    Calls Tryz.prog 75 #[tp c, Wire.M.agg ⟨6, k.id, mn, me, ms, mo, mv, ml, md⟩] w fun e w' => ∃ v, e = .returned v ∧ HasM w' w.heap.size v [] ∧ CliIs w' c q (k.overWith k.d mv) ∧ Ob [c, q] w w' := by
  have hlt := h.lt
  have hB : MB (mbox w 6 k.id mn me ms mo mv ml md) w.heap.size ⟨6, k.id, mn, me, ms, mo, mv, ml, md⟩ := mbox_is w _ _ _ _ _ _ _ _ _
  have F : CliIs (mbox w 6 k.id mn me ms mo mv ml md) c q k := h.alloc _
  have hO : Ob [c, q] w (mbox w 6 k.id mn me ms mo mv ml md) := (Ob.refl _ _).alloc _
  have hs : (mbox w 6 k.id mn me ms mo mv ml md).heap.size = w.heap.size + 1 := by simp
  unfold mbox at *
  unfold Wire.M.agg
  clear h
  go_enter Tryz.func75, Tryz.ntmps75
  go_wp2_with fail
  generalize (w.alloc (.cells #[.int .i64 6, .int .i64 k.id, .int .i64 mn, .int .i64 me, .int .i64 ms, .int .i64 mo, .int .i64 mv, .bool ml, .string md] 96)) = w1 at *
  have b0 := hB.c0
  have b1 := hB.c1
  have b2 := hB.c2
  have b3 := hB.c3
  have b4 := hB.c4
  have b5 := hB.c5
  have b6 := hB.c6
  have b7 := hB.c7
  have b8 := hB.c8
  dsimp only at b0 b1 b2 b3 b4 b5 b6 b7 b8
  have d0 := F.c0
  have d6 := F.c6
  have d12 := F.c12
  clear hB
  go_wp2_with fail
  go_quiet (fail)
  go_wp2_with fail
  go_quiet (fail)
  go_wp2_with fail
  go_quiet (fail)
  go_wp2_with fail
  refine (waits_any c q k 2 mn _ (F.drewN _)).mono ?_
  rintro x w2 ⟨rfl, rfl⟩
  rw [hw]
  go_wp2_with fail
  generalize hW : w1.drewN _ = W
  have F2 : CliIs W c q k := by rw [← hW]; exact F.drewN _
  have hO3 : Ob [c, q] w W := by rw [← hW]; exact hO.drewN _
  have b6 : W.cell? ⟨w.heap.size, 6, none⟩ = some (.int .i64 mv) := by rw [← hW]; exact b6
  have d6 := F2.c6
  clear hW F hO
  go_still_tail 10, (by kernel_rfl)
  go_wp2_with fail
  refine (over_any c q k k.d mv _ F2.drew hK.cob0 hK.cob7 hv hK.n).mono ?_
  rintro x w3 ⟨rfl, G, hO2⟩
  go_wp2_with fail
  go_ret
  exact ⟨_, rfl, HasM.nil _ _, G, hO3.drew.trans hO2⟩

set_option maxHeartbeats 4000000 in
set_option maxRecDepth 100000 in
theorem hear_no7 (c q : Nat) (k : K) (mn : Int) (me ms mo mv : Int) (ml : Bool) (md : ByteArray) (w : World) (h : CliIs w c q k) (_hK : KOk k) (_hv : I64 mv) (hn : ¬ mn = k.renewal) :
    Calls Tryz.prog 75 #[tp c, Wire.M.agg ⟨7, k.id, mn, me, ms, mo, mv, ml, md⟩] w fun e w' => ∃ v, e = .returned v ∧ HasM w' w.heap.size v [] ∧ CliIs w' c q k ∧ Ob [c, q] w w' := by
  have hlt := h.lt
  have hB : MB (mbox w 7 k.id mn me ms mo mv ml md) w.heap.size ⟨7, k.id, mn, me, ms, mo, mv, ml, md⟩ := mbox_is w _ _ _ _ _ _ _ _ _
  have F : CliIs (mbox w 7 k.id mn me ms mo mv ml md) c q k := h.alloc _
  have hO : Ob [c, q] w (mbox w 7 k.id mn me ms mo mv ml md) := (Ob.refl _ _).alloc _
  have hs : (mbox w 7 k.id mn me ms mo mv ml md).heap.size = w.heap.size + 1 := by simp
  unfold mbox at *
  unfold Wire.M.agg
  clear h
  have gn : (mn == k.renewal) = false := by simpa using hn
  clear hn
  go_enter Tryz.func75, Tryz.ntmps75
  go_wp2_with fail
  generalize (w.alloc (.cells #[.int .i64 7, .int .i64 k.id, .int .i64 mn, .int .i64 me, .int .i64 ms, .int .i64 mo, .int .i64 mv, .bool ml, .string md] 96)) = w1 at *
  have b0 := hB.c0
  have b1 := hB.c1
  have b2 := hB.c2
  have b3 := hB.c3
  have b4 := hB.c4
  have b5 := hB.c5
  have b6 := hB.c6
  have b7 := hB.c7
  have b8 := hB.c8
  dsimp only at b0 b1 b2 b3 b4 b5 b6 b7 b8
  have d0 := F.c0
  have d6 := F.c6
  have d12 := F.c12
  clear hB
  go_wp2_with fail
  go_quiet (fail)
  go_wp2_with fail
  go_quiet (fail)
  go_wp2_with fail
  go_quiet (fail)
  go_wp2_with fail
  go_ret
  exact ⟨_, rfl, HasM.nil _ _, F.drewN _, hO.drewN _⟩

set_option maxHeartbeats 4000000 in
set_option maxRecDepth 100000 in
theorem hear_no8 (c q : Nat) (k : K) (mn : Int) (me ms mo mv : Int) (ml : Bool) (md : ByteArray) (w : World) (h : CliIs w c q k) (_hK : KOk k) (_hv : I64 mv) (hn : ¬ mn = k.renewal) :
    Calls Tryz.prog 75 #[tp c, Wire.M.agg ⟨8, k.id, mn, me, ms, mo, mv, ml, md⟩] w fun e w' => ∃ v, e = .returned v ∧ HasM w' w.heap.size v [] ∧ CliIs w' c q k ∧ Ob [c, q] w w' := by
  have hlt := h.lt
  have hB : MB (mbox w 8 k.id mn me ms mo mv ml md) w.heap.size ⟨8, k.id, mn, me, ms, mo, mv, ml, md⟩ := mbox_is w _ _ _ _ _ _ _ _ _
  have F : CliIs (mbox w 8 k.id mn me ms mo mv ml md) c q k := h.alloc _
  have hO : Ob [c, q] w (mbox w 8 k.id mn me ms mo mv ml md) := (Ob.refl _ _).alloc _
  have hs : (mbox w 8 k.id mn me ms mo mv ml md).heap.size = w.heap.size + 1 := by simp
  unfold mbox at *
  unfold Wire.M.agg
  clear h
  have gn : (mn == k.renewal) = false := by simpa using hn
  clear hn
  go_enter Tryz.func75, Tryz.ntmps75
  go_wp2_with fail
  generalize (w.alloc (.cells #[.int .i64 8, .int .i64 k.id, .int .i64 mn, .int .i64 me, .int .i64 ms, .int .i64 mo, .int .i64 mv, .bool ml, .string md] 96)) = w1 at *
  have b0 := hB.c0
  have b1 := hB.c1
  have b2 := hB.c2
  have b3 := hB.c3
  have b4 := hB.c4
  have b5 := hB.c5
  have b6 := hB.c6
  have b7 := hB.c7
  have b8 := hB.c8
  dsimp only at b0 b1 b2 b3 b4 b5 b6 b7 b8
  have d0 := F.c0
  have d6 := F.c6
  have d12 := F.c12
  clear hB
  go_wp2_with fail
  go_quiet (fail)
  go_wp2_with fail
  go_quiet (fail)
  go_wp2_with fail
  go_quiet (fail)
  go_wp2_with fail
  go_ret
  exact ⟨_, rfl, HasM.nil _ _, F.drewN _, hO.drewN _⟩

set_option maxHeartbeats 4000000 in
set_option maxRecDepth 100000 in
theorem hear_no5 (c q : Nat) (k : K) (mn : Int) (me ms mo mv : Int) (ml : Bool) (md : ByteArray) (w : World) (h : CliIs w c q k) (_hK : KOk k) (_hv : I64 mv) (hw : k.waits 1 mn = false) :
    Calls Tryz.prog 75 #[tp c, Wire.M.agg ⟨5, k.id, mn, me, ms, mo, mv, ml, md⟩] w fun e w' => ∃ v, e = .returned v ∧ HasM w' w.heap.size v [] ∧ CliIs w' c q k ∧ Ob [c, q] w w' := by
  have hlt := h.lt
  have hB : MB (mbox w 5 k.id mn me ms mo mv ml md) w.heap.size ⟨5, k.id, mn, me, ms, mo, mv, ml, md⟩ := mbox_is w _ _ _ _ _ _ _ _ _
  have F : CliIs (mbox w 5 k.id mn me ms mo mv ml md) c q k := h.alloc _
  have hO : Ob [c, q] w (mbox w 5 k.id mn me ms mo mv ml md) := (Ob.refl _ _).alloc _
  have hs : (mbox w 5 k.id mn me ms mo mv ml md).heap.size = w.heap.size + 1 := by simp
  unfold mbox at *
  unfold Wire.M.agg
  clear h
  go_enter Tryz.func75, Tryz.ntmps75
  go_wp2_with fail
  generalize (w.alloc (.cells #[.int .i64 5, .int .i64 k.id, .int .i64 mn, .int .i64 me, .int .i64 ms, .int .i64 mo, .int .i64 mv, .bool ml, .string md] 96)) = w1 at *
  have b0 := hB.c0
  have b1 := hB.c1
  have b2 := hB.c2
  have b3 := hB.c3
  have b4 := hB.c4
  have b5 := hB.c5
  have b6 := hB.c6
  have b7 := hB.c7
  have b8 := hB.c8
  dsimp only at b0 b1 b2 b3 b4 b5 b6 b7 b8
  have d0 := F.c0
  have d6 := F.c6
  have d12 := F.c12
  clear hB
  go_wp2_with fail
  go_quiet (fail)
  go_wp2_with fail
  go_quiet (fail)
  go_wp2_with fail
  go_quiet (fail)
  go_wp2_with fail
  refine (waits_any c q k 1 mn _ (F.drewN _)).mono ?_
  rintro x w2 ⟨rfl, rfl⟩
  rw [hw]
  go_wp2_with fail
  go_ret
  exact ⟨_, rfl, HasM.nil _ _, F.drewN _, hO.drewN _⟩

set_option maxHeartbeats 4000000 in
set_option maxRecDepth 100000 in
theorem hear_no6 (c q : Nat) (k : K) (mn : Int) (me ms mo mv : Int) (ml : Bool) (md : ByteArray) (w : World) (h : CliIs w c q k) (_hK : KOk k) (_hv : I64 mv) (hw : k.waits 2 mn = false) :
    Calls Tryz.prog 75 #[tp c, Wire.M.agg ⟨6, k.id, mn, me, ms, mo, mv, ml, md⟩] w fun e w' => ∃ v, e = .returned v ∧ HasM w' w.heap.size v [] ∧ CliIs w' c q k ∧ Ob [c, q] w w' := by
  have hlt := h.lt
  have hB : MB (mbox w 6 k.id mn me ms mo mv ml md) w.heap.size ⟨6, k.id, mn, me, ms, mo, mv, ml, md⟩ := mbox_is w _ _ _ _ _ _ _ _ _
  have F : CliIs (mbox w 6 k.id mn me ms mo mv ml md) c q k := h.alloc _
  have hO : Ob [c, q] w (mbox w 6 k.id mn me ms mo mv ml md) := (Ob.refl _ _).alloc _
  have hs : (mbox w 6 k.id mn me ms mo mv ml md).heap.size = w.heap.size + 1 := by simp
  unfold mbox at *
  unfold Wire.M.agg
  clear h
  go_enter Tryz.func75, Tryz.ntmps75
  go_wp2_with fail
  generalize (w.alloc (.cells #[.int .i64 6, .int .i64 k.id, .int .i64 mn, .int .i64 me, .int .i64 ms, .int .i64 mo, .int .i64 mv, .bool ml, .string md] 96)) = w1 at *
  have b0 := hB.c0
  have b1 := hB.c1
  have b2 := hB.c2
  have b3 := hB.c3
  have b4 := hB.c4
  have b5 := hB.c5
  have b6 := hB.c6
  have b7 := hB.c7
  have b8 := hB.c8
  dsimp only at b0 b1 b2 b3 b4 b5 b6 b7 b8
  have d0 := F.c0
  have d6 := F.c6
  have d12 := F.c12
  clear hB
  go_wp2_with fail
  go_quiet (fail)
  go_wp2_with fail
  go_quiet (fail)
  go_wp2_with fail
  go_quiet (fail)
  go_wp2_with fail
  refine (waits_any c q k 2 mn _ (F.drewN _)).mono ?_
  rintro x w2 ⟨rfl, rfl⟩
  rw [hw]
  go_wp2_with fail
  go_ret
  exact ⟨_, rfl, HasM.nil _ _, F.drewN _, hO.drewN _⟩

set_option maxHeartbeats 4000000 in
set_option maxRecDepth 100000 in
theorem hear_none (c q : Nat) (k : K) (mk mn : Int) (me ms mo mv : Int) (ml : Bool) (md : ByteArray) (w : World) (h : CliIs w c q k) (_hK : KOk k) (_hv : I64 mv) (h9 : ¬ mk = 9) (h7 : ¬ mk = 7) (h8 : ¬ mk = 8) (h5 : ¬ mk = 5) (h6 : ¬ mk = 6) :
    Calls Tryz.prog 75 #[tp c, Wire.M.agg ⟨mk, k.id, mn, me, ms, mo, mv, ml, md⟩] w fun e w' => ∃ v, e = .returned v ∧ HasM w' w.heap.size v [] ∧ CliIs w' c q k ∧ Ob [c, q] w w' := by
  have hlt := h.lt
  have hB : MB (mbox w mk k.id mn me ms mo mv ml md) w.heap.size ⟨mk, k.id, mn, me, ms, mo, mv, ml, md⟩ := mbox_is w _ _ _ _ _ _ _ _ _
  have F : CliIs (mbox w mk k.id mn me ms mo mv ml md) c q k := h.alloc _
  have hO : Ob [c, q] w (mbox w mk k.id mn me ms mo mv ml md) := (Ob.refl _ _).alloc _
  have hs : (mbox w mk k.id mn me ms mo mv ml md).heap.size = w.heap.size + 1 := by simp
  unfold mbox at *
  unfold Wire.M.agg
  clear h
  have g9 : (mk == 9) = false := by simpa using h9
  have g7 : (mk == 7) = false := by simpa using h7
  have g8 : (mk == 8) = false := by simpa using h8
  have g5 : (mk == 5) = false := by simpa using h5
  have g6 : (mk == 6) = false := by simpa using h6
  clear h9 h7 h8 h5 h6
  go_enter Tryz.func75, Tryz.ntmps75
  go_wp2_with fail
  generalize (w.alloc (.cells #[.int .i64 mk, .int .i64 k.id, .int .i64 mn, .int .i64 me, .int .i64 ms, .int .i64 mo, .int .i64 mv, .bool ml, .string md] 96)) = w1 at *
  have b0 := hB.c0
  have b1 := hB.c1
  have b2 := hB.c2
  have b3 := hB.c3
  have b4 := hB.c4
  have b5 := hB.c5
  have b6 := hB.c6
  have b7 := hB.c7
  have b8 := hB.c8
  dsimp only at b0 b1 b2 b3 b4 b5 b6 b7 b8
  have d0 := F.c0
  have d6 := F.c6
  have d12 := F.c12
  clear hB
  go_wp2_with fail
  go_quiet (fail)
  go_wp2_with fail
  go_quiet (fail)
  go_wp2_with fail
  go_quiet (fail)
  go_wp2_with fail
  go_ret
  exact ⟨_, rfl, HasM.nil _ _, F.drewN _, hO.drewN _⟩

theorem hear_any (c q : Nat) (k : K) (m : M) (w : World) (h : CliIs w c q k) (hK : KOk k) (hv : I64 m.v) :
    Calls Tryz.prog 75 #[tp c, Wire.M.agg m] w fun e w' => ∃ v, e = .returned v ∧ HasM w' w.heap.size v (k.hear m).2 ∧ CliIs w' c q (k.hear m).1 ∧ Ob [c, q] w w' := by
  obtain ⟨mk, mc, mn, me, ms, mo, mv, ml, md⟩ := m
  unfold K.hear
  dsimp only at hv ⊢
  by_cases h9 : mk = 9
  · rw [if_pos h9]; subst h9; exact hear_inval c q k mc mn me ms mo mv ml md w h hK hv
  · rw [if_neg h9]
    by_cases hc : mc = k.id
    · rw [if_neg (fun e => e hc)]
      subst hc
      by_cases h7 : mk = 7
      · subst h7
        by_cases hn : mn = k.renewal
        · rw [if_pos ⟨rfl, hn⟩]; subst hn; exact hear_granted c q k me ms mo mv ml md w h hK hv
        · rw [if_neg (fun e => hn e.2), if_neg (fun e => by have := e.1; omega), if_neg (fun e => by have := e.1; omega), if_neg (fun e => by have := e.1; omega)]
          exact hear_no7 c q k mn me ms mo mv ml md w h hK hv hn
      · rw [if_neg (fun e => h7 e.1)]
        by_cases h8 : mk = 8
        · subst h8
          by_cases hn : mn = k.renewal
          · rw [if_pos ⟨rfl, hn⟩]; subst hn; exact hear_flush c q k me ms mo mv ml md w h hK hv
          · rw [if_neg (fun e => hn e.2), if_neg (fun e => by have := e.1; omega), if_neg (fun e => by have := e.1; omega)]
            exact hear_no8 c q k mn me ms mo mv ml md w h hK hv hn
        · rw [if_neg (fun e => h8 e.1)]
          by_cases h5 : mk = 5
          · subst h5
            cases hw : k.waits 1 mn with
            | true => rw [if_pos ⟨rfl, rfl⟩]; exact hear_value c q k mn me ms mo mv ml md w h hK hv hw
            | false => rw [if_neg (fun e => by have := e.2; simp at this), if_neg (fun e => by have := e.1; omega)]; exact hear_no5 c q k mn me ms mo mv ml md w h hK hv hw
          · rw [if_neg (fun e => h5 e.1)]
            by_cases h6 : mk = 6
            · subst h6
              cases hw : k.waits 2 mn with
              | true => rw [if_pos ⟨rfl, rfl⟩]; exact hear_done c q k mn me ms mo mv ml md w h hK hv hw
              | false => rw [if_neg (fun e => by have := e.2; simp at this)]; exact hear_no6 c q k mn me ms mo mv ml md w h hK hv hw
            · rw [if_neg (fun e => h6 e.1)]
              exact hear_none c q k mk mn me ms mo mv ml md w h hK hv h9 h7 h8 h5 h6
    · rw [if_pos hc]
      exact hear_other c q k mk mc mn me ms mo mv ml md w h hK hv h9 hc

def K.new (id obj vol : Int) : K := ⟨id, obj, vol, 0, 0, 0, ⟨#[]⟩, 0, false, false, 0, 0, 0, 0, 0, 0, 0, [], fun _ => 0, 0⟩

set_option maxHeartbeats 2000000 in
set_option maxRecDepth 100000 in
theorem new_any (o v d id : Int) (w : World) (ho0 : 0 ≤ o) (ho : o ≤ 1099511627776) (hv0 : 0 ≤ v) (hv : v ≤ 1099511627776) (hd0 : 0 ≤ d) (hd : d ≤ 500) :
    Calls Tryz.prog 55 #[.agg #[.int .i64 o, .int .i64 v, .int .i64 d], .int .i64 id] w fun e w' => ∃ c q, e = .returned (tp c) ∧ CliIs w' c q (K.new id (o * (1000 - d) / (1000 + d)) (v * (1000 - d) / (1000 + d))) ∧ w.heap.size ≤ c ∧ w.heap.size ≤ q ∧ Below w.heap.size w w' := by
  have hm := fun (t : TypeId) (w : World) => run_makeMap (P := Tryz.prog) t w
  go_enter Tryz.func55, Tryz.ntmps55
  go_wp2_with (go_at_call 77; refine (Clock.short_any _ _ _ hd0 hd (by assumption) (by assumption)).mono ?_; rintro e w' ⟨rfl, rfl⟩)
  go_ret
  have h1 : ∀ a : Obj, (w.alloc a).heap.size = w.heap.size + 1 := fun a => by simp
  have h2 : ∀ a b : Obj, ((w.alloc a).alloc b).heap.size = w.heap.size + 1 + 1 := fun a b => by simp
  have hB : ∀ a b c : Obj, (((w.alloc a).alloc b).alloc c).heap[w.heap.size + 1 + 1]? = some c := fun a b c => by rw [← h2 a b]; exact heap_alloc_new _ _
  have hM : ∀ a c : Obj, (((w.alloc a).alloc (.map #[] 0)).alloc c).ownsMap Tryz.prog 3 (plainElem (H := Unit) Tryz.prog 3) (w.heap.size + 1) 0 (.map []) := fun a c => by
    have := (World.ownsMap_made (w.alloc a) Tryz.prog 3 (plainElem (H := Unit) Tryz.prog 3)).alloc c
    rw [h1] at this
    exact this
  refine ⟨w.heap.size + 1 + 1, w.heap.size + 1, rfl, ⟨⟨by simp [K.new], rfl, ?_⟩, .nil, .map [], ?_, tidy_empty, fun _ _ _ => rfl⟩, by omega, by omega, (((Below.refl _ _).alloc (Nat.le_refl _) _).alloc (by simp) _).alloc (by simp; omega) _⟩
  · rw [hB]; rfl
  · exact hM _ _

end Go.Proofs.YtbebfliimjjohaaGreatDoor.Wld
end

section
namespace Go.Proofs.YtbebfliimjjohaaGreatDoor.Wal
open Go.RowKit
open Num (inB)
structure R where
  c : Int
  n : Int
  o : Int
  v : Int
  d : ByteArray
  e : Int

abbrev R.agg (r : R) : Value := .agg #[.int .i64 r.c, .int .i64 r.n, .int .i64 r.o, .int .i64 r.v, .string r.d, .int .i64 r.e]

def timeB (n : Int) : Bool := inB n 0 1099511627776

def epochB (r : R) : Bool := timeB r.e && decide (r.c = 0 ∧ r.n = 0 ∧ r.v = 0 ∧ r.d.size = 0)

def writeB (r : R) : Bool := timeB r.c && timeB r.n && timeB r.v && decide (0 ≤ r.o ∧ r.o < 8 ∧ r.d.size ≤ 20 ∧ r.e = 0)

def mayB (r : R) : Bool := if r.o = -1 then epochB r else writeB r

theorem time_any (n : Int) (w : World) :
    Calls Tryz.prog 137 #[.int .i64 n] w fun e w' => e = .returned (.bool (timeB n)) ∧ w' = w := by
  unfold timeB
  by_cases h0 : 0 ≤ n
  · by_cases h1 : n ≤ 1099511627776
    · rw [Num.inB_true h0 h1]
      go_enter Tryz.func137, Tryz.ntmps137
      go_wp2
      go_ret
      exact ⟨rfl, rfl⟩
    · rw [Num.inB_above (by omega)]
      have h2 : decide (n ≤ 1099511627776) = false := decide_eq_false h1
      go_enter Tryz.func137, Tryz.ntmps137
      go_wp2
      go_ret
      exact ⟨rfl, rfl⟩
  · rw [Num.inB_below (by omega)]
    have h2 : decide (0 ≤ n) = false := decide_eq_false h0
    go_enter Tryz.func137, Tryz.ntmps137
    go_wp2
    go_ret
    exact ⟨rfl, rfl⟩

theorem size0 {d : ByteArray} : (d.toList == []) = decide (d.size = 0) := by
  rw [Bool.eq_iff_iff]
  simp only [beq_iff_eq, decide_eq_true_eq]
  constructor
  · intro h
    have := congrArg List.length h
    rw [Go.ByteArray.toList_eq] at this
    simpa using this
  · intro h
    rw [Go.ByteArray.toList_eq]
    exact List.length_eq_zero_iff.1 (by rw [Array.length_toList]; exact h)

set_option maxHeartbeats 4000000 in
set_option maxRecDepth 100000 in
theorem may_epoch (c n v e : Int) (d : ByteArray) (w : World) :
    Calls Tryz.prog 114 #[R.agg ⟨c, n, -1, v, d, e⟩] w fun x w' => x = .returned (.bool (epochB ⟨c, n, -1, v, d, e⟩)) ∧ Below w.heap.size w w' := by
  dsimp only [R.agg]
  have hs := size0 (d := d)
  have hee : (e == e) = true := by simp
  cases hte : timeB e with
  | false =>
    have HF : Hid (epochB ⟨c, n, -1, v, d, e⟩ = false) := by show epochB ⟨c, n, -1, v, d, e⟩ = _; simp [epochB, hte]
    go_enter Tryz.func114, Tryz.ntmps114
    go_wp2_with (first | (go_at_call 137; refine (time_any _ _).mono ?_; rintro x w' ⟨rfl, rfl⟩))
    go_ret
    exact ⟨by rw [HF.out]; rfl, (Below.refl _ _).alloc (Nat.le_refl _) _⟩
  | true =>
    by_cases hc : c = 0
    · by_cases hn : n = 0
      · by_cases hv : v = 0
        · by_cases hd : d.size = 0
          · rw [decide_eq_true hd] at hs
            subst hc hn hv
            have HF : Hid (epochB ⟨0, 0, -1, 0, d, e⟩ = true) := by show epochB ⟨0, 0, -1, 0, d, e⟩ = _; simp [epochB, hte, hd]
            clear hd
            go_enter Tryz.func114, Tryz.ntmps114
            go_wp2_with (first | (go_at_call 137; refine (time_any _ _).mono ?_; rintro x w' ⟨rfl, rfl⟩))
            go_ret
            exact ⟨by rw [HF.out]; rfl, (Below.refl _ _).alloc (Nat.le_refl _) _⟩
          · rw [decide_eq_false hd] at hs
            have HF : Hid (epochB ⟨c, n, -1, v, d, e⟩ = false) := by show epochB ⟨c, n, -1, v, d, e⟩ = _; simp [epochB, hd]
            subst hc hn hv
            clear hd
            go_enter Tryz.func114, Tryz.ntmps114
            go_wp2_with (first | (go_at_call 137; refine (time_any _ _).mono ?_; rintro x w' ⟨rfl, rfl⟩))
            go_ret
            exact ⟨by rw [HF.out]; rfl, (Below.refl _ _).alloc (Nat.le_refl _) _⟩
        · have hb : (v == 0) = false := by simp [hv]
          have HF : Hid (epochB ⟨c, n, -1, v, d, e⟩ = false) := by show epochB ⟨c, n, -1, v, d, e⟩ = _; simp [epochB, hv]
          subst hc hn
          go_enter Tryz.func114, Tryz.ntmps114
          go_wp2_with (first | (go_at_call 137; refine (time_any _ _).mono ?_; rintro x w' ⟨rfl, rfl⟩))
          go_ret
          exact ⟨by rw [HF.out]; rfl, (Below.refl _ _).alloc (Nat.le_refl _) _⟩
      · have hb : (n == 0) = false := by simp [hn]
        have HF : Hid (epochB ⟨c, n, -1, v, d, e⟩ = false) := by show epochB ⟨c, n, -1, v, d, e⟩ = _; simp [epochB, hn]
        subst hc
        go_enter Tryz.func114, Tryz.ntmps114
        go_wp2_with (first | (go_at_call 137; refine (time_any _ _).mono ?_; rintro x w' ⟨rfl, rfl⟩))
        go_ret
        exact ⟨by rw [HF.out]; rfl, (Below.refl _ _).alloc (Nat.le_refl _) _⟩
    · have hb : (c == 0) = false := by simp [hc]
      have HF : Hid (epochB ⟨c, n, -1, v, d, e⟩ = false) := by show epochB ⟨c, n, -1, v, d, e⟩ = _; simp [epochB, hc]
      go_enter Tryz.func114, Tryz.ntmps114
      go_wp2_with (first | (go_at_call 137; refine (time_any _ _).mono ?_; rintro x w' ⟨rfl, rfl⟩))
      go_ret
      exact ⟨by rw [HF.out]; rfl, (Below.refl _ _).alloc (Nat.le_refl _) _⟩

set_option maxHeartbeats 4000000 in
set_option maxRecDepth 100000 in
theorem may_write (r : R) (w : World) (ho : r.o ≠ -1) (hsz : r.d.size ≤ 1000) :
    Calls Tryz.prog 114 #[r.agg] w fun x w' => x = .returned (.bool (writeB r)) ∧ Below w.heap.size w w' := by
  obtain ⟨c, n, o, v, d, e⟩ := r
  dsimp only [R.agg] at *
  have hob : (o == -1) = false := by simp [ho]
  cases hc : timeB c with
  | false =>
    have HF : Hid (writeB ⟨c, n, o, v, d, e⟩ = false) := by show writeB ⟨c, n, o, v, d, e⟩ = _; simp [writeB, hc]
    go_enter Tryz.func114, Tryz.ntmps114
    go_wp2_with (first | (go_at_call 137; refine (time_any _ _).mono ?_; rintro x w' ⟨rfl, rfl⟩))
    go_ret
    exact ⟨by rw [HF.out]; rfl, (Below.refl _ _).alloc (Nat.le_refl _) _⟩
  | true =>
    cases hn : timeB n with
    | false =>
      have HF : Hid (writeB ⟨c, n, o, v, d, e⟩ = false) := by show writeB ⟨c, n, o, v, d, e⟩ = _; simp [writeB, hn]
      go_enter Tryz.func114, Tryz.ntmps114
      go_wp2_with (first | (go_at_call 137; refine (time_any _ _).mono ?_; rintro x w' ⟨rfl, rfl⟩))
      go_ret
      exact ⟨by rw [HF.out]; rfl, (Below.refl _ _).alloc (Nat.le_refl _) _⟩
    | true =>
      cases hv : timeB v with
      | false =>
        have HF : Hid (writeB ⟨c, n, o, v, d, e⟩ = false) := by show writeB ⟨c, n, o, v, d, e⟩ = _; simp [writeB, hv]
        go_enter Tryz.func114, Tryz.ntmps114
        go_wp2_with (first | (go_at_call 137; refine (time_any _ _).mono ?_; rintro x w' ⟨rfl, rfl⟩))
        go_ret
        exact ⟨by rw [HF.out]; rfl, (Below.refl _ _).alloc (Nat.le_refl _) _⟩
      | true =>
        by_cases h0 : 0 ≤ o
        · by_cases h1 : o < 8
          · by_cases h2 : d.size ≤ 20
            · have h2i : (d.size : Int) ≤ 20 := by omega
              by_cases h3 : e = 0
              · have hb : (e == 0) = true := by simp [h3]
                have HF : Hid (writeB ⟨c, n, o, v, d, e⟩ = true) := by show writeB ⟨c, n, o, v, d, e⟩ = _; simp [writeB, hc, hn, hv, h0, h1, h2, h3]
                clear h3
                go_enter Tryz.func114, Tryz.ntmps114
                go_wp2_with (first | (go_at_call 137; refine (time_any _ _).mono ?_; rintro x w' ⟨rfl, rfl⟩))
                go_ret
                exact ⟨by rw [HF.out]; rfl, (Below.refl _ _).alloc (Nat.le_refl _) _⟩
              · have hb : (e == 0) = false := by simp [h3]
                have HF : Hid (writeB ⟨c, n, o, v, d, e⟩ = false) := by show writeB ⟨c, n, o, v, d, e⟩ = _; simp [writeB, h3]
                go_enter Tryz.func114, Tryz.ntmps114
                go_wp2_with (first | (go_at_call 137; refine (time_any _ _).mono ?_; rintro x w' ⟨rfl, rfl⟩))
                go_ret
                exact ⟨by rw [HF.out]; rfl, (Below.refl _ _).alloc (Nat.le_refl _) _⟩
            · have hb : decide ((d.size : Int) ≤ 20) = false := decide_eq_false (by omega)
              have HF : Hid (writeB ⟨c, n, o, v, d, e⟩ = false) := by show writeB ⟨c, n, o, v, d, e⟩ = _; simp [writeB]; omega
              go_enter Tryz.func114, Tryz.ntmps114
              go_wp2_with (first | (go_at_call 137; refine (time_any _ _).mono ?_; rintro x w' ⟨rfl, rfl⟩))
              go_ret
              exact ⟨by rw [HF.out]; rfl, (Below.refl _ _).alloc (Nat.le_refl _) _⟩
          · have hb : decide (o < 8) = false := decide_eq_false h1
            have HF : Hid (writeB ⟨c, n, o, v, d, e⟩ = false) := by show writeB ⟨c, n, o, v, d, e⟩ = _; simp [writeB]; omega
            go_enter Tryz.func114, Tryz.ntmps114
            go_wp2_with (first | (go_at_call 137; refine (time_any _ _).mono ?_; rintro x w' ⟨rfl, rfl⟩))
            go_ret
            exact ⟨by rw [HF.out]; rfl, (Below.refl _ _).alloc (Nat.le_refl _) _⟩
        · have hb : decide (0 ≤ o) = false := decide_eq_false h0
          have HF : Hid (writeB ⟨c, n, o, v, d, e⟩ = false) := by show writeB ⟨c, n, o, v, d, e⟩ = _; simp [writeB]; omega
          go_enter Tryz.func114, Tryz.ntmps114
          go_wp2_with (first | (go_at_call 137; refine (time_any _ _).mono ?_; rintro x w' ⟨rfl, rfl⟩))
          go_ret
          exact ⟨by rw [HF.out]; rfl, (Below.refl _ _).alloc (Nat.le_refl _) _⟩

theorem may_any (r : R) (w : World) (hsz : r.d.size ≤ 1000) :
    Calls Tryz.prog 114 #[r.agg] w fun x w' => x = .returned (.bool (mayB r)) ∧ Below w.heap.size w w' := by
  by_cases ho : r.o = -1
  · have hE : mayB r = epochB r := by simp [mayB, ho]
    rw [hE]
    obtain ⟨c, n, o, v, d, e⟩ := r
    dsimp only at ho
    subst ho
    exact may_epoch c n v e d w
  · have hE : mayB r = writeB r := by simp [mayB, ho]
    rw [hE]
    exact may_write r w ho hsz

end Go.Proofs.YtbebfliimjjohaaGreatDoor.Wal
end

section
namespace Go.Proofs.YtbebfliimjjohaaGreatDoor.Wal
open Num (ints inB)
def byteAt (x : Int) (j : Nat) : Int := x / 256 ^ j % 256

def nums (r : R) : List Int := [r.c, r.n, r.o, r.v, r.e]

def full (r : R) : List Int := ((List.range 40).map fun t => byteAt ((nums r).getD (t / 8) 0) (t % 8)) ++ ((r.d.size : Int) :: (ints r.d ++ (List.replicate (20 - r.d.size) 0 ++ [1])))

def pad (xs : List Int) : List Int := xs ++ List.replicate (62 - xs.length) 0

theorem full_length {r : R} (h : r.d.size ≤ 20) : (full r).length = 62 := by
  simp [full, Num.ints_length]
  omega

theorem full_num {r : R} {t : Nat} (h : t < 40) : (full r).getD t 0 = byteAt ((nums r).getD (t / 8) 0) (t % 8) := by
  rw [List.getD_eq_getElem?_getD]
  unfold full
  rw [List.getElem?_append_left (by simpa using h), List.getElem?_map, List.getElem?_range h]
  rfl

theorem full_at {r : R} {i : Nat} : (full r)[40 + i]? = ((r.d.size : Int) :: (ints r.d ++ (List.replicate (20 - r.d.size) 0 ++ [1])))[i]? := by
  unfold full
  rw [List.getElem?_append_right (by simp)]
  simp

theorem full_len {r : R} : (full r).getD 40 0 = (r.d.size : Int) := by
  rw [List.getD_eq_getElem?_getD, show (40 : Nat) = 40 + 0 from rfl, full_at]
  rfl

theorem full_text {r : R} {i : Nat} (h : i < r.d.size) : (full r).getD (41 + i) 0 = (ints r.d).getD i 0 := by
  rw [List.getD_eq_getElem?_getD, show 41 + i = 40 + (i + 1) by omega, full_at, List.getElem?_cons_succ, List.getElem?_append_left (by rw [Num.ints_length]; exact h), List.getD_eq_getElem?_getD]

theorem full_mark {r : R} (h : r.d.size ≤ 20) : (full r).getD 61 0 = 1 := by
  rw [List.getD_eq_getElem?_getD, show (61 : Nat) = 40 + (20 + 1) from rfl, full_at, List.getElem?_cons_succ, List.getElem?_append_right (by rw [Num.ints_length]; exact h), Num.ints_length, List.getElem?_append_right (by simp)]
  simp

theorem byteAt_bd (x : Int) (j : Nat) : 0 ≤ byteAt x j ∧ byteAt x j < 256 := by unfold byteAt; omega

theorem pad_length {xs : List Int} (h : xs.length ≤ 62) : (pad xs).length = 62 := by simp [pad]; omega

theorem pad_nil : pad [] = List.replicate 62 0 := rfl

theorem pad_set {F : List Int} {t : Nat} (hF : F.length = 62) (ht : t < 62) : (pad (F.take t)).set t (F.getD t 0) = pad (F.take (t + 1)) := by
  apply List.ext_getElem?
  intro i
  have hl : (pad (F.take t)).length = 62 := pad_length (by simp; omega)
  rw [List.getElem?_set, hl]
  unfold pad
  by_cases hi : t = i
  · subst hi
    rw [if_pos rfl, if_pos ht, List.getElem?_append_left (by simp; omega), List.getElem?_take, if_pos (by omega), List.getD_eq_getElem?_getD, List.getElem?_eq_getElem (by omega)]
    rfl
  · rw [if_neg hi]
    by_cases h : i < t
    · rw [List.getElem?_append_left (by simp; omega), List.getElem?_append_left (by simp; omega), List.getElem?_take, List.getElem?_take, if_pos h, if_pos (by omega)]
    · rw [List.getElem?_append_right (by simp; omega), List.getElem?_append_right (by simp; omega), List.getElem?_replicate, List.getElem?_replicate]
      simp only [List.length_take, hF]
      by_cases h2 : i < 62
      · rw [if_pos (by omega), if_pos (by omega)]
      · rw [if_neg (by omega), if_neg (by omega)]

theorem pad_end {r : R} (h : r.d.size ≤ 20) : (pad ((full r).take (41 + r.d.size))).set 61 1 = full r := by
  have hF := full_length h
  apply List.ext_getElem?
  intro i
  have hl : (pad ((full r).take (41 + r.d.size))).length = 62 := pad_length (by simp; omega)
  rw [List.getElem?_set, hl]
  by_cases hi : 61 = i
  · subst hi
    rw [if_pos rfl, if_pos (by omega)]
    have := full_mark h
    rw [List.getD_eq_getElem?_getD, List.getElem?_eq_getElem (by omega)] at this
    rw [List.getElem?_eq_getElem (by omega)]
    simpa using this.symm
  · rw [if_neg hi]
    unfold pad
    by_cases h1 : i < 41 + r.d.size
    · rw [List.getElem?_append_left (by simp; omega), List.getElem?_take, if_pos h1]
    · rw [List.getElem?_append_right (by simp; omega), List.getElem?_replicate]
      simp only [List.length_take, hF]
      by_cases h2 : i < 61
      · rw [if_pos (by omega), show i = 40 + (i - 41 + 1) by omega, full_at, List.getElem?_cons_succ, List.getElem?_append_right (by rw [Num.ints_length]; omega), Num.ints_length, List.getElem?_append_left (by simp; omega), List.getElem?_replicate, if_pos (by omega)]
      · rw [if_neg (by omega), List.getElem?_eq_none (by omega)]

def part (x : Int) (j : Nat) : Int := if j < 8 then x % 256 ^ j else x

def okN (x : Int) : Prop := (0 ≤ x ∧ x ≤ 1099511627776) ∨ x = -1

theorem part_zero (x : Int) : part x 0 = 0 := by simp [part]

theorem part_end (x : Int) : part x 8 = x := by simp [part]

theorem or_step (x : Int) (j : Nat) (hx : okN x) (hj : j < 8) : bits .or .i64 (part x j) (IntKind.i64.wrap (byteAt x j * 2 ^ (8 * j))) = part x (j + 1) := by
  rcases hx with ⟨h0, h1⟩ | rfl
  · have key : ∀ (k : Nat) (q p : Int), k ≤ 48 → (2 : Int) ^ k = q → p = x % q → 0 < q → q ≤ 281474976710656 → bits .or .i64 p (IntKind.i64.wrap (x / q % 256 * q)) = p + x / q % 256 * q := fun k q p hk hq hp hq0 hq1 => by
      have hb : 0 ≤ x / q % 256 := by omega
      have hb1 : x / q % 256 ≤ 255 := by omega
      have hm : x / q % 256 * q ≤ 255 * 281474976710656 := Int.mul_le_mul hb1 hq1 (by omega) (by omega)
      have hm0 : 0 ≤ x / q % 256 * q := Int.mul_nonneg hb (by omega)
      have hpb : 0 ≤ p ∧ p < q := by rw [hp]; exact ⟨Int.emod_nonneg _ (by omega), Int.emod_lt_of_pos _ hq0⟩
      rw [Wire.wraps_i64 _ hm0 (by omega)]
      exact bits_join_low .i64 63 (by decide) Wire.wraps_i64 k p (x / q % 256 * q) hpb.1 (by rw [hq]; exact hpb.2) (by omega) hm0 (by rw [hq]; exact Int.mul_emod_left _ _) (by omega)
    have zero : ∀ p : Int, 0 ≤ p → p < 2 ^ 63 → bits .or .i64 p 0 = p := fun p hp hp1 => by
      have := bits_join_low .i64 63 (by decide) Wire.wraps_i64 63 p 0 hp hp1 hp1 (by omega) (by simp) (by decide)
      simpa using this
    match j, hj with
    | 0, _ =>
      have e0 : part x 0 = x % 1 := rfl
      have e1 : part x 1 = x % 256 := rfl
      have e2 : byteAt x 0 * 2 ^ (8 * 0) = x / 1 % 256 * 1 := rfl
      have h := key 0 1 (x % 1) (by omega) rfl rfl (by omega) (by omega)
      rw [e0, e1, e2, h]
      omega
    | 1, _ =>
      have e0 : part x 1 = x % 256 := rfl
      have e1 : part x 2 = x % 65536 := rfl
      have e2 : byteAt x 1 * 2 ^ (8 * 1) = x / 256 % 256 * 256 := rfl
      have h := key 8 256 (x % 256) (by omega) rfl rfl (by omega) (by omega)
      rw [e0, e1, e2, h]
      omega
    | 2, _ =>
      have e0 : part x 2 = x % 65536 := rfl
      have e1 : part x 3 = x % 16777216 := rfl
      have e2 : byteAt x 2 * 2 ^ (8 * 2) = x / 65536 % 256 * 65536 := rfl
      have h := key 16 65536 (x % 65536) (by omega) rfl rfl (by omega) (by omega)
      rw [e0, e1, e2, h]
      omega
    | 3, _ =>
      have e0 : part x 3 = x % 16777216 := rfl
      have e1 : part x 4 = x % 4294967296 := rfl
      have e2 : byteAt x 3 * 2 ^ (8 * 3) = x / 16777216 % 256 * 16777216 := rfl
      have h := key 24 16777216 (x % 16777216) (by omega) rfl rfl (by omega) (by omega)
      rw [e0, e1, e2, h]
      omega
    | 4, _ =>
      have e0 : part x 4 = x % 4294967296 := rfl
      have e1 : part x 5 = x % 1099511627776 := rfl
      have e2 : byteAt x 4 * 2 ^ (8 * 4) = x / 4294967296 % 256 * 4294967296 := rfl
      have h := key 32 4294967296 (x % 4294967296) (by omega) rfl rfl (by omega) (by omega)
      rw [e0, e1, e2, h]
      omega
    | 5, _ =>
      have e0 : part x 5 = x % 1099511627776 := rfl
      have e1 : part x 6 = x % 281474976710656 := rfl
      have e2 : byteAt x 5 * 2 ^ (8 * 5) = x / 1099511627776 % 256 * 1099511627776 := rfl
      have h := key 40 1099511627776 (x % 1099511627776) (by omega) rfl rfl (by omega) (by omega)
      rw [e0, e1, e2, h]
      omega
    | 6, _ =>
      have e0 : part x 6 = x % 281474976710656 := rfl
      have e1 : part x 7 = x % 72057594037927936 := rfl
      have e2 : byteAt x 6 * 2 ^ (8 * 6) = x / 281474976710656 % 256 * 281474976710656 := rfl
      have h := zero (x % 281474976710656) (by omega) (by omega)
      rw [e0, e1, e2, show x / 281474976710656 % 256 * 281474976710656 = 0 by omega, show IntKind.i64.wrap 0 = 0 from rfl, h]
      omega
    | 7, _ =>
      have e0 : part x 7 = x % 72057594037927936 := rfl
      have e1 : part x 8 = x := rfl
      have e2 : byteAt x 7 * 2 ^ (8 * 7) = x / 72057594037927936 % 256 * 72057594037927936 := rfl
      have h := zero (x % 72057594037927936) (by omega) (by omega)
      rw [e0, e1, e2, show x / 72057594037927936 % 256 * 72057594037927936 = 0 by omega, show IntKind.i64.wrap 0 = 0 from rfl, h]
      omega
  · match j, hj with
    | 0, _ => decide
    | 1, _ => decide
    | 2, _ => decide
    | 3, _ => decide
    | 4, _ => decide
    | 5, _ => decide
    | 6, _ => decide
    | 7, _ => decide

end Go.Proofs.YtbebfliimjjohaaGreatDoor.Wal
end
