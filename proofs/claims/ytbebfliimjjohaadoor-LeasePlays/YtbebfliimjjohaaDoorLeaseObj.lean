/-
  Contracts of Object, Drop of both tables over the turned program.
-/
import Derived.Test.YtbebfliimjjohaaDoorLeaseRef
namespace Go.Proofs.YtbebfliimjjohaaDoor.Lease
open Go.RowKit Go.Maps
open Num (inB)

set_option maxRecDepth 100000 in
theorem obj_bad (t : Nat) (c o u : Int) (w : World) (h : (cliB c && objB o && timB u) = false) :
    Calls Tryd.prog 38 #[tp t, .int .i64 c, .int .i64 o, .int .i64 u] w fun e w' => e = .returned (.iface 22 (.int .i64 2)) ∧ w' = w := by
  cases hc : cliB c with
  | false =>
    clear h
    go_enter Tryd.func38, Tryd.ntmps38
    go_wp2_with (first | (go_at_call 79; refine (cli_any _ _).mono ?_; rintro x w' ⟨rfl, rfl⟩) | (go_at_call 80; refine (obj_any _ _).mono ?_; rintro x w' ⟨rfl, rfl⟩) | (go_at_call 81; refine (tim_any _ _).mono ?_; rintro x w' ⟨rfl, rfl⟩))
    go_ret
    exact ⟨rfl, rfl⟩
  | true =>
    cases ho : objB o with
    | false =>
      clear h
      go_enter Tryd.func38, Tryd.ntmps38
      go_wp2_with (first | (go_at_call 79; refine (cli_any _ _).mono ?_; rintro x w' ⟨rfl, rfl⟩) | (go_at_call 80; refine (obj_any _ _).mono ?_; rintro x w' ⟨rfl, rfl⟩) | (go_at_call 81; refine (tim_any _ _).mono ?_; rintro x w' ⟨rfl, rfl⟩))
      go_ret
      exact ⟨rfl, rfl⟩
    | true =>
      rw [hc, ho, Bool.true_and, Bool.true_and] at h
      go_enter Tryd.func38, Tryd.ntmps38
      go_wp2_with (first | (go_at_call 79; refine (cli_any _ _).mono ?_; rintro x w' ⟨rfl, rfl⟩) | (go_at_call 80; refine (obj_any _ _).mono ?_; rintro x w' ⟨rfl, rfl⟩) | (go_at_call 81; refine (tim_any _ _).mono ?_; rintro x w' ⟨rfl, rfl⟩))
      go_ret
      exact ⟨rfl, rfl⟩

set_option maxRecDepth 100000 in
theorem obj_ok (t m n : Nat) (c o u : Int) (D : Dat) (v s : Int → Int) (x : Int) (w : World) (h : TabIs w t m D v s n) (hn : n < 9223372036854775807) (hc : cliB c = true) (ho : objB o = true) (hu : timB u = true) (hx : D.atKey (kk c o) (num 0) = num x) :
    Calls Tryd.prog 38 #[tp t, .int .i64 c, .int .i64 o, .int .i64 u] w fun e w' => e = .returned .nilIface ∧ TabIs w' t m (D.put (kk c o) (num (mx x u))) v s (n + 1) ∧ Ob [m] w w' := by
  have hlt := h.lt.1
  have hv := h.obj
  have hcw := cli_i64 hc
  have how := obj_i64 ho
  go_enter Tryd.func38, Tryd.ntmps38
  go_wp2_with (first | (go_at_call 79; refine (cli_any _ _).mono ?_; rintro x w' ⟨rfl, rfl⟩) | (go_at_call 80; refine (obj_any _ _).mono ?_; rintro x w' ⟨rfl, rfl⟩) | (go_at_call 81; refine (tim_any _ _).mono ?_; rintro x w' ⟨rfl, rfl⟩))
  have h1 := h.below ((Below.refl _ _).alloc (Nat.le_refl _) (Obj.cells #[Value.int IntKind.i64 c, Value.int IntKind.i64 o] 164))
  have hO := ((Ob.refl [m] w').alloc (Obj.cells #[Value.int IntKind.i64 c, Value.int IntKind.i64 o] 164))
  have hb0 : (w'.alloc (Obj.cells #[Value.int IntKind.i64 c, Value.int IntKind.i64 o] 164)).cell? ⟨w'.heap.size, 0, none⟩ = some (.int .i64 c) := by rw [cell_of_row _ _ _ _ _ _ (heap_alloc_new w' _)]; rfl
  have hb1 : (w'.alloc (Obj.cells #[Value.int IntKind.i64 c, Value.int IntKind.i64 o] 164)).cell? ⟨w'.heap.size, 1, none⟩ = some (.int .i64 o) := by rw [cell_of_row _ _ _ _ _ _ (heap_alloc_new w' _)]; rfl
  generalize (w'.alloc (Obj.cells #[Value.int IntKind.i64 c, Value.int IntKind.i64 o] 164)) = w2 at *
  have hv2 := h1.obj
  obtain ⟨hrun, _, hxw⟩ := own_int (t := 159) h1.drew.own keyedP Tryd.underlying159 (keyP hcw how) hx
  go_still_tail 13, (by kernel_rfl)
  generalize hg : (if x < u then u else x) = g
  obtain rfl : mx x u = g := hg
  refine wpList_mapUpdate_in _ rfl _ _ _ 159 rfl 164 3 keyedP Tryd.underlying159 (plainElem Tryd.prog 3) m n D rfl h1.drew.own hn _ _ _ rfl rfl (keyP hcw how) _ _ (plainElem_int Tryd.underlying3 (mx_i64 hxw (tim_i64 hu)).wf) ?_
  intro w1 hown hturn
  have F := h1.drew.turned hturn hown
  have hO1 := hO.drew.turned hturn (by simp)
  clear h1 hO hrun
  go_wp2
  go_ret
  exact ⟨rfl, F, hO1⟩

set_option maxRecDepth 100000 in
theorem robj_bad (t : Nat) (c o u : Int) (w : World) (h : (cliB c && objB o && timB u) = false) :
    Calls Tryd.prog 39 #[tp t, .int .i64 c, .int .i64 o, .int .i64 u] w fun e w' => e = .returned (.int .i64 2) ∧ w' = w := by
  cases hc : cliB c with
  | false =>
    clear h
    have hc' : inB c 0 3 = false := hc
    go_enter Tryd.func39, Tryd.ntmps39
    go_wp2_with (first | (go_at_call 60; refine (in_any _ _ _ _).mono ?_; rintro x w' ⟨rfl, rfl⟩))
    go_ret
    exact ⟨rfl, rfl⟩
  | true =>
    have hc' : inB c 0 3 = true := hc
    cases ho : objB o with
    | false =>
      clear h
      have ho' : inB o 0 7 = false := ho
      go_enter Tryd.func39, Tryd.ntmps39
      go_wp2_with (first | (go_at_call 60; refine (in_any _ _ _ _).mono ?_; rintro x w' ⟨rfl, rfl⟩))
      go_ret
      exact ⟨rfl, rfl⟩
    | true =>
      rw [hc, ho, Bool.true_and, Bool.true_and] at h
      have ho' : inB o 0 7 = true := ho
      have hu' : inB u 0 1099511627776 = false := h
      go_enter Tryd.func39, Tryd.ntmps39
      go_wp2_with (first | (go_at_call 60; refine (in_any _ _ _ _).mono ?_; rintro x w' ⟨rfl, rfl⟩))
      go_ret
      exact ⟨rfl, rfl⟩

set_option maxRecDepth 100000 in
theorem robj_ok (r a b d n : Nat) (c o u : Int) (D Dv Ds : Dat) (x : Int) (w : World) (h : RefIs w r a b d D Dv Ds n) (hn : n < 9223372036854775807) (hc : cliB c = true) (ho : objB o = true) (hu : timB u = true) (hx : D.atKey (kk c o) (num 0) = num x) :
    Calls Tryd.prog 39 #[tp r, .int .i64 c, .int .i64 o, .int .i64 u] w fun e w' => e = .returned (.int .i64 0) ∧ RefIs w' r a b d (if (!Maps.has D (kk c o) || decide (x < u)) then D.put (kk c o) (num u) else D) Dv Ds (n + 1) ∧ Ob [a] w w' := by
  have hc' : inB c 0 3 = true := hc
  have ho' : inB o 0 7 = true := ho
  have hu' : inB u 0 1099511627776 = true := hu
  have hv := h.obj
  have hcw := cli_i64 hc
  have how := obj_i64 ho
  obtain ⟨_, hrun, hxw⟩ := own_int (t := 99) h.ownO keyedA Tryd.underlying99 (keyA hcw how) hx
  obtain ⟨hb, ehb⟩ : ∃ hb, Maps.has D (kk c o) = hb := ⟨_, rfl⟩
  rw [ehb] at hrun ⊢
  by_cases hlt : x < u
  · have e1 : (!hb || decide (x < u)) = true := by simp [hlt]
    rw [e1, if_pos rfl]
    clear e1
    cases hb with
    | false =>
      go_enter Tryd.func39, Tryd.ntmps39
      go_wp2_with (first | (go_at_call 60; refine (in_any _ _ _ _).mono ?_; rintro x w' ⟨rfl, rfl⟩) | (at_mapUpdate; refine wpList_mapUpdate_in _ rfl _ _ _ 99 rfl 103 3 keyedA Tryd.underlying99 (plainElem Tryd.prog 3) a n D rfl h.ownO hn _ _ _ rfl rfl (keyA hcw how) _ _ (plainElem_int Tryd.underlying3 (tim_i64 hu).wf) ?_; intro w1 hown hturn))
      go_ret
      exact ⟨rfl, h.turnO (Nat.le_succ n) hturn hown, (Ob.refl _ _).turned hturn (by simp)⟩
    | true =>
      go_enter Tryd.func39, Tryd.ntmps39
      go_wp2_with (first | (go_at_call 60; refine (in_any _ _ _ _).mono ?_; rintro x w' ⟨rfl, rfl⟩) | (at_mapUpdate; refine wpList_mapUpdate_in _ rfl _ _ _ 99 rfl 103 3 keyedA Tryd.underlying99 (plainElem Tryd.prog 3) a n D rfl h.ownO hn _ _ _ rfl rfl (keyA hcw how) _ _ (plainElem_int Tryd.underlying3 (tim_i64 hu).wf) ?_; intro w1 hown hturn))
      go_ret
      exact ⟨rfl, h.turnO (Nat.le_succ n) hturn hown, (Ob.refl _ _).turned hturn (by simp)⟩
  · have e2 : decide (x < u) = false := decide_eq_false hlt
    cases hb with
    | false =>
      rw [e2, Bool.not_false, Bool.true_or, if_pos rfl]
      clear e2
      go_enter Tryd.func39, Tryd.ntmps39
      go_wp2_with (first | (go_at_call 60; refine (in_any _ _ _ _).mono ?_; rintro x w' ⟨rfl, rfl⟩) | (at_mapUpdate; refine wpList_mapUpdate_in _ rfl _ _ _ 99 rfl 103 3 keyedA Tryd.underlying99 (plainElem Tryd.prog 3) a n D rfl h.ownO hn _ _ _ rfl rfl (keyA hcw how) _ _ (plainElem_int Tryd.underlying3 (tim_i64 hu).wf) ?_; intro w1 hown hturn))
      go_ret
      exact ⟨rfl, h.turnO (Nat.le_succ n) hturn hown, (Ob.refl _ _).turned hturn (by simp)⟩
    | true =>
      rw [e2, Bool.not_true, Bool.false_or, if_neg (by simp)]
      go_enter Tryd.func39, Tryd.ntmps39
      go_wp2_with (first | (go_at_call 60; refine (in_any _ _ _ _).mono ?_; rintro x w' ⟨rfl, rfl⟩) | (at_mapUpdate; refine wpList_mapUpdate_in _ rfl _ _ _ 99 rfl 103 3 keyedA Tryd.underlying99 (plainElem Tryd.prog 3) a n D rfl h.ownO hn _ _ _ rfl rfl (keyA hcw how) _ _ (plainElem_int Tryd.underlying3 (tim_i64 hu).wf) ?_; intro w1 hown hturn))
      go_ret
      exact ⟨rfl, h.mono (Nat.le_succ n), Ob.refl _ _⟩
end Go.Proofs.YtbebfliimjjohaaDoor.Lease
