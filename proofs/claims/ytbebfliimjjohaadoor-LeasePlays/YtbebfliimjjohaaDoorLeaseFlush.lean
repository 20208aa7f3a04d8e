/-
  Contracts of New, Drop, Flush of both tables over the turned program.
-/
import Derived.Test.YtbebfliimjjohaaDoorLeaseHold
namespace Go.Proofs.YtbebfliimjjohaaDoor.Lease
open Go.RowKit Go.Maps
open Num (inB)

set_option maxRecDepth 100000 in
theorem drop_any (t m n : Nat) (c o : Int) (D : Dat) (v s : Int → Int) (w : World) (h : TabIs w t m D v s n) (hc : I64 c) (ho : I64 o) :
    Calls Tryd.prog 42 #[tp t, .int .i64 c, .int .i64 o] w fun e w' => e = .returned (.tuple #[]) ∧ TabIs w' t m (D.del (kk c o)) v s n ∧ Ob [m] w w' := by
  have hv := h.obj
  go_enter Tryd.func42, Tryd.ntmps42
  go_wp2_with (at_delete; refine wpList_delete_own _ rfl _ _ 159 164 rfl 3 keyedP Tryd.underlying159 (plainElem Tryd.prog 3) m n D rfl h.own _ _ rfl (keyP hc ho) ?_; intro w1 hown hturn)
  have F := h.turned hturn hown
  have hO := (Ob.refl [m] w).turned hturn (by simp)
  clear h hv hown hturn
  go_end0
  exact ⟨rfl, F, hO⟩

set_option maxRecDepth 100000 in
theorem flush_bad (t : Nat) (c : Int) (w : World) (h : cliB c = false) :
    Calls Tryd.prog 43 #[tp t, .int .i64 c] w fun e w' => e = .returned (.iface 22 (.int .i64 2)) ∧ w' = w := by
  go_enter Tryd.func43, Tryd.ntmps43
  go_wp2_with (first | (go_at_call 79; refine (cli_any _ _).mono ?_; rintro x w' ⟨rfl, rfl⟩))
  go_ret
  exact ⟨rfl, rfl⟩
set_option maxRecDepth 100000 in
theorem rflush_bad (t : Nat) (c : Int) (w : World) (h : cliB c = false) :
    Calls Tryd.prog 44 #[tp t, .int .i64 c] w fun e w' => e = .returned (.int .i64 2) ∧ w' = w := by
  have h' : inB c 0 3 = false := h
  go_enter Tryd.func44, Tryd.ntmps44
  go_wp2_with (first | (go_at_call 60; refine (in_any _ _ _ _).mono ?_; rintro x w' ⟨rfl, rfl⟩))
  go_ret
  exact ⟨rfl, rfl⟩

set_option maxRecDepth 100000 in
theorem flush_ok (t m n c : Nat) (D : Dat) (v s : Int → Int) (w : World) (h : TabIs w t m D v s n) (hc : c < 4) (hs : s c < 9223372036854775807) :
    Calls Tryd.prog 43 #[tp t, .int .i64 c] w fun e w' => e = .returned .nilIface ∧ TabIs w' t m (dels D c 8) (upd v c 0) (upd s c (s c + 1)) n ∧ Ob [t, m] w w' := by
  have hcl : cliB c = true := Num.inB_true (by omega) (by omega)
  have hcw := cli_i64 hcl
  have hc0 : (0 : Int) ≤ c := by omega
  have hc4 : (c : Int) < 4 := by omega
  go_enter Tryd.func43, Tryd.ntmps43
  go_wp2_with (first | (go_at_call 79; refine (cli_any _ _).mono ?_; rintro x w' ⟨rfl, rfl⟩))
  go_loopw [10] (fun i wr => ∃ k : Nat, k ≤ 8 ∧ i = .int .i64 k ∧ TabIs wr t m (dels D c k) v s n ∧ Ob [t, m] w' wr) (fun i _ => 8 - (intOf i).toNat)
  case atStart => exact ⟨0, by omega, rfl, h, Ob.refl _ _⟩
  case round =>
    obtain ⟨k, hk, rfl, hr, hO⟩ := hrel
    clear h
    by_cases hk8 : k < 8
    · have hk' : (k : Int) < 8 := by omega
      go_wp2_with fail
      refine (drop_any t m n c k _ v s _ hr hcw ⟨by omega, by omega⟩).mono ?_
      rintro e w1 ⟨rfl, hr1, hO1⟩
      have hO2 := hO.trans (hO1.mono (by simp))
      clear hr hO hO1
      go_wp2
      go_roundw
      case rel => exact ⟨k + 1, by omega, by go_num, hr1, hO2⟩
      case measure => simp [intOf]; omega
    · obtain rfl : k = 8 := by omega
      have c1 := hr.vol c hc
      have f1 := hr.free (1 + c)
      have F := hr.setVol hc (x := 0) ⟨by omega, by omega⟩
      have hO2 := hO.setCell (q := t) (i := 1 + c) (by simp) (.int .i64 0)
      go_wp2_with fail
      clear hO hr f1 c1
      generalize wr.setCell ⟨t, 1 + c, none⟩ (.int .i64 0) = w2 at *
      have c2 := F.ses c hc
      have f2 := F.free (5 + c)
      have hsw := (F.i64 c).2
      have hs0 : -9223372036854775808 ≤ s c := hsw.1
      have G := F.drew.setSes hc (x := s c + 1) ⟨by omega, by omega⟩
      have hO3 := hO2.drew.setCell (q := t) (i := 5 + c) (by simp) (.int .i64 (s c + 1))
      clear hO2 F hsw
      go_still_tail 10, (by kernel_rfl)
      go_wp2
      go_ret
      exact ⟨rfl, G, hO3⟩

set_option maxRecDepth 100000 in
theorem rflush_ok (r a b d n : Nat) (c : Int) (D Dv Ds : Dat) (x : Int) (w : World) (h : RefIs w r a b d D Dv Ds n) (hn : n < 9223372036854775807) (hc : cliB c = true) (hx : Ds.atKey (.int .i64 c) (num 0) = num x) (hx1 : x < 9223372036854775807) :
    Calls Tryd.prog 44 #[tp r, .int .i64 c] w fun e w' => e = .returned (.int .i64 0) ∧ RefIs w' r a b d (dels D c 8) (Dv.del (.int .i64 c)) (Ds.put (.int .i64 c) (num (x + 1))) (n + 1) ∧ Ob [a, b, d] w w' := by
  have hc' : inB c 0 3 = true := hc
  have hcw := cli_i64 hc
  go_enter Tryd.func44, Tryd.ntmps44
  go_wp2_with (first | (go_at_call 60; refine (in_any _ _ _ _).mono ?_; rintro x w' ⟨rfl, rfl⟩))
  go_loopw [9] (fun i wr => ∃ k : Nat, k ≤ 8 ∧ i = .int .i64 k ∧ RefIs wr r a b d (dels D c k) Dv Ds n ∧ Ob [a, b, d] w' wr) (fun i _ => 8 - (intOf i).toNat)
  case atStart => exact ⟨0, by omega, rfl, h, Ob.refl _ _⟩
  case round =>
    obtain ⟨k, hk, rfl, hr, hO⟩ := hrel
    clear h
    by_cases hk8 : k < 8
    · have hk' : (k : Int) < 8 := by omega
      have hv := hr.obj
      have hki : I64 (k : Int) := ⟨by omega, by omega⟩
      go_wp2_with (at_delete; refine wpList_delete_own _ rfl _ _ 99 103 rfl 3 keyedA Tryd.underlying99 (plainElem Tryd.prog 3) a n (dels D c k) rfl hr.ownO _ _ rfl (keyA hcw hki) ?_; intro w1 hown hturn)
      have F := hr.turnO (Nat.le_refl n) hturn hown
      have hO2 := hO.turned hturn (by simp)
      clear hr hO hv hown hturn
      go_wp2
      go_roundw
      case rel => exact ⟨k + 1, by omega, by go_num, F, hO2⟩
      case measure => simp [intOf]; omega
    · obtain rfl : k = 8 := by omega
      have hv := hr.vol
      go_wp2_with (first | (at_delete; refine wpList_delete_own _ rfl _ _ 100 3 rfl 3 keyedI Tryd.underlying100 (plainElem Tryd.prog 3) b n Dv rfl hr.ownV _ _ rfl (keyI hcw) ?_; intro w1 hown hturn; have F := hr.turnV (Nat.le_refl n) hturn hown; have hz1 := F.ses; obtain ⟨hrun, _, hxw⟩ := own_int (t := 100) F.ownS keyedI Tryd.underlying100 (keyI hcw) hx; have hx0 : -9223372036854775808 ≤ x := hxw.1) | (at_mapUpdate; refine wpList_mapUpdate_in _ rfl _ _ _ 100 rfl 3 3 keyedI Tryd.underlying100 (plainElem Tryd.prog 3) d n Ds rfl F.ownS hn _ _ _ rfl rfl (keyI hcw) _ _ (plainElem_int Tryd.underlying3 (a := x + 1) (I64.wf ⟨by omega, by omega⟩)) ?_; intro w2 hown2 hturn2))
      have hO2 := (hO.turned hturn (by simp)).turned hturn2 (by simp)
      have G := F.turnS (Nat.le_succ n) hturn2 hown2
      go_ret
      exact ⟨rfl, G, hO2⟩
end Go.Proofs.YtbebfliimjjohaaDoor.Lease
