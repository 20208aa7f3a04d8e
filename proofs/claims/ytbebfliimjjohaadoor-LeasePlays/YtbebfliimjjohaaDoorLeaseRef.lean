/-
  Contracts of the document's own table over the turned program: Object, Volume.
-/
import Derived.Test.YtbebfliimjjohaaDoorLeaseVol
namespace Go.Proofs.YtbebfliimjjohaaDoor.Lease
open Go.RowKit Go.Maps
open Num (inB)

theorem cli_in (c : Int) : inB c 0 3 = cliB c := rfl
theorem obj_in (c : Int) : inB c 0 7 = objB c := rfl
theorem tim_in (c : Int) : inB c 0 1099511627776 = timB c := rfl

set_option maxRecDepth 100000 in
theorem rvol_bad (r : Nat) (c u : Int) (w : World) (h : (cliB c && timB u) = false) :
    Calls Tryd.prog 41 #[tp r, .int .i64 c, .int .i64 u] w fun e w' => e = .returned (.int .i64 2) ∧ w' = w := by
  cases hc : cliB c with
  | false =>
    clear h
    have hc' : inB c 0 3 = false := hc
    go_enter Tryd.func41, Tryd.ntmps41
    go_wp2_with (first | (go_at_call 60; refine (in_any _ _ _ _).mono ?_; rintro x w' ⟨rfl, rfl⟩))
    go_ret
    exact ⟨rfl, rfl⟩
  | true =>
    rw [hc, Bool.true_and] at h
    have hc' : inB c 0 3 = true := hc
    have hu' : inB u 0 1099511627776 = false := h
    go_enter Tryd.func41, Tryd.ntmps41
    go_wp2_with (first | (go_at_call 60; refine (in_any _ _ _ _).mono ?_; rintro x w' ⟨rfl, rfl⟩))
    go_ret
    exact ⟨rfl, rfl⟩

set_option maxRecDepth 100000 in
theorem rvol_ok (r a b d n : Nat) (c u : Int) (D Dv Ds : Dat) (x : Int) (w : World) (h : RefIs w r a b d D Dv Ds n) (hn : n < 9223372036854775807) (hc : cliB c = true) (hu : timB u = true) (hx : Dv.atKey (.int .i64 c) (num 0) = num x) :
    Calls Tryd.prog 41 #[tp r, .int .i64 c, .int .i64 u] w fun e w' => e = .returned (.int .i64 0) ∧ RefIs w' r a b d D (Dv.put (.int .i64 c) (num (mx x u))) Ds (n + 1) ∧ Ob [b] w w' := by
  have hc' : inB c 0 3 = true := hc
  have hu' : inB u 0 1099511627776 = true := hu
  have hv := h.vol
  obtain ⟨y, hrun, hat, hy⟩ := World.ownsMap.lookup_int (w := w.drew) (t := 100) h.drew.ownV keyedI Tryd.underlying100 Tryd.underlying3 (zeroI _) (keyI (cli_i64 hc))
  rw [hx] at hat
  obtain rfl : x = y := by simpa [num] using hat
  go_enter Tryd.func41, Tryd.ntmps41
  go_wp2_with (first | (go_at_call 60; refine (in_any _ _ _ _).mono ?_; rintro x w' ⟨rfl, rfl⟩))
  have hrun1 : Sem.run Tryd.prog (Instr.lookup 100 (Value.map (some b)) (Value.int IntKind.i64 c) false) { w' with drawn := w'.drawn + 1 } = Result.ok (Value.int IntKind.i64 x) { w' with drawn := w'.drawn + 1 } := hrun
  clear hrun
  go_still_tail 13, (by kernel_rfl)
  refine wpStill_lookup rfl rfl rfl rfl hrun1 ?_
  repeat still_step
  refine wpStill_nil ?_
  generalize hg : (if x < u then u else x) = g
  obtain rfl : mx x u = g := hg
  refine wpList_mapUpdate_in _ rfl _ _ _ 100 rfl 3 3 keyedI Tryd.underlying100 (plainElem Tryd.prog 3) b n Dv rfl h.drew.ownV hn _ _ _ rfl rfl (keyI (cli_i64 hc)) _ _ (plainElem_int Tryd.underlying3 (mx_i64 (I64.of_wf hy) (tim_i64 hu)).wf) ?_
  intro w1 hown hturn
  have F := h.drew.turnV (Nat.le_succ n) hturn hown
  go_wp2
  go_ret
  exact ⟨rfl, F, (Ob.refl _ _).drew.turned hturn (by simp)⟩
end Go.Proofs.YtbebfliimjjohaaDoor.Lease
