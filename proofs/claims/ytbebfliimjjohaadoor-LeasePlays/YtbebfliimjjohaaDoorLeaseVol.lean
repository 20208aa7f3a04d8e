/-
  Contracts of Volume, Leans, Session, Many of both tables over the turned program.
-/
import Derived.Test.YtbebfliimjjohaaDoorLeaseIs
namespace Go.Proofs.YtbebfliimjjohaaDoor.Lease
open Go.RowKit Go.Maps
open Num (inB)

abbrev tp (t : Nat) : Value := .pointer (some ⟨t, 0, none⟩)

/-- A look-up among operations that turn nothing. -/
theorem wpStill_lookup {P : Program} {ops : Array Oper} {w : World} {Q : Act → Prop} {a : Act} {o : Oper} {rest : List Oper} {t : TypeId} {m x : Operand} {c : Bool} {mv xv v : Value} (hg : o.guard = none) (hop : o.op = Op.lookup t m x c) (hm : a.eval m = mv) (hx : a.eval x = xv)
    (hrun : (Instr.lookup t mv xv c).run P w = .ok v w) (h : wpStill P ops w Q rest (a.put o.dst v)) : wpStill P ops w Q (o :: rest) a := by
  refine wpStill_step (fun K hK => ?_)
  simp [Region.wanted, hg, Oper.still, execOp, hop, hm, hx, hrun, Result.andThen, Oper.stillUpon]
  exact hK _ h
theorem own_int {w : World} {k t : TypeId} {b n : Nat} {D : Dat} {key : Value} {kl : Lit} {x : Int} (h : w.ownsMap Tryd.prog k (plainElem Tryd.prog 3) b n D) (K : Keyed Tryd.prog k) (ht : Tryd.prog.underlying t = some (.map k 3)) (hk : keyOf Tryd.prog k key = some kl) (hx : D.atKey kl (num 0) = num x) :
    (Instr.lookup t (.map (some b)) key false).run Tryd.prog w = .ok (.int .i64 x) w ∧ (Instr.lookup t (.map (some b)) key true).run Tryd.prog w = .ok (.tuple #[.int .i64 x, .bool (Maps.has D kl)]) w ∧ I64 x := by
  obtain ⟨y, hrun, hat, hy⟩ := h.lookup_int K ht Tryd.underlying3 (zeroI _) hk
  rw [hx] at hat
  obtain rfl : x = y := by simpa [num] using hat
  obtain ⟨v, ps, hr2, hv⟩ := h.look_ok K ht (zeroI _) (plainElem_int (H := Unit) Tryd.underlying3 (a := 0) (by decide)) hk
  obtain ⟨z, rfl, hz, _⟩ := plainElem_int_inv Tryd.underlying3 hv
  have e := (congrArg Prod.fst hz).symm.trans hx
  obtain rfl : z = x := by simpa [num] using e
  exact ⟨hrun, hr2, I64.of_wf hy⟩
theorem own_num {w : World} {k t : TypeId} {b n : Nat} {D : Dat} {key : Value} {kl : Lit} (h : w.ownsMap Tryd.prog k (plainElem Tryd.prog 3) b n D) (K : Keyed Tryd.prog k) (ht : Tryd.prog.underlying t = some (.map k 3)) (hk : keyOf Tryd.prog k key = some kl) : ∃ x, D.atKey kl (num 0) = num x := by
  obtain ⟨y, _, hat, _⟩ := h.lookup_int K ht Tryd.underlying3 (zeroI _) hk
  exact ⟨y, hat⟩
/-- The greater one. -/
def mx (a b : Int) : Int := if a < b then b else a
theorem mx_i64 {a b : Int} (h : I64 a) (k : I64 b) : I64 (mx a b) := by
  unfold mx
  split <;> assumption
theorem tim_i64 {u : Int} (h : timB u = true) : I64 u := by have := timB_true h; exact ⟨by omega, by omega⟩
theorem cli_i64 {u : Int} (h : cliB u = true) : I64 u := by have := cliB_true h; exact ⟨by omega, by omega⟩
theorem obj_i64 {u : Int} (h : objB u = true) : I64 u := by have := objB_true h; exact ⟨by omega, by omega⟩
theorem TabIs.drew {w : World} {t m n : Nat} {D : Dat} {v s : Int → Int} (h : TabIs w t m D v s n) : TabIs w.drew t m D v s n := ⟨h.obj, h.vol, h.ses, h.free, h.own, h.i64⟩
theorem RefIs.drew {w : World} {r a b c n : Nat} {D Dv Ds : Dat} (h : RefIs w r a b c D Dv Ds n) : RefIs w.drew r a b c D Dv Ds n := ⟨h.obj, h.vol, h.ses, h.ownO, h.ownV, h.ownS, h.ab, h.ac, h.bc⟩

set_option maxRecDepth 100000 in
theorem vol_bad (t : Nat) (c u : Int) (w : World) (h : (cliB c && timB u) = false) :
    Calls Tryd.prog 40 #[tp t, .int .i64 c, .int .i64 u] w fun e w' => e = .returned (.iface 22 (.int .i64 2)) ∧ w' = w := by
  cases hc : cliB c with
  | false =>
    clear h
    go_enter Tryd.func40, Tryd.ntmps40
    go_wp2_with (first | (go_at_call 79; refine (cli_any _ _).mono ?_; rintro x w' ⟨rfl, rfl⟩) | (go_at_call 81; refine (tim_any _ _).mono ?_; rintro x w' ⟨rfl, rfl⟩))
    go_ret
    exact ⟨rfl, rfl⟩
  | true =>
    rw [hc, Bool.true_and] at h
    go_enter Tryd.func40, Tryd.ntmps40
    go_wp2_with (first | (go_at_call 79; refine (cli_any _ _).mono ?_; rintro x w' ⟨rfl, rfl⟩) | (go_at_call 81; refine (tim_any _ _).mono ?_; rintro x w' ⟨rfl, rfl⟩))
    go_ret
    exact ⟨rfl, rfl⟩

set_option maxRecDepth 100000 in
theorem vol_ok (t m n c : Nat) (u : Int) (D : Dat) (v s : Int → Int) (w : World) (h : TabIs w t m D v s n) (hc : c < 4) (hu : timB u = true) :
    Calls Tryd.prog 40 #[tp t, .int .i64 c, .int .i64 u] w fun e w' => e = .returned .nilIface ∧ TabIs w' t m D (upd v c (mx (v c) u)) s n ∧ Ob [t] w w' := by
  have hcl : cliB c = true := Num.inB_true (by omega) (by omega)
  have hv := h.vol c hc
  have hf := h.free (1 + c)
  have hc0 : (0 : Int) ≤ c := by omega
  have hc4 : (c : Int) < 4 := by omega
  go_enter Tryd.func40, Tryd.ntmps40
  go_wp2_with (first | (go_at_call 79; refine (cli_any _ _).mono ?_; rintro x w' ⟨rfl, rfl⟩) | (go_at_call 81; refine (tim_any _ _).mono ?_; rintro x w' ⟨rfl, rfl⟩))
  go_still_tail 13, (by kernel_rfl)
  generalize hg : (if v (c : Int) < u then u else v (c : Int)) = g
  obtain rfl : mx (v c) u = g := hg
  go_wp2
  go_ret
  exact ⟨rfl, h.drew.setVol hc (mx_i64 ((h.i64 _).1) (tim_i64 hu)), (Ob.refl _ _).drew.setCell (by simp) _⟩

set_option maxRecDepth 100000 in
theorem ses_bad (t : Nat) (c : Int) (w : World) (h : cliB c = false) :
    Calls Tryd.prog 45 #[tp t, .int .i64 c] w fun e w' => e = .returned (.tuple #[.int .i64 0, .iface 22 (.int .i64 2)]) ∧ w' = w := by
  go_enter Tryd.func45, Tryd.ntmps45
  go_wp2_with (first | (go_at_call 79; refine (cli_any _ _).mono ?_; rintro x w' ⟨rfl, rfl⟩))
  go_ret2
  exact ⟨rfl, rfl⟩
set_option maxRecDepth 100000 in
theorem ses_ok (t m n c : Nat) (D : Dat) (v s : Int → Int) (w : World) (h : TabIs w t m D v s n) (hc : c < 4) :
    Calls Tryd.prog 45 #[tp t, .int .i64 c] w fun e w' => e = .returned (.tuple #[.int .i64 (s c), .nilIface]) ∧ w' = w := by
  have hcl : cliB c = true := Num.inB_true (by omega) (by omega)
  have hv := h.ses c hc
  have hc0 : (0 : Int) ≤ c := by omega
  have hc4 : (c : Int) < 4 := by omega
  clear h
  go_enter Tryd.func45, Tryd.ntmps45
  go_wp2_with (first | (go_at_call 79; refine (cli_any _ _).mono ?_; rintro x w' ⟨rfl, rfl⟩))
  go_ret2
  exact ⟨rfl, rfl⟩

set_option maxRecDepth 100000 in
theorem leans_bad (t : Nat) (c now : Int) (w : World) (h : cliB c = false) :
    Calls Tryd.prog 46 #[tp t, .int .i64 c, .int .i64 now] w fun e w' => e = .returned (.bool false) ∧ w' = w := by
  go_enter Tryd.func46, Tryd.ntmps46
  go_wp2_with (first | (go_at_call 79; refine (cli_any _ _).mono ?_; rintro x w' ⟨rfl, rfl⟩))
  go_ret
  exact ⟨rfl, rfl⟩
set_option maxRecDepth 100000 in
theorem leans_ok (t m n c : Nat) (now : Int) (D : Dat) (v s : Int → Int) (w : World) (h : TabIs w t m D v s n) (hc : c < 4) :
    Calls Tryd.prog 46 #[tp t, .int .i64 c, .int .i64 now] w fun e w' => e = .returned (.bool (decide (now < v c))) ∧ w' = w := by
  have hcl : cliB c = true := Num.inB_true (by omega) (by omega)
  have hv := h.vol c hc
  have hc0 : (0 : Int) ≤ c := by omega
  have hc4 : (c : Int) < 4 := by omega
  clear h
  go_enter Tryd.func46, Tryd.ntmps46
  go_wp2_with (first | (go_at_call 79; refine (cli_any _ _).mono ?_; rintro x w' ⟨rfl, rfl⟩))
  go_ret
  exact ⟨rfl, rfl⟩
set_option maxRecDepth 100000 in
theorem many_any (t m n : Nat) (D : Dat) (v s : Int → Int) (w : World) (h : TabIs w t m D v s n) :
    Calls Tryd.prog 50 #[tp t] w fun e w' => e = .returned (.int .i64 (Maps.size D)) ∧ w' = w := by
  have hv := h.obj
  have ho := h.own
  clear h
  go_enter Tryd.func50, Tryd.ntmps50
  go_wp2_with (first | (at_len; refine wpList_len_own _ rfl _ 159 rfl 164 3 Tryd.underlying159 _ m n D rfl ho ?_))
  go_ret
  exact ⟨rfl, rfl⟩
end Go.Proofs.YtbebfliimjjohaaDoor.Lease
