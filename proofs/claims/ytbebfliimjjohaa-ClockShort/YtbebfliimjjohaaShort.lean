/-
  For all whole numbers drift, term, gone, a and b the Go function tenurekeep.ClockShort, at the commit named beside this claim, returns true and leaves its arguments as they were.
  Conditions: none beside the row's own (the frame of the row's proof was written by the seat's proof-skeleton program; the walk and its contracts are ours).
-/
import Derived.Test.YtbebfliimjjohaaRows
import Derived.WalkKit
import Derived.ProofKit
import Derived.OpenShut
import Derived.WalkLawsBesides
import Derived.Test.YtbebfliimjjohaaClock
namespace Go.Proofs.Ytbebfliimjjohaa.clockShort
open Go.ChangeShapes Go.WideShapes Go.ChangeAt Go.RowKit
set_option linter.unusedVariables false

theorem own : ownKnob Try.prog.godebug = none := by kernel_rfl

/-! ### THE WALK: the Go text returns true. -/
set_option maxHeartbeats 1000000 in
theorem walk (a0 : Int) (a1 : Int) (a2 : Int) (a3 : Int) (a4 : Int) (w : World) :
    Calls Try.prog 3 #[.int .i64 a0, .int .i64 a1, .int .i64 a2, .int .i64 a3, .int .i64 a4] w fun e w' => e = .returned (.bool true) ∧ w' = w := by
  go_enter Try.func3, Try.ntmps3
  go_wp2_with fail
  refine (Clock.timed_true _).mono ?_
  rintro e w' ⟨rfl, rfl⟩
  go_wp2_with fail
  refine (Clock.pick_any _ _ _ (by omega) (by omega)).mono ?_
  rintro e w' ⟨d, hd0, hd1, rfl, rfl⟩
  go_wp2_with fail
  refine (Clock.pick_any _ _ _ (by omega) (by omega)).mono ?_
  rintro e w' ⟨t, ht0, ht1, rfl, rfl⟩
  go_wp2_with fail
  refine (Clock.pick_any _ _ _ (by omega) (by omega)).mono ?_
  rintro e w' ⟨g, hg0, hg1, rfl, rfl⟩
  obtain ⟨hp0, hp1⟩ := Plain.prod_bd (a := g) (b := 1000 - d) (A := 274877906944) (B := 1000) hg0 (by omega) (by omega) (by omega)
  obtain ⟨hq0, hq1⟩ := Plain.prod_bd (a := g) (b := 1000 + d) (A := 274877906944) (B := 1500) hg0 (by omega) (by omega) (by omega)
  have hlh := Plain.low_le_high hd0 hg0
  go_wp2_with fail
  have hL1 : g * (1000 - d) ≤ 1000 * ((g * (1000 - d) + 999) / 1000) := by omega
  have hL2 : 1000 * ((g * (1000 - d) + 999) / 1000 - 1) < g * (1000 - d) := by omega
  have hH1 : 1000 * (g * (1000 + d) / 1000) ≤ g * (1000 + d) := by omega
  have hH2 : g * (1000 + d) < 1000 * (g * (1000 + d) / 1000 + 1) := by omega
  generalize hL : (g * (1000 - d) + 999) / 1000 = L at *
  generalize hH : g * (1000 + d) / 1000 = T at *
  clear hL hH
  refine (Clock.pick_any _ _ _ (by omega) (by omega)).mono ?_
  rintro e w' ⟨x, hx0, hx1, rfl, rfl⟩
  go_wp2_with fail
  refine (Clock.pick_any _ _ _ (by omega) (by omega)).mono ?_
  rintro e w' ⟨y, hy0, hy1, rfl, rfl⟩
  go_wp2_with fail
  refine (Clock.short_any _ _ _ (by omega) (by omega) (by omega) (by omega)).mono ?_
  rintro e w' ⟨rfl, rfl⟩
  have hse : L + x ≤ t * (1000 - d) / (1000 + d) → L + y ≤ t := fun h => Plain.short_enough (g := g) hd0 (by omega) (by omega) (by omega) h
  generalize hN : t * (1000 - d) / (1000 + d) = N at *
  clear hN
  have hse' : N < L + x ∨ L + y ≤ t := by
    by_cases h : L + x ≤ N
    · exact Or.inr (hse h)
    · exact Or.inl (by omega)
  clear hse
  go_wp2_with fail
  refine (Clock.honest_yes _ _ _ _ (by omega) (by omega) (by omega) (by omega) (by omega) (by omega) (by omega) (by omega)).mono ?_
  rintro e w' ⟨rfl, rfl⟩
  go_wp2_with fail
  refine (Clock.honest_yes _ _ _ _ (by omega) (by omega) (by omega) (by omega) (by omega) (by omega) (by omega) (by omega)).mono ?_
  rintro e w' ⟨rfl, rfl⟩
  go_wp2_with fail
  refine (Clock.honest_above _ _ _ _ (by omega) (by omega) (by omega) (by omega) (by omega) (by omega) (by omega) (by omega)).mono ?_
  rintro e w' ⟨rfl, rfl⟩
  have hH : Hid (N < L + x ∨ L + y ≤ t) := hse'
  clear hse'
  by_cases hl0 : 0 < L
  · go_wp2_with fail
    refine (Clock.honest_below _ _ _ _ (by omega) (by omega) (by omega) (by omega) (by omega) (by omega) (by omega)).mono ?_
    rintro e w' ⟨rfl, rfl⟩
    by_cases hn : N < L + x
    · go_wp2
      go_ret
      exact ⟨rfl, rfl⟩
    · have hle : L + y ≤ t := hH.out.resolve_left hn
      go_wp2
      go_ret
      exact ⟨rfl, rfl⟩
  · by_cases hn : N < L + x
    · go_wp2
      go_ret
      exact ⟨rfl, rfl⟩
    · have hle : L + y ≤ t := hH.out.resolve_left hn
      go_wp2
      go_ret
      exact ⟨rfl, rfl⟩

/-! ### The row -/
set_option maxRecDepth 100000 in
theorem lifted (os : Os) (started : os.Started) (H : Type) (enc : TypeId × Value → H) :
    ReturnsInHanded {} Try.checked os 3 .any (Rows.clockShortSpec.pre6 enc Try.prog Try.f3 Rows.clockShortRow.domain false) (Rows.clockShortSpec.post enc Try.prog Try.f3 false true false false) := by
  refine returnsInHanded_of_change (C := Try.checked) own started (by kernel_rfl) Try.func3
    (ChangeSpec.witness6 (enc := enc) (C := Try.checked) false ⟨#[], #[.int .i64 0, .int .i64 0, .int .i64 0, .int .i64 0, .int .i64 0], []⟩ 8 (by kernel_rfl) (by kernel_rfl) (by kernel_rfl) (by kernel_rfl)) ?_
  intro W base args ds gs before hval0 hW hcnd _
  have hval : ∀ (j : Nat) t v, Try.f3.params[j]? = some t → args[j]? = some v → Value.okWide Try.prog W .any base t v := hval0
  have hW' := hW
  obtain ⟨p, q, hA0, hV, rfl, hfz, hnd⟩ := hW
  have hA : DataW.TrodAll enc Try.prog W 0 (fun _ => true) true Try.f3.params.toList args.toList ds p := hA0
  rw [Try.params3] at hA hval
  obtain ⟨v0, vs0, d0, ds0, p0, q0, hargs, rfl, rfl, h0, r0⟩ := trodAll_cons hA
  obtain ⟨v1, vs1, d1, ds1, p1, q1, rfl, rfl, rfl, h1, r1⟩ := trodAll_cons r0
  obtain ⟨v2, vs2, d2, ds2, p2, q2, rfl, rfl, rfl, h2, r2⟩ := trodAll_cons r1
  obtain ⟨v3, vs3, d3, ds3, p3, q3, rfl, rfl, rfl, h3, r3⟩ := trodAll_cons r2
  obtain ⟨v4, vs4, d4, ds4, p4, q4, rfl, rfl, rfl, h4, r4⟩ := trodAll_cons r3
  obtain ⟨rfl, rfl, rfl⟩ := trodAll_nil r4
  obtain rfl : args = #[v0, v1, v2, v3, v4] := by cases args; simp_all
  obtain ⟨rfl, rfl⟩ := trodVars_none hV
  obtain ⟨a0, rfl, rfl, rfl, w0⟩ := open_int Try.underlying3 (hval 0 3 v0 rfl rfl) h0
  obtain ⟨a1, rfl, rfl, rfl, w1⟩ := open_int Try.underlying3 (hval 1 3 v1 rfl rfl) h1
  obtain ⟨a2, rfl, rfl, rfl, w2⟩ := open_int Try.underlying3 (hval 2 3 v2 rfl rfl) h2
  obtain ⟨a3, rfl, rfl, rfl, w3⟩ := open_int Try.underlying3 (hval 3 3 v3 rfl rfl) h3
  obtain ⟨a4, rfl, rfl, rfl, w4⟩ := open_int Try.underlying3 (hval 4 3 v4 rfl rfl) h4
  clear hA0 hval0
  simp only [List.append_nil] at hW'
  refine (walk a0 a1 a2 a3 a4 W).mono fun e W' ⟨he, hw⟩ => ?_
  subst he
  have hg : Grown W W' := hw ▸ Grown.refl _
  exact ⟨_, rfl, post_of_same (pa := []) (pv := []) hW' (fun _ _ _ => (trodAll_cons_mk (shut_bool Try.underlying4 _) trodAll_mk0)) (fun sp _ => (trodAll_cons_mk (shut_int Try.underlying3 w0) (trodAll_cons_mk (shut_int Try.underlying3 w1) (trodAll_cons_mk (shut_int Try.underlying3 w2) (trodAll_cons_mk (shut_int Try.underlying3 w3) (trodAll_cons_mk (shut_int Try.underlying3 w4) trodAll_mk0)))))) (fun _ _ => rfl) rfl
    (hg.frame _) hg.2.1 (ok_one (by kernel_rfl) rfl (okWide_bool_mk Try.underlying4 _))⟩

theorem over : Rows.clockShortRow.holds Try.pinned (OpenSpec.ofChange Rows.clockShortSpec) :=
  OpenClaim.holds_of_wide 3 Try.f3 rfl rfl rfl rfl rfl rfl rfl ⟨rfl, rfl, rfl, rfl, rfl⟩ rfl rfl rfl rfl rfl (by kernel_rfl) Try.func3 (by kernel_rfl)
    (of_decide_eq_true (by kernel_rfl)) (by unfold Func.isWrapper; first | (rw [if_pos (by decide +kernel)]; kernel_rfl) | (rw [if_neg (by decide +kernel)]; exact ⟨rfl, rfl⟩))
    (fun os started H enc _ => lifted os started H enc)

end Go.Proofs.Ytbebfliimjjohaa.clockShort
namespace Go.Proofs.Ytbebfliimjjohaa

/-- The statement: ClockShort returns true whatever the input. -/
theorem clockShort_holds : Rows.ClockShortSaid :=
  clockShort.over
#print axioms clockShort_holds
end Go.Proofs.Ytbebfliimjjohaa
