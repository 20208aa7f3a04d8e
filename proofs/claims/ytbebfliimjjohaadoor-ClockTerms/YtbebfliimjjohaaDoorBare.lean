/-
  What api.Tell, plain.Bare and tenurelaw.bare answer where the error is nil or an api.Errno: each as a contract of its call over the turned program.
-/
import Derived.Test.YtbebfliimjjohaaDoorAs
namespace Go.Proofs.YtbebfliimjjohaaDoor.Bare
open Go.RowKit Go.Extern.Stop Go.Stop Go.Extern

/-- api.Tell(nil) is OK. -/
theorem tell_nil (w : World) : Calls Tryd.prog 84 #[.nilIface] w fun e w' => e = .returned (.int .i64 0) ∧ w' = w := by
  go_enter Tryd.func84, Tryd.ntmps84
  go_wp2
  go_ret
  exact ⟨rfl, rfl⟩

set_option maxHeartbeats 1000000 in
/-- api.Tell of an Errno is that Errno; nothing that was there turns. -/
theorem tell_errno (n : Int) (w : World) (hg : Laid w) : Calls Tryd.prog 84 #[.iface 22 (.int .i64 n)] w fun e w' => e = .returned (.int .i64 n) ∧ Below w.heap.size w w' := by
  unfold Laid at hg
  have hlt : 0 < w.heap.size := by
    rcases Nat.lt_or_ge 0 w.heap.size with h | h
    · exact h
    · simp [World.cell?, Array.getElem?_eq_none h] at hg
  have hgA : (w.alloc (.cells #[.int .i64 0] 22)).cell? ⟨0, 0, none⟩ = some (.iface 203 (.agg #[.pointer (some ⟨1, 26, none⟩)])) := by
    rw [World.cell?_alloc_lt _ _ ⟨0, 0, none⟩ hlt]; exact hg
  have htA : (w.alloc (.cells #[.int .i64 0] 22)).cell? ⟨w.heap.size, 0, none⟩ = some (.int .i64 0) := by simp
  have hfA : (w.alloc (.cells #[.int .i64 0] 22)).frozen? ⟨w.heap.size, 0, none⟩ = false := by simp
  go_enter Tryd.func84, Tryd.ntmps84
  go_wp2_with (go_at_call 93; refine (as_hit n _ (.int .i64 0) _ hgA htA hfA).mono ?_; rintro e w' ⟨rfl, rfl⟩)
  go_ret
  refine ⟨rfl, ?_⟩
  exact (((((Below.refl _ _).alloc (Nat.le_refl _) _).alloc (by first | (simp; done) | (simp; omega)) _).alloc (by first | (simp; done) | (simp; omega)) _).alloc (by first | (simp; done) | (simp; omega)) _).alloc (by first | (simp; done) | (simp; omega)) _

theorem noAt (n : Int) (x : TypeId) (w : World) : (Instr.typeAssert (.iface 22 (.int .i64 n)) x 171 true).run Tryd.prog w = .ok (.tuple #[.pointer none, .bool false]) w := by kernel_rfl
theorem noUnwrap (v : Value) (x : TypeId) (w : World) : (Instr.typeAssert (.iface 22 v) x 173 true).run Tryd.prog w = .ok (.tuple #[.nilIface, .bool false]) w :=
  run_typeAssert_lacksB Tryd.underlying173 (by kernel_rfl) (by kernel_rfl) v x w

/-- plain.Bare(nil) is OK, without a place. -/
theorem bareOf_nil (w : World) : Calls Tryd.prog 62 #[.nilIface] w fun e w' => e = .returned (.tuple #[.int .i64 0, .bool true]) ∧ w' = w := by
  go_enter Tryd.func62, Tryd.ntmps62
  go_wp2_with (go_at_call 84; refine (tell_nil _).mono ?_; rintro e w' ⟨rfl, rfl⟩)
  refine wp_loop_rounds 1 ?_
  rw [rounds_succ]
  go_wp2
  go_ret2
  exact ⟨rfl, rfl⟩

set_option maxHeartbeats 1000000 in
/-- plain.Bare of an Errno is that Errno, without a place. -/
theorem bareOf_errno (n : Int) (w : World) (hg : Laid w) : Calls Tryd.prog 62 #[.iface 22 (.int .i64 n)] w fun e w' => e = .returned (.tuple #[.int .i64 n, .bool true]) ∧ Below w.heap.size w w' := by
  have nA := noAt
  have nU := noUnwrap
  go_enter Tryd.func62, Tryd.ntmps62
  go_wp2_with (go_at_call 84; refine (tell_errno n _ hg).mono ?_; rintro e w' ⟨rfl, hb⟩)
  refine wp_loop_rounds 1 ?_
  rw [rounds_succ]
  go_wp2
  go_ret2
  exact ⟨rfl, hb⟩

/-- tenurelaw.bare(nil, e): is e OK? -/
theorem bare_nil (c : Int) (w : World) : Calls Tryd.prog 14 #[.nilIface, .int .i64 c] w fun e w' => e = .returned (.bool (0 == c)) ∧ w' = w := by
  go_enter Tryd.func14, Tryd.ntmps14
  go_wp2_with (go_at_call 62; refine (bareOf_nil _).mono ?_; rintro e w' ⟨rfl, rfl⟩)
  go_ret
  exact ⟨rfl, rfl⟩

/-- tenurelaw.bare(n, e), n an Errno: is it e? -/
theorem bare_errno (n c : Int) (w : World) (hg : Laid w) : Calls Tryd.prog 14 #[.iface 22 (.int .i64 n), .int .i64 c] w fun e w' => e = .returned (.bool (n == c)) ∧ Below w.heap.size w w' := by
  go_enter Tryd.func14, Tryd.ntmps14
  go_wp2_with (go_at_call 62; refine (bareOf_errno n _ hg).mono ?_; rintro e w' ⟨rfl, hb⟩)
  go_ret
  exact ⟨rfl, hb⟩

/-- What was laid stays laid where nothing that was there turns. -/
theorem Laid.below {B : Nat} {w w' : World} (h : Laid w) (hb : Below B w w') (hB : 0 < B) : Laid w' := (hb.cell (p := ⟨0, 0, none⟩) hB).trans h
theorem Laid.size {w : World} (h : Laid w) : 0 < w.heap.size := by
  unfold Laid at h
  rcases Nat.lt_or_ge 0 w.heap.size with h' | h'
  · exact h'
  · simp [World.cell?, Array.getElem?_eq_none h'] at h
end Go.Proofs.YtbebfliimjjohaaDoor.Bare
