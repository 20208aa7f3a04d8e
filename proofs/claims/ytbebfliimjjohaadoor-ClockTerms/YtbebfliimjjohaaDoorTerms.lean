/-
  For all whole numbers drift, a and b the Go function tenurelaw.ClockTerms returns true and turns nothing that was there, where errors.errorType is as the program's text lays it.
-/
import Derived.Test.YtbebfliimjjohaaDoorMore
import Derived.Test.YtbebfliimjjohaaDoorBare
namespace Go.Proofs.YtbebfliimjjohaaDoor.Terms
open Go.ChangeShapes Go.WideShapes Go.ChangeAt Go.RowKit
open Plain (inB honestB short)
open Clock (sumTo)

set_option maxHeartbeats 1000000 in
theorem walk_ok_ok (d a b : Int) (w : World) (hg : Bare.Laid w) (hd : inB d 0 500 = true) (ha : inB a 0 1099511627776 = true) (hb : inB b 0 1099511627776 = true) :
    Calls Tryd.prog 3 #[.int .i64 d, .int .i64 a, .int .i64 b] w fun e w' => e = .returned (.bool true) ∧ Below w.heap.size w w' := by
  go_enter Tryd.func3, Tryd.ntmps3
  go_wp2_with (first
    | (go_at_call 10; refine (Clock.refShort_ok d a _ hd ha).mono ?_; rintro e w' ⟨rfl, rfl⟩)
    | (go_at_call 11; refine (Clock.short_ok d a _ hd ha).mono ?_; rintro e w' ⟨rfl, rfl⟩)
    | (go_at_call 12; refine (Clock.refAdd_ok a b _ ha hb).mono ?_; rintro e w' ⟨rfl, rfl⟩)
    | (go_at_call 13; refine (Clock.add_ok a b _ ha hb).mono ?_; rintro e w' ⟨rfl, rfl⟩)
    | (go_at_call 14; refine (Bare.bare_nil 0 _).mono ?_; rintro e w' ⟨rfl, rfl⟩)
    | (go_at_call 15; refine (Clock.honest_any d a b _).mono ?_; rintro e w' ⟨rfl, rfl⟩)
    | (go_at_call 16; refine (Clock.refHonest_any d a b _).mono ?_; rintro e w' ⟨rfl, rfl⟩))
  go_ret
  exact ⟨rfl, Below.refl _ _⟩

set_option maxHeartbeats 1000000 in
theorem walk_ok_no (d a b : Int) (w : World) (hg : Bare.Laid w) (hd : inB d 0 500 = true) (ha : inB a 0 1099511627776 = true) (hb : inB b 0 1099511627776 = false) :
    Calls Tryd.prog 3 #[.int .i64 d, .int .i64 a, .int .i64 b] w fun e w' => e = .returned (.bool true) ∧ Below w.heap.size w w' := by
  have hz := hg.size
  go_enter Tryd.func3, Tryd.ntmps3
  go_wp2_with (first
    | (go_at_call 10; refine (Clock.refShort_ok d a _ hd ha).mono ?_; rintro e w' ⟨rfl, rfl⟩)
    | (go_at_call 11; refine (Clock.short_ok d a _ hd ha).mono ?_; rintro e w' ⟨rfl, rfl⟩)
    | (go_at_call 12; refine (Clock.refAdd_no a b _ (.inr hb)).mono ?_; rintro e w' ⟨rfl, rfl⟩)
    | (go_at_call 13; refine (Clock.add_no a b _ (.inr hb)).mono ?_; rintro e w' ⟨rfl, rfl⟩))
  refine (Bare.bare_nil 0 _).mono ?_
  rintro e w' ⟨rfl, rfl⟩
  go_wp2_with fail
  refine (Bare.bare_errno 2 2 _ hg).mono ?_
  rintro e w1 ⟨rfl, hb1⟩
  go_wp2_with (first
    | (go_at_call 15; refine (Clock.honest_any d a b _).mono ?_; rintro e w' ⟨rfl, rfl⟩)
    | (go_at_call 16; refine (Clock.refHonest_any d a b _).mono ?_; rintro e w' ⟨rfl, rfl⟩))
  go_ret
  exact ⟨rfl, hb1⟩

set_option maxHeartbeats 1000000 in
theorem walk_no_ok (d a b : Int) (w : World) (hg : Bare.Laid w) (hd : inB d 0 500 = false) (ha : inB a 0 1099511627776 = true) (hb : inB b 0 1099511627776 = true) :
    Calls Tryd.prog 3 #[.int .i64 d, .int .i64 a, .int .i64 b] w fun e w' => e = .returned (.bool true) ∧ Below w.heap.size w w' := by
  have hz := hg.size
  go_enter Tryd.func3, Tryd.ntmps3
  go_wp2_with (first
    | (go_at_call 10; refine (Clock.refShort_no d a _ (.inl hd)).mono ?_; rintro e w' ⟨rfl, rfl⟩)
    | (go_at_call 11; refine (Clock.short_no d a _ (.inl hd)).mono ?_; rintro e w' ⟨rfl, rfl⟩)
    | (go_at_call 12; refine (Clock.refAdd_ok a b _ ha hb).mono ?_; rintro e w' ⟨rfl, rfl⟩)
    | (go_at_call 13; refine (Clock.add_ok a b _ ha hb).mono ?_; rintro e w' ⟨rfl, rfl⟩))
  refine (Bare.bare_errno 2 2 _ hg).mono ?_
  rintro e w1 ⟨rfl, hb1⟩
  go_wp2_with fail
  refine (Bare.bare_nil 0 _).mono ?_
  rintro e w' ⟨rfl, rfl⟩
  go_wp2_with (first
    | (go_at_call 15; refine (Clock.honest_any d a b _).mono ?_; rintro e w' ⟨rfl, rfl⟩)
    | (go_at_call 16; refine (Clock.refHonest_any d a b _).mono ?_; rintro e w' ⟨rfl, rfl⟩))
  go_ret
  exact ⟨rfl, hb1⟩

set_option maxHeartbeats 1000000 in
theorem walk_no_no (d a b : Int) (w : World) (hg : Bare.Laid w) (hs : inB d 0 500 = false ∨ inB a 0 1099511627776 = false) (ht : inB a 0 1099511627776 = false ∨ inB b 0 1099511627776 = false) :
    Calls Tryd.prog 3 #[.int .i64 d, .int .i64 a, .int .i64 b] w fun e w' => e = .returned (.bool true) ∧ Below w.heap.size w w' := by
  have hz := hg.size
  have HS : Hid (inB d 0 500 = false ∨ inB a 0 1099511627776 = false) := hs
  have HT : Hid (inB a 0 1099511627776 = false ∨ inB b 0 1099511627776 = false) := ht
  clear hs ht
  go_enter Tryd.func3, Tryd.ntmps3
  go_wp2_with (first
    | (go_at_call 10; refine (Clock.refShort_no d a _ HS.out).mono ?_; rintro e w' ⟨rfl, rfl⟩)
    | (go_at_call 11; refine (Clock.short_no d a _ HS.out).mono ?_; rintro e w' ⟨rfl, rfl⟩)
    | (go_at_call 12; refine (Clock.refAdd_no a b _ HT.out).mono ?_; rintro e w' ⟨rfl, rfl⟩)
    | (go_at_call 13; refine (Clock.add_no a b _ HT.out).mono ?_; rintro e w' ⟨rfl, rfl⟩))
  refine (Bare.bare_errno 2 2 _ hg).mono ?_
  rintro e w1 ⟨rfl, hb1⟩
  go_wp2_with fail
  refine (Bare.bare_errno 2 2 _ (hg.below hb1 hz)).mono ?_
  rintro e w2 ⟨rfl, hb2⟩
  go_wp2_with (first
    | (go_at_call 15; refine (Clock.honest_any d a b _).mono ?_; rintro e w' ⟨rfl, rfl⟩)
    | (go_at_call 16; refine (Clock.refHonest_any d a b _).mono ?_; rintro e w' ⟨rfl, rfl⟩))
  go_ret
  exact ⟨rfl, hb1.trans (hb2.mono hb1.size)⟩

/-- ClockTerms returns true whatever the numbers are. -/
theorem walk (d a b : Int) (w : World) (hg : Bare.Laid w) :
    Calls Tryd.prog 3 #[.int .i64 d, .int .i64 a, .int .i64 b] w fun e w' => e = .returned (.bool true) ∧ Below w.heap.size w w' := by
  cases ha : inB a 0 1099511627776 with
  | false => exact walk_no_no d a b w hg (.inr ha) (.inl ha)
  | true =>
    cases hd : inB d 0 500 with
    | false =>
      cases hb : inB b 0 1099511627776 with
      | false => exact walk_no_no d a b w hg (.inl hd) (.inr hb)
      | true => exact walk_no_ok d a b w hg hd ha hb
    | true =>
      cases hb : inB b 0 1099511627776 with
      | false => exact walk_ok_no d a b w hg hd ha hb
      | true => exact walk_ok_ok d a b w hg hd ha hb

end Go.Proofs.YtbebfliimjjohaaDoor.Terms
