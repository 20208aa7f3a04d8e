/-
  The contracts of a cache's remove and Drop, over the turned program.
-/
import Derived.Test.YtbebfliimjjohaaDoorCacheDel
namespace Go.Proofs.YtbebfliimjjohaaDoor.Cache
open Go.RowKit

theorem wrap_succ (k : Nat) (h : k ≤ 1000000) : IntKind.i64.wrap ((k : Int) + 1) = (k : Int) + 1 := by
  have e : IntKind.i64.wrap (((k + 1 : Nat) : Int)) = ((k + 1 : Nat) : Int) := by
    simp [IntKind.wrap, IntKind.signed, IntKind.bits]
    omega
  simpa using e

set_option maxHeartbeats 2000000 in
set_option maxRecDepth 100000 in
theorem remove_any (t : Nat) (L : List E) (k : Nat) (w : World) (h : CacheIs w t L L.length) (hk : k < L.length) :
    Calls Tryd.prog 82 #[tp t, .int .i64 k] w fun e w' => e = .returned (.tuple #[]) ∧ CacheIs w' t (L.eraseIdx k) (L.eraseIdx k).length ∧ Ob [t] w w' := by
  have h6 := h.le
  have hm := h.many
  have hi0 : (0 : Int) ≤ (L.length : Int) := by omega
  have hi6 : (L.length : Int) ≤ 6 := by omega
  have hw1 := wrap_succ k (by omega)
  have hcall := del_any t L L.length k w.drew h.drew hk
  clear h
  go_enter Tryd.func82, Tryd.ntmps82
  go_wp2_with fail
  go_region_with (first | (go_at_call 90; refine hcall.mono ?_; rintro e w3 ⟨rfl, hC3, hO3⟩; have hm3 := hC3.many; have hf3 := hC3.free 24))
  go_end0
  rw [show L.length - 1 = (L.eraseIdx k).length from (List.length_eraseIdx_of_lt hk).symm]
  exact ⟨rfl, hC3.setMany _, ((Ob.refl _ _).drew.trans hO3).setCell (by simp) _⟩

/-- What Drop leaves. -/
theorem drop_hit {o : Int} {L : List E} {i : Int} (h1 : L.Pairwise fun a b => a.o ≠ b.o) (h : Found o L i) (hi : 0 ≤ i) : ∃ k : Nat, i = (k : Int) ∧ k < L.length ∧ era o L = L.eraseIdx k := by
  rcases h with ⟨rfl, _⟩ | ⟨k, hk, rfl, ho⟩
  · omega
  · exact ⟨k, rfl, hk, era_at h1 hk ho⟩
theorem drop_miss {o : Int} {L : List E} {i : Int} (h : Found o L i) (hi : ¬ 0 ≤ i) : era o L = L := by
  rcases h with ⟨_, h⟩ | ⟨k, _, rfl, _⟩
  · exact era_absent h
  · omega

set_option maxHeartbeats 1000000 in
set_option maxRecDepth 100000 in
theorem drop_any (o : Int) (t : Nat) (L : List E) (w : World) (h : CacheIs w t L L.length) (h1 : L.Pairwise fun a b => a.o ≠ b.o) :
    Calls Tryd.prog 55 #[tp t, .int .i64 o] w fun e w' => e = .returned (.tuple #[]) ∧ CacheIs w' t (era o L) (era o L).length ∧ Ob [t] w w' := by
  have hcall := find_any o t L w h
  go_enter Tryd.func55, Tryd.ntmps55
  go_wp2_with fail
  refine hcall.mono ?_
  rintro e w3 ⟨i, rfl, hF, hb3⟩
  have h3 := h.below hb3
  have hO3 : Hid (Ob [t] w w3) := Ob.of_below hb3
  clear hcall hb3
  by_cases hi : 0 ≤ i
  · obtain ⟨k, rfl, hk, he⟩ := drop_hit h1 hF hi
    have hcall := remove_any t L k w3 h3 hk
    have HE : Hid (era o L = L.eraseIdx k) := he
    clear hF h3 he h h1
    go_wp2_with fail
    refine hcall.mono ?_
    rintro e w4 ⟨rfl, hC4, hO4⟩
    go_wp2_with fail
    go_end0
    rw [HE.out]
    exact ⟨rfl, hC4, hO3.out.trans hO4⟩
  · have HE : Hid (era o L = L) := drop_miss hF hi
    clear hF h h1
    go_wp2_with fail
    go_end0
    rw [HE.out]
    exact ⟨rfl, h3, hO3.out⟩
end Go.Proofs.YtbebfliimjjohaaDoor.Cache
