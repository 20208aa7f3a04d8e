/-
  Loads may be taken first in a region whose last operation writes what they read: the condition on the world is asked behind every operation but the last.
-/
import Derived.Deep.RegionHeld3
namespace Go.Proofs.YtbebfliimjjohaaDoor.Gen
open Go

section
variable {P : Program} {ops : Array Oper} {Q : Exit → Act → World → Prop} {md : Region.Mode} {S : World → Prop}

/-- Is one still to come up? -/
def Open (listed : Array Bool) : Prop := ∃ k, listed.getD k true = false

/-- Whatever order is picked from here on; S holds behind every operation behind which another one is to come up. -/
def anyM (P : Program) (md : Region.Mode) (ops : Array Oper) (Q : Exit → Act → World → Prop) (S : World → Prop) : Nat → Array Bool → Act → World → Prop
  | 0, listed, a, w => Region.ready md ops listed = [] ∧ Q .normal a w
  | fuel + 1, listed, a, w =>
    (Region.ready md ops listed = [] → Q .normal a w) ∧
    ∀ i ∈ Region.ready md ops listed, wpOp P ops Q i (fun a' w' => (Open (listed.setIfInBounds i true) → S w') ∧ anyM P md ops Q S fuel (listed.setIfInBounds i true) a' w') a w

theorem any_of : ∀ (fuel : Nat) (listed : Array Bool) (a : Act) (w : World), anyM P md ops Q S fuel listed a w → wpAny P md ops Q fuel listed a w
  | 0, _, _, _, h => h
  | fuel + 1, _, _, _, h => ⟨h.1, fun i hi => wpOp_mono (fun a' w' h' => any_of fuel _ a' w' h'.2) (h.2 i hi)⟩

/-- An operation that may come up, for which operation k waits, may be taken first. -/
theorem anyM_first {i k : Nat} {oi ok : Oper} {v : Value} (hi : ops[i]? = some oi) (hk : ops[k]? = some ok) (hkw : ∃ e ∈ ok.after, Region.binds md e = true ∧ e.on = i) (hsel : ∀ (j : Nat) (o : Oper) cs b, ops[j]? = some o → o.op ≠ .select cs b)
    (hQ : ∀ c a w, Q (.panic c) (a.put oi.dst v) w → Q (.panic c) a w) :
    ∀ (fuel : Nat) (listed : Array Bool) (a : Act) (w : World),
      (∀ j oj, ops[j]? = some oj → j ≠ i → listed.getD j true = false → (∀ e ∈ oj.after, Region.binds md e = true → e.on ≠ i) → oi.apart ops oj = true) →
      i ∈ Region.ready md ops listed → listed.getD k true = false → i ≠ k → YieldsIf P ops S oi v a → S w →
      anyM P md ops Q S fuel (listed.setIfInBounds i true) (a.put oi.dst v) w → anyM P md ops Q S (fuel + 1) listed a w := by
  intro fuel
  induction fuel with
  | zero =>
    intro listed a w _ hr _ _ hy hS H
    refine ⟨fun h => (by rw [h] at hr; cases hr), fun j hj => ?_⟩
    by_cases hji : j = i
    · subst hji; exact hy.wpOp hi hS ⟨fun _ => hS, H⟩
    · have := ready_mono hj hji
      rw [H.1] at this
      cases this
  | succ fuel ih =>
    intro listed a w hfree hr hun hik hy hS H
    refine ⟨fun h => (by rw [h] at hr; cases hr), fun j hj => ?_⟩
    by_cases hji : j = i
    · subst hji; exact hy.wpOp hi hS ⟨fun _ => hS, H⟩
    · have h1 := H.2 j (ready_mono hj hji)
      obtain ⟨hjun, oj, hoj, hall⟩ := mem_ready.1 hj
      have hnot : ∀ e ∈ oj.after, Region.binds md e = true → e.on ≠ i := fun e he hb heq => by
        have h1 := hall e he hb
        have h0 := (mem_ready.1 hr).1
        rw [heq] at h1
        rcases Nat.lt_or_ge i listed.size with h' | h'
        · simp [h'] at h0 h1; rw [h0] at h1; cases h1
        · simp [Array.getElem?_eq_none h'] at h1
      have hjk : j ≠ k := fun e => by
        subst e
        obtain ⟨e, he, hb, ho⟩ := hkw
        rw [hoj] at hk
        obtain rfl := Option.some.inj hk
        exact hnot e he hb ho
      have hopen : Open ((listed.setIfInBounds i true).setIfInBounds j true) := ⟨k, by rw [getD_set_ne true hjk, getD_set_ne true hik]; exact hun⟩
      have h2 := wpOp_putIf hoj (hfree j oj hoj hji hjun hnot) (fun cs b => hsel i oi cs b hi) (fun cs b => hsel j oj cs b hoj) hQ hy h1
      have hfree' : ∀ k ok, ops[k]? = some ok → k ≠ i → (listed.setIfInBounds j true).getD k true = false →
          (∀ e ∈ ok.after, Region.binds md e = true → e.on ≠ i) → oi.apart ops ok = true := fun k ok hk hki hun hno => by
        refine hfree k ok hk hki ?_ hno
        by_cases hjk : j = k
        · subst hjk; exact hjun
        · rw [getD_set_ne true hjk] at hun; exact hun
      refine wpOp_mono (fun a' w' h3 => ⟨fun _ => h3.2.1 hopen, ih (listed.setIfInBounds j true) a' w' hfree' (ready_mono hr (Ne.symm hji)) (by rw [getD_set_ne true hjk]; exact hun) hik h3.1 (h3.2.1 hopen) ?_⟩) h2
      rw [Array.setIfInBounds_comm _ _ hji]
      exact h3.2.2

/-- Does operation k wait for operation i? -/
def waits (md : Region.Mode) (ops : Array Oper) (k i : Nat) : Bool := ((ops[k]?).map fun o => o.after.any fun e => Region.binds md e && e.on == i).getD false
theorem waits_spec {k i : Nat} (h : waits md ops k i = true) : ∃ ok, ops[k]? = some ok ∧ ∃ e ∈ ok.after, Region.binds md e = true ∧ e.on = i := by
  unfold waits at h
  cases hk : ops[k]? with
  | none => simp [hk] at h
  | some o =>
    simp [hk] at h
    obtain ⟨x, hx, h1, h2⟩ := h
    exact ⟨o, rfl, _, Array.getElem_mem hx, h1, h2⟩

theorem take {i k : Nat} {oi : Oper} {d : Option Tmp} {op : Op} {ty : TypeId} {ps : String} {af : Array Edge} {gd : Option (Nat × Bool)} {v : Value} {fuel : Nat} {listed : Array Bool} {a : Act} {w : World} (hi : ops[i]? = some oi) (he : oi = ⟨d, op, ty, ps, af, gd⟩)
    (hk : waits md ops k i = true) (hun : listed.getD k true = false) (hik : (i == k) = false)
    (hs : Region.noSelect ops = true) (hf : Region.free md ops listed i = true) (hr : (Region.ready md ops listed).contains i = true)
    (hQ : ∀ c a w, Q (.panic c) (a.put d v) w → Q (.panic c) a w) (hy : YieldsIf P ops S ⟨d, op, ty, ps, af, gd⟩ v a) (hS : S w)
    (h : anyM P md ops Q S fuel (listed.setIfInBounds i true) (a.put d v) w) : anyM P md ops Q S (fuel + 1) listed a w := by
  subst he
  obtain ⟨ok, hok, hw⟩ := waits_spec hk
  exact anyM_first hi hok hw (Region.noSelect_spec hs) hQ fuel listed a w (Region.free_spec hi hf) (by simpa using hr) hun (by simpa using hik) hy hS h

/-- One alone may come up, and another one behind it. -/
theorem one {i : Nat} {o : Oper} {d : Option Tmp} {op : Op} {ty : TypeId} {ps : String} {af : Array Edge} {fuel : Nat} {listed : Array Bool} {a : Act} {w : World} (hr : Region.ready md ops listed = [i]) (ho : ops[i]? = some o) (hoe : o = ⟨d, op, ty, ps, af, none⟩)
    (h : ∀ K : Act → World → Prop, Shut (∀ a w, S w → (S w → anyM P md ops Q S fuel (listed.setIfInBounds i true) a w) → K a w) → Oper.wp P ⟨d, op, ty, ps, af, none⟩ a w K Q) : anyM P md ops Q S (fuel + 1) listed a w := by
  subst hoe
  refine ⟨fun h0 => (by rw [hr] at h0; cases h0), fun j hj => ?_⟩
  rw [hr] at hj
  obtain rfl := List.mem_singleton.1 hj
  unfold wpOp
  simp only [ho, Region.wanted, if_true]
  exact .inl (h _ (fun a w hS hW => ⟨fun _ => hS, hW hS⟩))

/-- The last one comes up. -/
theorem last {i : Nat} {o : Oper} {d : Option Tmp} {op : Op} {ty : TypeId} {ps : String} {af : Array Edge} {fuel : Nat} {listed : Array Bool} {a : Act} {w : World} (hr : Region.ready md ops listed = [i]) (ho : ops[i]? = some o) (hoe : o = ⟨d, op, ty, ps, af, none⟩) (hd : (listed.setIfInBounds i true).toList.all id = true) (he : Region.ready md ops (listed.setIfInBounds i true) = [])
    (h : ∀ K : Act → World → Prop, Shut (∀ a w, Q .normal a w → K a w) → Oper.wp P ⟨d, op, ty, ps, af, none⟩ a w K Q) : anyM P md ops Q S (fuel + 1) listed a w := by
  subst hoe
  refine ⟨fun h0 => (by rw [hr] at h0; cases h0), fun j hj => ?_⟩
  rw [hr] at hj
  obtain rfl := List.mem_singleton.1 hj
  unfold wpOp
  simp only [ho, Region.wanted, if_true]
  refine .inl (h _ (fun a w hQ => ⟨fun ⟨k, hk⟩ => ?_, ?_⟩))
  · exfalso
    rw [Array.getD_eq_getD_getElem?] at hk
    cases hx : (listed.setIfInBounds j true)[k]? with
    | none => simp [hx] at hk
    | some b =>
      rw [hx] at hk
      have := List.all_eq_true.1 hd b (by rw [← Array.getElem?_toList] at hx; exact List.mem_of_getElem? hx)
      simp at hk this
      rw [hk] at this
      cases this
  · cases fuel with
    | zero => exact ⟨he, hQ⟩
    | succ f => exact ⟨fun _ => hQ, by rw [he]; simp⟩

theorem start {id : Nat} {a : Act} {w : World} (hm : P.follows .mixedOrders = true) (hS : S w.drew)
    (h : S w.drew → anyM P .any ops Q S ops.size (Array.replicate ops.size false) a w.drew) : (Code.region id ops true).wp P Q a w :=
  wp_region_any hm (any_of _ _ _ _ (h hS))
end
end Go.Proofs.YtbebfliimjjohaaDoor.Gen
