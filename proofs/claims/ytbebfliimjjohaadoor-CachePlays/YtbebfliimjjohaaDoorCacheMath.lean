/-
  The document's items, in no order, against the values in the order of their use: lists alone.
-/
import Derived.Test.YtbebfliimjjohaaDoorRows
namespace Go.Proofs.YtbebfliimjjohaaDoor.Cache

/-- A value: of which object, its text and version, until when. -/
structure E where
  o : Int
  d : ByteArray
  v : Int
  u : Int
def zeroE : E := ⟨0, ⟨#[]⟩, 0, 0⟩
instance : Inhabited E := ⟨zeroE⟩
/-- An item: a value, and when it was used last. -/
structure It where
  e : E
  s : Int
def zeroI : It := ⟨zeroE, 4611686018427387904⟩
instance : Inhabited It := ⟨zeroI⟩

/-- Is it another object? -/
def oth (o : Int) (x : E) : Bool := decide (x.o ≠ o)
def others (o : Int) (x : It) : Bool := oth o x.e
theorem oth_true {o : Int} {x : E} (h : oth o x = true) : x.o ≠ o := by simpa [oth] using h
theorem oth_false {o : Int} {x : E} (h : oth o x = false) : x.o = o := by simpa [oth] using h

/-- Items in the order of their use. -/
structure Ord (P : List It) (tm : Int) : Prop where
  up : P.Pairwise fun a b => a.s < b.s
  one : P.Pairwise fun a b => a.e.o ≠ b.e.o
  all : ∀ x ∈ P, 0 < x.s ∧ x.s ≤ tm

theorem Ord.nil (tm : Int) : Ord [] tm := ⟨.nil, .nil, fun _ h => by simp at h⟩
theorem Ord.mono {P : List It} {a b : Int} (h : Ord P a) (hab : a ≤ b) : Ord P b := ⟨h.up, h.one, fun x hx => by have := h.all x hx; omega⟩
theorem Ord.filter {P : List It} {tm : Int} (h : Ord P tm) (p : It → Bool) : Ord (P.filter p) tm :=
  ⟨h.up.filter _, h.one.filter _, fun x hx => h.all x (List.mem_filter.1 hx).1⟩
theorem Ord.tail {x : It} {P : List It} {tm : Int} (h : Ord (x :: P) tm) : Ord P tm := ⟨(List.pairwise_cons.1 h.up).2, (List.pairwise_cons.1 h.one).2, fun y hy => h.all y (List.mem_cons_of_mem _ hy)⟩
/-- One that is used now. -/
theorem Ord.put {P : List It} {tm : Int} (h : Ord P tm) (h0 : 0 ≤ tm) {e : E} (he : ∀ x ∈ P, x.e.o ≠ e.o) : Ord (P ++ [⟨e, tm + 1⟩]) (tm + 1) := by
  refine ⟨List.pairwise_append.2 ⟨h.up, List.pairwise_singleton _ _, fun a ha b hb => ?_⟩, List.pairwise_append.2 ⟨h.one, List.pairwise_singleton _ _, fun a ha b hb => ?_⟩, fun x hx => ?_⟩
  · obtain rfl := List.mem_singleton.1 hb
    have := h.all a ha
    show a.s < tm + 1
    omega
  · obtain rfl := List.mem_singleton.1 hb
    exact he a ha
  · rcases List.mem_append.1 hx with hx | hx
    · have := h.all x hx; omega
    · obtain rfl := List.mem_singleton.1 hx
      exact ⟨by show 0 < tm + 1; omega, Int.le_refl _⟩
theorem ne_filter (o : Int) (P : List It) : ∀ x ∈ P.filter (others o), x.e.o ≠ o := fun _ hx => oth_true (List.mem_filter.1 hx).2

/-- The objects that are left when the first one's is taken out. -/
theorem filter_head {x : It} {P : List It} {tm : Int} (h : Ord (x :: P) tm) : (x :: P).filter (others x.e.o) = P := by
  have h1 := (List.pairwise_cons.1 h.one).1
  rw [List.filter_cons_of_neg (by simp [others, oth])]
  exact List.filter_eq_self.2 fun y hy => by have := h1 y hy; simp [others, oth]; exact fun e => this e.symm

/-- Out of the values in order the one of an object is taken. -/
def era (o : Int) (L : List E) : List E := L.filter (oth o)
theorem map_filter (o : Int) (P : List It) : (P.filter (others o)).map (·.e) = era o (P.map (·.e)) := by
  unfold era
  rw [List.filter_map]
  rfl
theorem era_absent {o : Int} {L : List E} (h : ∀ x ∈ L, x.o ≠ o) : era o L = L := List.filter_eq_self.2 fun x hx => by simp [oth, h x hx]
theorem era_at {o : Int} {L : List E} {k : Nat} (h1 : L.Pairwise fun a b => a.o ≠ b.o) (hk : k < L.length) (ho : L[k].o = o) : era o L = L.eraseIdx k := by
  rw [List.eraseIdx_eq_take_drop_succ]
  have e : L = L.take k ++ L[k] :: L.drop (k + 1) := by rw [List.getElem_cons_drop, List.take_append_drop]
  rw [e] at h1
  obtain ⟨h2, h3, h4⟩ := List.pairwise_append.1 h1
  have h5 := (List.pairwise_cons.1 h3).1
  unfold era
  conv => lhs; rw [e]
  rw [List.filter_append, List.filter_cons_of_neg (by simp [oth, ho])]
  congr 1
  · exact List.filter_eq_self.2 fun x hx => by have := h4 x hx _ List.mem_cons_self; rw [ho] at this; simp [oth, this]
  · exact List.filter_eq_self.2 fun x hx => by have := h5 x hx; rw [ho] at this; simp [oth]; exact fun e => this e.symm
theorem Ord.objs {P : List It} {tm : Int} (h : Ord P tm) : (P.map (·.e)).Pairwise fun a b => a.o ≠ b.o := List.pairwise_map.2 h.one

/-- The place of an object's value, or below zero: there is none. -/
def Found (o : Int) (L : List E) (i : Int) : Prop := (i = -1 ∧ ∀ x ∈ L, x.o ≠ o) ∨ ∃ k, ∃ h : k < L.length, i = (k : Int) ∧ L[k].o = o

/-- What is seen of the items so far: the one that is used first behind a time. -/
def bst (last : Int) (b x : It) : It := if (decide (last < x.s) && decide (x.s < b.s)) = true then x else b
theorem bst_fold {last : Int} {h : It} : ∀ (R : List It) (b : It), (∀ x ∈ R, last < x.s → h.s ≤ x.s ∧ (x.s = h.s → x = h)) → last < h.s → (h ∈ R ∧ h.s < b.s ∨ b = h) → R.foldl (bst last) b = h
  | [], b, _, _, hh => by
    rcases hh with ⟨hm, _⟩ | rfl
    · simp at hm
    · rfl
  | x :: R, b, hx, hl, hh => by
    rw [List.foldl_cons]
    have hR : ∀ y ∈ R, last < y.s → h.s ≤ y.s ∧ (y.s = h.s → y = h) := fun y hy => hx y (List.mem_cons_of_mem _ hy)
    have h1 := hx x List.mem_cons_self
    refine bst_fold R _ hR hl ?_
    unfold bst
    by_cases c : last < x.s ∧ x.s < b.s
    · rw [if_pos (by simp [c.1, c.2])]
      obtain ⟨q1, q2⟩ := h1 c.1
      by_cases e : x.s = h.s
      · exact .inr (q2 e)
      · rcases hh with ⟨hm, _⟩ | rfl
        · rcases List.mem_cons.1 hm with rfl | hm
          · exact absurd rfl e
          · exact .inl ⟨hm, by omega⟩
        · omega
    · rw [if_neg (by simp; omega)]
      rcases hh with ⟨hm, hb⟩ | rfl
      · rcases List.mem_cons.1 hm with rfl | hm
        · exact absurd ⟨hl, hb⟩ c
        · exact .inl ⟨hm, hb⟩
      · exact .inr rfl

/-- When the k-th one was used. -/
def lst (P : List It) (k : Nat) : Int := if k = 0 then 0 else P[k - 1]!.s
theorem fold_is {P R : List It} {tm : Int} {k : Nat} (h : Ord P tm) (hp : P.Perm R) (hk : k < P.length) (ht : tm < 4611686018427387904) : R.foldl (bst (lst P k)) zeroI = P[k] := by
  have hup : ∀ i j (hi : i < P.length) (hj : j < P.length), i < j → P[i].s < P[j].s := fun i j hi hj hij => List.pairwise_iff_getElem.1 h.up i j hi hj hij
  have hall := h.all P[k] (List.getElem_mem hk)
  have hlast : lst P k < P[k].s := by
    unfold lst
    by_cases e : k = 0
    · rw [if_pos e]; exact hall.1
    · rw [if_neg e, getElem!_pos P (k - 1) (by omega)]
      exact hup _ _ _ _ (by omega)
  refine bst_fold R zeroI (fun x hx hl => ?_) hlast (.inl ⟨hp.mem_iff.1 (List.getElem_mem hk), by show P[k].s < 4611686018427387904; omega⟩)
  obtain ⟨j, hj, rfl⟩ := List.getElem_of_mem (hp.mem_iff.2 hx)
  by_cases c : k < j
  · have := hup k j hk hj c
    exact ⟨by omega, fun e => by omega⟩
  · by_cases e : j = k
    · subst e; exact ⟨Int.le_refl _, fun _ => rfl⟩
    · exfalso
      have hle : P[j].s ≤ lst P k := by
        unfold lst
        rw [if_neg (by omega), getElem!_pos P (k - 1) (by omega)]
        by_cases e2 : j = k - 1
        · subst e2; exact Int.le_refl _
        · exact Int.le_of_lt (hup j (k - 1) hj (by omega) (by omega))
      omega

/-- A value is used. -/
theorem used {P R : List It} {tm : Int} {i : Nat} (h : Ord P tm) (hp : P.Perm R) (hi : i < R.length) : (P.filter (others R[i].e.o) ++ [It.mk R[i].e (tm + 1)]).Perm (R.set i (It.mk R[i].e (tm + 1))) := by
  have hR : R.Pairwise fun a b => a.e.o ≠ b.e.o := hp.pairwise h.one (fun hab e => hab e.symm)
  have e : R = R.take i ++ R[i] :: R.drop (i + 1) := by rw [List.getElem_cons_drop, List.take_append_drop]
  have hf : R.filter (others R[i].e.o) = R.take i ++ R.drop (i + 1) := by
    have h1 := hR
    rw [e] at h1
    obtain ⟨h2, h3, h4⟩ := List.pairwise_append.1 h1
    have h5 := (List.pairwise_cons.1 h3).1
    have h6 : (R.take i).filter (others R[i].e.o) = R.take i := List.filter_eq_self.2 fun x hx => by have := h4 x hx _ List.mem_cons_self; simp [others, oth, this]
    have h7 : (R.drop (i + 1)).filter (others R[i].e.o) = R.drop (i + 1) := List.filter_eq_self.2 fun x hx => by have := h5 x hx; simp [others, oth]; exact fun e => this e.symm
    conv => lhs; arg 2; rw [e]
    rw [List.filter_append, List.filter_cons_of_neg (by simp [others, oth]), h6, h7]
  rw [List.set_eq_take_append_cons_drop, if_pos hi]
  refine ((hp.filter _).append_right _).trans ?_
  rw [hf]
  exact (List.perm_append_singleton _ _).trans List.perm_middle.symm

end Go.Proofs.YtbebfliimjjohaaDoor.Cache
