/-
  The state of the law's play: the net's and the law's own list, side by side; what each call makes of it.
-/
import Derived.Test.YtbebfliimjjohaaDoorNetGramz
namespace Go.Proofs.YtbebfliimjjohaaDoor.Net
open Go.RowKit
open Wire (Has bcell Sees conv_sees)
open Num (strOf ints)

theorem NetIs.only {t : TypeId} {B q q' : Nat} {w w' : World} {ps : List (Int × ByteArray)} {lost : Int} (h : NetIs w B q ps lost) (hne : 149 ≠ t) (ho : Only B t q' w w') (hq' : q' < B) (hqq : q ≠ q') : NetIs w' B q ps lost := by
  obtain ⟨⟨v, hv, hrow⟩, hlost, hfr, hlt, hle, hlen⟩ := h
  have hqs : q < w.heap.size := by omega
  exact ⟨⟨v, (ho.cell hlt hqq hqs).trans hv, ho.row hne hq' hrow⟩, (ho.cell hlt hqq hqs).trans hlost, fun i => (ho.frozen hlt hqq hqs).trans (hfr i), hlt, by have := ho.size; omega, hlen⟩

theorem GramIs.only {t : TypeId} {B q q' : Nat} {w w' : World} {gs : List G} (h : GramIs w B q gs) (hne : 52 ≠ t) (hnb : 5 ≠ t) (ho : Only B t q' w w') (hq' : q' < B) (hqq : q ≠ q') : GramIs w' B q gs := by
  obtain ⟨⟨v, hv, hrow⟩, hfr, hlt, hle, hlen, hby⟩ := h
  have hqs : q < w.heap.size := by omega
  exact ⟨⟨v, (ho.cell hlt hqq hqs).trans hv, ho.row hne hq' hrow⟩, fun i => (ho.frozen hlt hqq hqs).trans (hfr i), hlt, by have := ho.size; omega, hlen, fun p hp => ⟨ho.has hnb hq' (hby p hp).1, (hby p hp).2⟩⟩

/-- New blocks alone are an 'Only' of whatever type. -/
theorem Only.of_below {t : TypeId} {B q : Nat} {w w' : World} (h : Below w.heap.size w w') : Only B t q w w' := ⟨h.os, h.tape, h.output, h.size, fun k hk _ _ => h.block k hk⟩

def pk (g : G) : Int × ByteArray := (g.1, strOf g.2.2)

/-- The state: the net at block N, the law's list behind block N + 1, the law's count at block N + 2. -/
structure St (N : Nat) (ps : List (Int × ByteArray)) (ln : Int) (gs : List G) (l : Int) (w : World) : Prop where
  net : NetIs w (N + 1 + 1 + 1) N ps ln
  gram : GramIs w (N + 1 + 1 + 1) (N + 1) gs
  cell : w.cell? ⟨N + 1 + 1, 0, none⟩ = some (.int .i64 l)
  free : w.frozen? ⟨N + 1 + 1, 0, none⟩ = false

/-- What is as it was: all that was there ahead, and boxes of the law's own steps. -/
structure Fr (N : Nat) (w w' : World) : Prop where
  below : Below N w w'
  go : ∀ k cs f, N + 1 + 1 + 1 ≤ k → w.heap[k]? = some (.cells cs 55 f) → w'.heap[k]? = w.heap[k]?

theorem Fr.refl (N : Nat) (w : World) : Fr N w w := ⟨Below.refl _ _, fun _ _ _ _ _ => rfl⟩
theorem Fr.trans {N : Nat} {a b c : World} (h : Fr N a b) (k : Fr N b c) : Fr N a c :=
  ⟨h.below.trans k.below, fun i cs f hi hc => by
    have e := h.go i cs f hi hc
    rw [k.go i cs f hi (e.trans hc), e]⟩
theorem Fr.of_below {N : Nat} {w w' : World} (hN : N ≤ w.heap.size) (h : Below w.heap.size w w') : Fr N w w' :=
  ⟨h.mono hN, fun k _ _ _ hc => h.block k (Array.getElem?_eq_some_iff.1 hc).1⟩
theorem Fr.of_only {N q : Nat} {t : TypeId} {w w' : World} (hN : N ≤ w.heap.size) (hne : 55 ≠ t) (h0 : N ≤ q) (hq : q < N + 1 + 1 + 1) (h : Only (N + 1 + 1 + 1) t q w w') : Fr N w w' :=
  ⟨⟨h.os, h.tape, h.output, h.size, fun k hk => h.block k (by omega) (by omega) (.inl (by omega))⟩,
   fun k cs f hk hc => h.block k (Array.getElem?_eq_some_iff.1 hc).1 (by omega) (.inr fun c f' hc' => by rw [hc] at hc'; injection hc' with hc'; injection hc' with _ hc' _; exact hne hc')⟩

theorem St.size {N : Nat} {ps : List (Int × ByteArray)} {ln l : Int} {gs : List G} {w : World} (h : St N ps ln gs l w) : N + 1 + 1 + 1 ≤ w.heap.size := h.net.le

theorem St.other {N : Nat} {ps : List (Int × ByteArray)} {ln l : Int} {gs : List G} {w w' : World} (h : St N ps ln gs l w) (hb : Below w.heap.size w w') : St N ps ln gs l w' := by
  have hs := h.size
  exact ⟨h.net.other hb, h.gram.only (t := 149) (q' := N) (by decide) (by decide) (Only.of_below hb) (by omega) (by omega), (hb.cell (p := ⟨N + 1 + 1, 0, none⟩) (by show N + 1 + 1 < _; omega)).trans h.cell, (hb.frozen (p := ⟨N + 1 + 1, 0, none⟩) (by show N + 1 + 1 < _; omega)).trans h.free⟩

/-- A call that turns the net alone. -/
theorem St.net' {N : Nat} {ps ps' : List (Int × ByteArray)} {ln ln' l : Int} {gs : List G} {w w' : World} (h : St N ps ln gs l w) (hn : NetIs w' (N + 1 + 1 + 1) N ps' ln') (ho : Only (N + 1 + 1 + 1) 149 N w w') : St N ps' ln' gs l w' := by
  have hs := h.size
  exact ⟨hn, h.gram.only (by decide) (by decide) ho (by omega) (by omega), (ho.cell (by omega) (by omega) (by omega)).trans h.cell, (ho.frozen (by omega) (by omega) (by omega)).trans h.free⟩

/-- What turns the law's list alone. -/
theorem St.gram' {N : Nat} {ps : List (Int × ByteArray)} {ln l : Int} {gs gs' : List G} {w w' : World} (h : St N ps ln gs l w) (hn : GramIs w' (N + 1 + 1 + 1) (N + 1) gs') (ho : Only (N + 1 + 1 + 1) 52 (N + 1) w w') : St N ps ln gs' l w' := by
  have hs := h.size
  exact ⟨h.net.only (by decide) ho (by omega) (by omega), hn, (ho.cell (by omega) (by omega) (by omega)).trans h.cell, (ho.frozen (by omega) (by omega) (by omega)).trans h.free⟩

/-- What turns the law's count alone. -/
theorem St.count {N : Nat} {ps : List (Int × ByteArray)} {ln l : Int} {gs : List G} {w : World} (h : St N ps ln gs l w) (l' : Int) (o : Obj) : St N ps ln gs l' ((w.setCell ⟨N + 1 + 1, 0, none⟩ (.int .i64 l')).alloc o) ∧ Fr N w ((w.setCell ⟨N + 1 + 1, 0, none⟩ (.int .i64 l')).alloc o) := by
  have hs := h.size
  have hO : Only (N + 1 + 1 + 1) 0 (N + 1 + 1) w ((w.setCell ⟨N + 1 + 1, 0, none⟩ (.int .i64 l')).alloc o) := ((Only.refl _ _ _ _).setCell _).alloc _
  refine ⟨⟨h.net.only (by decide) hO (by omega) (by omega), h.gram.only (by decide) (by decide) hO (by omega) (by omega), ?_, ?_⟩, Fr.of_only (by omega) (by decide) (by omega) (by omega) hO⟩
  · rw [World.cell?_alloc_lt _ _ ⟨N + 1 + 1, 0, none⟩ (by simp; omega), World.cell?_setCell_same _ _ _ h.cell]
  · rw [World.frozen?_alloc_old _ _ _ (by simp; omega)]
    simpa using h.free

/-- A slice of bytes that may be nil. -/
def Src (w : World) (sv : Value) (bs : List Int) : Prop := Sees w w.heap.size sv bs ∧ ∀ n c, sv = .slice none n c → c = 0

theorem Src.below {w w' : World} {sv : Value} {bs : List Int} (h : Src w sv bs) (hb : Below w.heap.size w w') : Src w' sv bs := by
  refine ⟨?_, h.2⟩
  obtain ⟨ao, c, h1, h2, h3, h4, h5⟩ := h.1.below hb (Nat.le_refl _)
  refine ⟨ao, c, h1, h2, h3, h4, fun hp => ?_⟩
  obtain ⟨b, off, e1, e2, e3⟩ := h5 hp
  exact ⟨b, off, e1, by have := hb.size; omega, e3⟩

theorem has_sees {w : World} {B : Nat} {v : Value} {l : List Int} (h : Has w B v l) (hb : ∀ x ∈ l, 0 ≤ x ∧ x < 256) : Src w v l := by
  have hlt := h.row.lt
  have hc := h.row
  rcases h.2 with ⟨rfl, h0⟩ | ⟨g, cap, cur, rfl, hB, hg, hn, hm, _⟩
  · exact ⟨⟨none, 0, by rw [h0], by omega, by omega, hb, fun hp => by omega⟩, fun n c e => by injection e with _ _ e; exact e.symm⟩
  · refine ⟨⟨_, cap, rfl, hn, hm, hb, fun hp => ⟨g, 0, rfl, (hlt g rfl).2, fun j hj => ?_⟩⟩, fun n c e => by cases e⟩
    rw [Nat.zero_add, hc.cellAt j (by omega), List.getElem?_map, List.getD_eq_getElem?_getD, List.getElem?_eq_getElem hj]
    rfl

/-- The law's closure: one more of its own. -/
theorem c_gsend (N : Nat) (ps : List (Int × ByteArray)) (ln l to : Int) (gs : List G) (sv : Value) (bs : List Int) (w : World) (h : St N ps ln gs l w) (h0 : 0 ≤ l) (h1 : l ≤ 1000000) (hs : Src w sv bs) (hb : bs.length ≤ 100) :
    Calls Tryd.prog 22 #[.agg #[.int .i64 to, sv], .pointer (some ⟨N + 1, 0, none⟩), .pointer (some ⟨N + 1 + 1, 0, none⟩)] w fun e w' => e = .returned (.tuple #[]) ∧ ∃ gs' l', St N ps ln gs' l' w' ∧ (gs'.map pk, l') = put (gs.map pk) l (to, strOf bs) ∧ Fr N w w' := by
  have hsz := h.size
  have hlen := h.gram.len
  by_cases hf : gs.length < 200
  · obtain ⟨⟨ao, c, rfl, hc1, hc2, hby, hcells⟩, hnil⟩ := hs
    have eput : ∀ sv', ((gs ++ [(to, sv', bs)]).map pk, l) = put (gs.map pk) l (to, strOf bs) := fun sv' => by simp [put, hf, pk]
    have fin : ∀ w' : World, ∀ sv', GramIs w' (N + 1 + 1 + 1) (N + 1) (gs ++ [(to, sv', bs)]) → Only (N + 1 + 1 + 1) 52 (N + 1) w w' → ∃ gs' l', St N ps ln gs' l' w' ∧ (gs'.map pk, l') = put (gs.map pk) l (to, strOf bs) ∧ Fr N w w' :=
      fun w' sv' hg ho => ⟨_, l, h.gram' hg ho, eput sv', Fr.of_only (by omega) (by decide) (by omega) (by omega) ho⟩
    cases ao with
    | none =>
      obtain rfl := hnil _ _ rfl
      have hbs : bs = [] := List.length_eq_zero_iff.1 (by omega)
      subst hbs
      refine (gsend_nil (N + 1 + 1 + 1) (N + 1) (N + 1 + 1) gs to w h.gram hf).mono ?_
      rintro e w' ⟨rfl, sv', hg, ho⟩
      exact ⟨rfl, fin w' sv' hg ho⟩
    | some ad =>
      refine (gsend_room (N + 1 + 1 + 1) (N + 1) (N + 1 + 1) gs to ad bs c w h.gram hf hb hby (fun j u hj => ?_)).mono ?_
      · have hj' : j < bs.length := by have := (List.getElem?_eq_some_iff.1 hj).1; simpa using this
        obtain ⟨b, off, e, _, hcell⟩ := hcells (by omega)
        obtain rfl := Option.some.inj e
        have hu : u = .int .u8 (bs.getD j 0) := by
          rw [List.getElem?_map, List.getElem?_eq_getElem hj'] at hj
          rw [List.getD_eq_getElem?_getD, List.getElem?_eq_getElem hj']
          simpa using hj.symm
        rw [hu]
        have ha : (⟨b, off, none⟩ : Addr).add j = ⟨b, off + j, none⟩ := by simp [Addr.add]
        rw [ha]
        exact hcell j hj'
      · rintro e w' ⟨rfl, sv', hg, ho⟩
        exact ⟨rfl, fin w' sv' hg ho⟩
  · refine (gsend_full (N + 1 + 1 + 1) (N + 1) (N + 1 + 1) gs l to sv w h.gram (by omega) h0 h1 h.cell h.free (by omega)).mono ?_
    rintro e w' ⟨rfl, o, rfl⟩
    obtain ⟨hS, hF⟩ := h.count (l + 1) o
    exact ⟨rfl, gs, l + 1, hS, by simp [put, hf], hF⟩

/-- net.Send. -/
theorem c_nsend (N C : Nat) (ps : List (Int × ByteArray)) (ln l to : Int) (gs : List G) (sv : Value) (bs : List Int) (w : World) (h : St N ps ln gs l w) (h0 : 0 ≤ ln) (h1 : ln ≤ 1000000) (hs : Sees w C sv bs) (hC : C ≤ w.heap.size) :
    Calls Tryd.prog 23 #[.pointer (some ⟨N, 0, none⟩), .agg #[.int .i64 to, sv]] w fun e w' => e = .returned (.tuple #[]) ∧ St N (put ps ln (to, strOf bs)).1 (put ps ln (to, strOf bs)).2 gs l w' ∧ Fr N w w' := by
  have hsz := h.size
  refine (send_any (N + 1 + 1 + 1) N C ps ln to sv bs w h.net h0 h1 hs hC).mono ?_
  rintro e w' ⟨rfl, hn, ho⟩
  exact ⟨rfl, h.net' hn ho, Fr.of_only (by omega) (by decide) (by omega) (by omega) ho⟩

/-- net.Twice. -/
theorem c_twice (N : Nat) (ps : List (Int × ByteArray)) (ln l : Int) (gs : List G) (k : Nat) (w : World) (h : St N ps ln gs l w) (h0 : 0 ≤ ln) (h1 : ln ≤ 1000000) (hk : k < ps.length) :
    Calls Tryd.prog 25 #[.pointer (some ⟨N, 0, none⟩), .int .i64 k] w fun e w' => e = .returned .nilIface ∧ St N (put ps ln ps[k]).1 (put ps ln ps[k]).2 gs l w' ∧ Fr N w w' := by
  have hsz := h.size
  refine (twice_yes (N + 1 + 1 + 1) N ps ln k w h.net h0 h1 hk).mono ?_
  rintro e w' ⟨rfl, hn, ho⟩
  exact ⟨rfl, h.net' hn ho, Fr.of_only (by omega) (by decide) (by omega) (by omega) ho⟩

/-- net.Take. -/
theorem c_take (N : Nat) (ps : List (Int × ByteArray)) (ln l : Int) (gs : List G) (k : Nat) (w : World) (h : St N ps ln gs l w) (hk : k < ps.length) (hsz : ps[k].2.size ≤ 300) :
    Calls Tryd.prog 24 #[.pointer (some ⟨N, 0, none⟩), .int .i64 k] w fun e w' => ∃ sv, e = .returned (.tuple #[.agg #[.int .i64 ps[k].1, sv], .nilIface]) ∧ Sees w' w'.heap.size sv (ints ps[k].2) ∧ St N (ps.eraseIdx k) ln gs l w' ∧ Fr N w w' ∧ Only (N + 1 + 1 + 1) 149 N w w' := by
  have hs := h.size
  refine (take_yes (N + 1 + 1 + 1) N ps ln k w h.net hk hsz).mono ?_
  rintro e w' ⟨sv, rfl, hsv, hn, ho⟩
  exact ⟨sv, rfl, hsv, h.net' hn ho, Fr.of_only (by omega) (by decide) (by omega) (by omega) ho, ho⟩

/-- net.Spoil. -/
theorem c_spoil (N : Nat) (ps : List (Int × ByteArray)) (ln l what : Int) (gs : List G) (k a : Nat) (w : World) (h : St N ps ln gs l w) (hk : k < ps.length) (hsz : ps[k].2.size ≤ 300) (ha : a < ps[k].2.size) :
    Calls Tryd.prog 26 #[.pointer (some ⟨N, 0, none⟩), .int .i64 k, .int .i64 a, .int .u8 what] w fun e w' => e = .returned .nilIface ∧ St N (ps.set k (ps[k].1, strOf ((ints ps[k].2).set a (bits .xor .u8 ((ints ps[k].2).getD a 0) what)))) ln gs l w' ∧ Fr N w w' := by
  have hs := h.size
  refine (spoil_yes (N + 1 + 1 + 1) N ps ln what k a w h.net hk hsz ha).mono ?_
  rintro e w' ⟨rfl, hn, ho⟩
  exact ⟨rfl, h.net' hn ho, Fr.of_only (by omega) (by decide) (by omega) (by omega) ho⟩
end Go.Proofs.YtbebfliimjjohaaDoor.Net
