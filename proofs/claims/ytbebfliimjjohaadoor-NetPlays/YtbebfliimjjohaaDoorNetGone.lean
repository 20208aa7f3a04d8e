/-
  What the law's own list is when one is taken out, and when one's bytes are another slice.
-/
import Derived.Test.YtbebfliimjjohaaDoorNetRel
namespace Go.Proofs.YtbebfliimjjohaaDoor.Net
open Go.RowKit
open Wire (Has bcell Sees conv_sees)
open Num (strOf ints)

theorem gcells_append (a b : List G) : gcells (a ++ b) = gcells a ++ gcells b := by simp [gcells]
theorem gcells_set : ∀ (gs : List G) (k : Nat) (to : Int) (sv sv' : Value) (bs bs' : List Int) (hk : k < gs.length), gs[k] = (to, sv, bs) → gcells (gs.set k (to, sv', bs')) = (gcells gs).set (k * 2 + 1) sv'
  | p :: gs, 0, to, sv, sv', bs, bs', _, h => by
    simp at h
    subst h
    simp [gcells]
  | p :: gs, k + 1, to, sv, sv', bs, bs', hk, h => by
    have ih := gcells_set gs k to sv sv' bs bs' (by simpa using hk) (by simpa using h)
    have e : ∀ qs, gcells (p :: qs) = .int .i64 p.1 :: p.2.1 :: gcells qs := fun qs => by simp [gcells]
    rw [List.set_cons_succ, e, e, ih, show (k + 1) * 2 + 1 = (k * 2 + 1) + 1 + 1 by omega]
    simp
theorem gcells_erase (gs : List G) (k : Nat) : gcells (gs.eraseIdx k) = gcells (gs.take k) ++ gcells (gs.drop (k + 1)) := by
  rw [List.eraseIdx_eq_take_drop_succ, gcells_append]
theorem gcells_take (gs : List G) (k : Nat) : (gcells gs).take (k * 2) = gcells (gs.take k) := by
  induction gs generalizing k with
  | nil => simp [gcells]
  | cons p gs ih =>
    cases k with
    | zero => simp [gcells]
    | succ k =>
      have e : ∀ qs, gcells (p :: qs) = .int .i64 p.1 :: p.2.1 :: gcells qs := fun qs => by simp [gcells]
      rw [e, List.take_succ_cons, e, ← ih k, show (k + 1) * 2 = k * 2 + 1 + 1 by omega]
      simp
theorem gcells_drop (gs : List G) (k : Nat) : (gcells gs).drop (k * 2) = gcells (gs.drop k) := by
  induction gs generalizing k with
  | nil => simp [gcells]
  | cons p gs ih =>
    cases k with
    | zero => simp [gcells]
    | succ k =>
      have e : ∀ qs, gcells (p :: qs) = .int .i64 p.1 :: p.2.1 :: gcells qs := fun qs => by simp [gcells]
      rw [e, List.drop_succ_cons, ← ih k, show (k + 1) * 2 = k * 2 + 1 + 1 by omega]
      simp

theorem gcells_one {w : World} {B q : Nat} {gs : List G} (h : GramIs w B q gs) : ∀ u ∈ gcells gs, u.oneCell' = true := by
  intro u hu
  simp only [gcells, List.mem_flatMap] at hu
  obtain ⟨p, hp, h'⟩ := hu
  obtain ⟨ao, c, e, _⟩ := row_shape (h.bytes p hp).1.row
  simp at h'
  rcases h' with rfl | rfl
  · rfl
  · rw [e]; rfl

theorem gram_spoilt {N : Nat} {ps : List (Int × ByteArray)} {ln l gto z : Int} {gs : List G} {wd w1 : World} {g gc g1 c1 kn an : Nat} {gsv : Value} {gbs : List Int} (hS : St N ps ln gs l wd) (hkn : kn < gs.length) (hgk : gs[kn] = (gto, gsv, gbs)) (hgv : wd.cell? ⟨N + 1, 0, none⟩ = some (.slice (some ⟨g, 0, none⟩) gs.length gc))
    (hb : Below wd.heap.size wd w1) (hown : Has w1 wd.heap.size (.slice (some ⟨g1, 0, none⟩) gbs.length c1) gbs) (hz : 0 ≤ z ∧ z < 256) (hge : wd.heap.size ≤ g1) :
    St N ps ln (gs.set kn (gto, .slice (some ⟨g1, 0, none⟩) gbs.length c1, gbs.set an z)) l ((w1.setCell ⟨g1, an, none⟩ (.int .u8 z)).setCell ⟨g, kn * 2 + 1, none⟩ (.slice (some ⟨g1, 0, none⟩) gbs.length c1)) ∧
      Fr N wd ((w1.setCell ⟨g1, an, none⟩ (.int .u8 z)).setCell ⟨g, kn * 2 + 1, none⟩ (.slice (some ⟨g1, 0, none⟩) gbs.length c1)) := by
  have hsz := hS.size
  have hb2 : Below wd.heap.size wd (w1.setCell ⟨g1, an, none⟩ (.int .u8 z)) := hb.setCell hge _
  have hst1 := hown.row.stored an (.int .u8 z)
  have hby0 := hS.gram.bytes _ (List.getElem_mem hkn)
  rw [hgk] at hby0
  dsimp only at hby0
  generalize w1.setCell ⟨g1, an, none⟩ (.int .u8 z) = w2 at *
  have hS2 := hS.other hb2
  have hgv2 := (hb2.cell (p := ⟨N + 1, 0, none⟩) (by dsimp only; omega)).trans hgv
  have hG := hS2.gram
  obtain ⟨⟨v, hv, hrow⟩, hfr, hlt, hle, hlen, hbytes⟩ := hG
  rw [hgv2] at hv
  injection hv with hv
  subst hv
  have hst := hrow.stored (kn * 2 + 1) (.slice (some ⟨g1, 0, none⟩) gbs.length c1)
  have hgb := (hrow.lt g rfl).1
  have hO : Only (N + 1 + 1 + 1) 52 (N + 1) w2 (w2.setCell ⟨g, kn * 2 + 1, none⟩ (.slice (some ⟨g1, 0, none⟩) gbs.length c1)) := Only.grown (Only.refl _ _ _ _) hrow hst.2
  refine ⟨hS2.gram' ⟨⟨.slice (some ⟨g, 0, none⟩) gs.length gc, ?_, ?_⟩, fun i => ?_, by omega, by simp; omega, by simpa using hlen, fun p hp => ?_⟩ hO, (Fr.of_below (by omega) hb2).trans (Fr.of_only (by omega) (by decide) (by omega) (by omega) hO)⟩
  · rw [World.cell?_setCell_other _ _ _ _ (by intro e; injection e with e; omega)]; exact hgv2
  · rw [List.length_set, gcells_set gs kn gto gsv _ gbs _ hkn hgk]
    exact hst.1
  · rw [World.frozen?_setCell]; exact hfr i
  · rcases List.mem_or_eq_of_mem_set hp with hp | rfl
    · obtain ⟨a1, a2⟩ := hbytes p hp
      exact ⟨hO.has (by decide) (by omega) a1, a2⟩
    · refine ⟨hO.has (by decide) (by omega) ?_, fun x hx => ?_, by rw [List.length_set]; exact hby0.2.2⟩
      · have h1 := hst1.1
        have h2 : Has w2 wd.heap.size (.slice (some ⟨g1, 0, none⟩) gbs.length c1) (gbs.set an z) := by
          unfold Has
          rw [List.length_set, List.map_set]
          exact h1
        exact h2.mono (by omega)
      · rcases List.mem_or_eq_of_mem_set hx with hx | rfl
        · exact hby0.2.1 x hx
        · exact hz

theorem gram_erased {N kn : Nat} {ps : List (Int × ByteArray)} {ln l : Int} {gs : List G} {wz w2 : World} {v2 u : Value} (hS : St N ps ln gs l wz) (hkn : kn < gs.length) (hb : Below wz.heap.size wz w2) (hown : w2.ownsRow wz.heap.size 52 2 v2 (gs.length - 1) (gcells (gs.eraseIdx kn))) (hc : w2.cell? ⟨N + 1, 0, none⟩ = some u) :
    St N ps ln (gs.eraseIdx kn) l (w2.setCell ⟨N + 1, 0, none⟩ v2) ∧ Only (N + 1 + 1 + 1) 52 (N + 1) wz (w2.setCell ⟨N + 1, 0, none⟩ v2) := by
  have hsz := hS.size
  have hS2 := hS.other hb
  have hO : Only (N + 1 + 1 + 1) 52 (N + 1) w2 (w2.setCell ⟨N + 1, 0, none⟩ v2) := (Only.refl _ _ _ _).setCell _
  have hG := hS2.gram
  obtain ⟨_, hfr, hlt, hle, hlen, hbytes⟩ := hG
  have hel : (gs.eraseIdx kn).length = gs.length - 1 := List.length_eraseIdx_of_lt hkn
  refine ⟨hS2.gram' ⟨⟨v2, World.cell?_setCell_same _ _ _ hc, ?_⟩, fun i => ?_, by omega, by simp; omega, by omega, fun p hp => ?_⟩ hO, (Only.of_below hb).trans hO⟩
  · rw [hel]
    refine ownsRow_setCell_below (a := ⟨N + 1, 0, none⟩) ⟨hown.1, ?_⟩ (by dsimp only; omega) _
    rcases hown.2 with h | ⟨g, cap, cur, h1, h2, h3⟩
    · exact .inl h
    · exact .inr ⟨g, cap, cur, h1, by omega, h3⟩
  · rw [World.frozen?_setCell]; exact hfr i
  · obtain ⟨a1, a2⟩ := hbytes p (List.mem_of_mem_eraseIdx hp)
    exact ⟨hO.has (by decide) (by omega) a1, a2⟩

theorem xor_byte (y x : Int) : 0 ≤ bits .xor .u8 y x ∧ bits .xor .u8 y x < 256 := by
  show 0 ≤ IntKind.u8.wrap ((BitVec.ofInt 8 y ^^^ BitVec.ofInt 8 x).toNat : Int) ∧ IntKind.u8.wrap ((BitVec.ofInt 8 y ^^^ BitVec.ofInt 8 x).toNat : Int) < 256
  generalize ((BitVec.ofInt 8 y ^^^ BitVec.ofInt 8 x).toNat : Int) = n
  simp only [IntKind.wrap, IntKind.bits, IntKind.signed]
  constructor <;> simp <;> omega
theorem wrap_succ (k : Nat) (h : k ≤ 1000000) : IntKind.i64.wrap ((k : Int) + 1) = (k : Int) + 1 := by
  simp only [IntKind.wrap, IntKind.bits, IntKind.signed]
  simp
  omega
/-- The cells of the datagrams from the k-th on lie in the row, from there on. -/
theorem row_from {w : World} {B g n cap k : Nat} {e : TypeId} {xs : List Value} (h : w.ownsRow B e 2 (.slice (some ⟨g, 0, none⟩) n cap) n xs) : ∀ j u, (xs.drop (k * 2))[j]? = some u → w.cell? ((⟨g, k * 2, none⟩ : Addr).add j) = some u := by
  intro j u hj
  have ha : (⟨g, k * 2, none⟩ : Addr).add j = ⟨g, k * 2 + j, none⟩ := by simp [Addr.add]
  rw [List.getElem?_drop] at hj
  have hl := h.1
  have hlt := (List.getElem?_eq_some_iff.1 hj).1
  rw [ha, h.cellAt _ (by omega), hj]
theorem row_upto {w : World} {B g n cap k : Nat} {e : TypeId} {xs : List Value} (h : w.ownsRow B e 2 (.slice (some ⟨g, 0, none⟩) n cap) n xs) : ∀ j u, (xs.take (k * 2))[j]? = some u → w.cell? ((⟨g, 0, none⟩ : Addr).add j) = some u := by
  intro j u hj
  have ha : (⟨g, 0, none⟩ : Addr).add j = ⟨g, j, none⟩ := by unfold Addr.add; split <;> simp_all
  rw [List.getElem?_take] at hj
  split at hj
  · have hl := h.1
    have hlt := (List.getElem?_eq_some_iff.1 hj).1
    rw [ha, h.cellAt _ (by omega), hj]
  · cases hj
theorem pk_set {gs : List G} {k : Nat} {g : G} : (gs.set k g).map pk = (gs.map pk).set k (pk g) := List.map_set
theorem pk_erase {gs : List G} {k : Nat} : (gs.eraseIdx k).map pk = (gs.map pk).eraseIdx k := by
  rw [List.eraseIdx_eq_take_drop_succ, List.eraseIdx_eq_take_drop_succ, List.map_append, List.map_take, List.map_drop]
end Go.Proofs.YtbebfliimjjohaaDoor.Net
