/-
  What net.Net's Take does, over the turned program.
-/
import Derived.Test.YtbebfliimjjohaaDoorNetDel
namespace Go.Proofs.YtbebfliimjjohaaDoor.Net
open Go.RowKit
open Wire (Has bcell Sees conv_sees)
open Num (strOf ints)

set_option maxHeartbeats 1000000 in
set_option maxRecDepth 100000 in
theorem take_no (B q : Nat) (ps : List (Int × ByteArray)) (lost k : Int) (w : World) (h : NetIs w B q ps lost) (hk : hasB k ps.length = false) :
    Calls Tryd.prog 24 #[.pointer (some ⟨q, 0, none⟩), .int .i64 k] w fun e w' => e = .returned (.tuple #[.agg #[.int .i64 0, .slice none 0 0], .iface 22 (.int .i64 2)]) ∧ Below w.heap.size w w' := by
  obtain ⟨⟨v, hv, hrow⟩, _, _, hlt, hle, hlen⟩ := h
  obtain ⟨ao, c, rfl, _, _⟩ := row_shape hrow
  have hqs : q < w.heap.size := by omega
  have hv1 := fun o => (World.cell?_alloc_lt w o ⟨q, 0, none⟩ hqs).trans hv
  go_enter Tryd.func24, Tryd.ntmps24
  go_wp2_with (go_at_call 71; refine (has_any q ao ps.length c k _ hlen (hv1 _)).mono ?_; rintro e w' ⟨rfl, rfl⟩)
  exact bodyPost_ret (v := .tuple #[.agg #[.int .i64 0, .slice none 0 0], .iface 22 (.int .i64 2)]) (by simp [results, Tryd.results24, go_sem]) rfl ⟨rfl, (Below.refl _ _).alloc (Nat.le_refl _) _⟩

theorem alloc_mark {X : World} {n j : Nat} {C : Array Value} {t : TypeId} {fr : Nat × Nat} (hn : X.heap.size = n) : (X.alloc (.cells C t fr)).drew.cell? ⟨n, j, none⟩ = C[j]? := by
  subst hn
  exact World.cell?_alloc_mark X C t fr j

theorem Only.setNew {B : Nat} {t : TypeId} {q p i : Nat} {a b : World} (h : Only B t q a b) (hp : a.heap.size ≤ p) (u : Value) : Only B t q a (b.setCell ⟨p, i, none⟩ u) :=
  ⟨h.os, h.tape, h.output, by simpa using h.size, fun k hk hq ht => by rw [Below.heap_setCell b ⟨p, i, none⟩ u k (by show k ≠ p; omega)]; exact h.block k hk hq ht⟩

/-- The world behind a taking. -/
def taken (w2 : World) (q p g n c : Nat) (to : Int) (s : ByteArray) (cp : Nat) : World :=
  ((((w2.setCell ⟨q, 0, none⟩ (.slice (some ⟨g, 0, none⟩) n c)).setCell ⟨p, 0, none⟩ (.int .i64 to)).setCell ⟨p, 1, none⟩ (.slice (some ⟨w2.heap.size, 0, none⟩) s.size cp)).alloc (.cells (bytesRow s cp) 5 ((bytesRow s cp).size, (bytesRow s cp).size + 1))).drew

theorem take_fin {w w2 : World} {B q g n c cp : Nat} {es : List (Int × ByteArray)} {lost to : Int} {s : ByteArray} {u : Value} (hrow : w2.ownsRow B 149 2 (.slice (some ⟨g, 0, none⟩) (n - 1) c) (n - 1) (pcells es)) (hes : es.length = n - 1) (hn : n ≤ 200) (hlt : q < B) (hle : B ≤ w.heap.size) (hgB : B ≤ g) (hgs : g < w.heap.size) (hO : Only B 149 q w w2)
    (d0 : w2.cell? ⟨q, 0, none⟩ = some u) (dl : w2.cell? ⟨q, 1, none⟩ = some (.int .i64 lost)) (dfq : ∀ i, w2.frozen? ⟨q, i, none⟩ = false) (d1 : w2.cell? ⟨w.heap.size, 0, none⟩ = some (.int .i64 0)) (d2 : w2.cell? ⟨w.heap.size, 1, none⟩ = some (.slice none 0 0)) (hlt1 : w.heap.size < w2.heap.size) (hge : s.size ≤ cp) (hcx : cp ≤ maxLen) :
    Sees (taken w2 q w.heap.size g (n - 1) c to s cp) (taken w2 q w.heap.size g (n - 1) c to s cp).heap.size (.slice (some ⟨w2.heap.size, 0, none⟩) s.size cp) (ints s) ∧ NetIs (taken w2 q w.heap.size g (n - 1) c to s cp) B q es lost ∧ Only B 149 q w (taken w2 q w.heap.size g (n - 1) c to s cp) ∧
      (taken w2 q w.heap.size g (n - 1) c to s cp).cell? ⟨w.heap.size, 0, none⟩ = some (.int .i64 to) ∧ (taken w2 q w.heap.size g (n - 1) c to s cp).cell? ⟨w.heap.size, 1, none⟩ = some (.slice (some ⟨w2.heap.size, 0, none⟩) s.size cp) := by
  have hc : ∀ b i, b < w2.heap.size → (taken w2 q w.heap.size g (n - 1) c to s cp).cell? ⟨b, i, none⟩ = (((w2.setCell ⟨q, 0, none⟩ (.slice (some ⟨g, 0, none⟩) (n - 1) c)).setCell ⟨w.heap.size, 0, none⟩ (.int .i64 to)).setCell ⟨w.heap.size, 1, none⟩ (.slice (some ⟨w2.heap.size, 0, none⟩) s.size cp)).cell? ⟨b, i, none⟩ := fun b i hb => World.cell?_alloc_lt _ _ ⟨b, i, none⟩ (by simpa using hb)
  have hqp : q ≠ w.heap.size := by omega
  refine ⟨?_, ⟨⟨.slice (some ⟨g, 0, none⟩) (n - 1) c, ?_, ?_⟩, ?_, fun i => ?_, hlt, ?_, by omega⟩, ?_, ?_, ?_⟩
  · refine ⟨_, cp, by rw [Num.ints_length], by rw [Num.ints_length]; exact hge, hcx, Num.ints_byte s, fun hp => ⟨w2.heap.size, 0, rfl, by simp [taken], fun j hj => ?_⟩⟩
    rw [Num.ints_length] at hj
    rw [Nat.zero_add]
    have hj' : j < s.data.size := hj
    have hb := bytesRow_at s cp j hj'
    have e : (ints s).getD j 0 = ((s.data[j]).toNat : Int) := by
      unfold Num.ints
      rw [List.getD_eq_getElem?_getD, List.getElem?_map, Array.getElem?_toList, Array.getElem?_eq_getElem hj']
      rfl
    rw [e, ← hb]
    have hsz2 : (((w2.setCell ⟨q, 0, none⟩ (.slice (some ⟨g, 0, none⟩) (n - 1) c)).setCell ⟨w.heap.size, 0, none⟩ (.int .i64 to)).setCell ⟨w.heap.size, 1, none⟩ (.slice (some ⟨w2.heap.size, 0, none⟩) s.size cp)).heap.size = w2.heap.size := by simp
    exact alloc_mark hsz2
  · rw [hc _ _ (by omega), World.cell?_setCell_other _ _ _ _ (by intro e; injection e with e; omega), World.cell?_setCell_other _ _ _ _ (by intro e; injection e with e; omega), World.cell?_setCell_same _ _ _ d0]
  · rw [hes]
    have r1 := ownsRow_setCell_below hrow (a := ⟨q, 0, none⟩) hlt (.slice (some ⟨g, 0, none⟩) (n - 1) c)
    have r2 := ownsRow_setCell_other r1 (a := ⟨w.heap.size, 0, none⟩) (by simp [Value.ownBlock]; omega) (.int .i64 to)
    have r3 := ownsRow_setCell_other r2 (a := ⟨w.heap.size, 1, none⟩) (by simp [Value.ownBlock]; omega) (.slice (some ⟨w2.heap.size, 0, none⟩) s.size cp)
    exact r3.alloc _
  · rw [hc _ _ (by omega), World.cell?_setCell_other _ _ _ _ (by intro e; injection e with e; omega), World.cell?_setCell_other _ _ _ _ (by intro e; injection e with e; omega), World.cell?_setCell_other _ _ _ _ (by simp), dl]
  · show (World.alloc _ _).frozen? ⟨q, i, none⟩ = false
    rw [World.frozen?_alloc_old _ _ _ (by show q ≠ _; simp; omega)]
    simpa using dfq i
  · simp [taken]
    omega
  · exact ((((hO.setCell _).setNew (Nat.le_refl _) _).setNew (Nat.le_refl _) _).alloc _).drew
  · rw [hc _ _ (by omega), World.cell?_setCell_other _ _ _ _ (by simp), World.cell?_setCell_same (h := by rw [World.cell?_setCell_other _ _ _ _ (by intro e; injection e with e; omega)]; exact d1)]
  · rw [hc _ _ (by omega), World.cell?_setCell_same (h := by rw [World.cell?_setCell_other _ _ _ _ (by simp), World.cell?_setCell_other _ _ _ _ (by intro e; injection e with e; omega)]; exact d2)]

set_option maxHeartbeats 2000000 in
set_option maxRecDepth 100000 in
theorem take_yes (B q : Nat) (ps : List (Int × ByteArray)) (lost : Int) (k : Nat) (w : World) (h : NetIs w B q ps lost) (hk : k < ps.length) (hsz : ps[k].2.size ≤ 300) :
    Calls Tryd.prog 24 #[.pointer (some ⟨q, 0, none⟩), .int .i64 k] w fun e w' => ∃ sv, e = .returned (.tuple #[.agg #[.int .i64 ps[k].1, sv], .nilIface]) ∧ Sees w' w'.heap.size sv (ints ps[k].2) ∧ NetIs w' B q (ps.eraseIdx k) lost ∧ Only B 149 q w w' := by
  have hlen := h.len
  have hlt := h.lt
  have hle := h.le
  have hfr0 := h.free 0
  have hls := h.lost
  have hfrs := h.free
  obtain ⟨g, c, hv, hrow, hnc, hgB, hgs, hc0, hc1⟩ := h.at k hk
  have hhas : hasB (k : Int) ps.length = true := hasB_true (by omega) (by omega)
  have hkI : (k : Int) < (ps.length : Int) := by omega
  have hqs : q < w.heap.size := by omega
  have hcm : c ≤ 9223372036854775807 := by
    rcases hrow.2 with ⟨h, _⟩ | ⟨g', cap, cur, he, _, _, _, hm, _⟩
    · cases h
    · injection he with _ _ e3
      subst e3
      exact hm
  generalize hp : ps[k] = p at *
  obtain ⟨to, s⟩ := p
  dsimp only at hc0 hc1 hsz ⊢
  clear hp
  have hv1 := fun o => (World.cell?_alloc_lt w o ⟨q, 0, none⟩ hqs).trans hv
  go_enter Tryd.func24, Tryd.ntmps24
  go_wp2_with (go_at_call 71; refine (has_any q _ ps.length c k _ hlen (hv1 _)).mono ?_; rintro e w' ⟨rfl, rfl⟩)
  refine (del_any B g c ps k _ hk hlen hnc hcm ((hrow.alloc _).alloc _)).mono ?_
  rintro e w2 ⟨rfl, hrow2, hg2⟩
  have hz2 := hg2.size
  simp at hz2
  have d0 : w2.cell? ⟨q, 0, none⟩ = some (.slice (some ⟨g, 0, none⟩) ps.length c) := hg2.cell ((World.cell?_alloc_lt _ _ ⟨q, 0, none⟩ (by simp; omega)).trans (hv1 _)) (by intro e; have e' : q = g := (by injection e); omega)
  have df : w2.frozen? ⟨q, 0, none⟩ = false := (World.frozen?_of_block (hg2.block q (by simp; omega) (by intro e; injection e with e; omega))).trans (by rw [World.frozen?_alloc_old _ _ _ (by show q ≠ _; simp; omega), World.frozen?_alloc_old _ _ _ (by show q ≠ _; omega)]; exact hfr0)
  have d1 : w2.cell? ⟨w.heap.size, 0, none⟩ = some (.int .i64 0) := hg2.cell (by simp) (by simp; omega)
  have d2 : w2.cell? ⟨w.heap.size, 1, none⟩ = some (.slice none 0 0) := hg2.cell (by simp) (by simp; omega)
  have d3 : w2.cell? ⟨w.heap.size + 1, 0, none⟩ = some (.int .i64 to) := hg2.cell (by simp) (by simp; omega)
  have d4 : w2.cell? ⟨w.heap.size + 1, 1, none⟩ = some (.string s) := hg2.cell (by simp) (by simp; omega)
  have df1 : ∀ i, w2.frozen? ⟨w.heap.size, i, none⟩ = false := fun i => (World.frozen?_of_block (hg2.block w.heap.size (by simp; omega) (by intro e; injection e with e; omega))).trans (by simp)
  have hby := fun W => run_bytes_of_string (P := Tryd.prog) W 9 33 5 s Tryd.underlying9 Tryd.underlying33 Tryd.underlying5
  have hlt1 : w.heap.size < w2.heap.size := by omega
  have k0 : ∀ o, ((w2.setCell ⟨q, 0, none⟩ (.slice (some ⟨g, 0, none⟩) (ps.length - 1) c)).alloc o).cell? ⟨w.heap.size, 0, none⟩ = some (.int .i64 0) := fun o => by
    rw [World.cell?_alloc_lt _ _ ⟨w.heap.size, 0, none⟩ (by simpa using hlt1), World.cell?_setCell_other _ _ _ _ (by intro e; injection e with e; omega), d1]
  have k1 : ∀ o, ((w2.setCell ⟨q, 0, none⟩ (.slice (some ⟨g, 0, none⟩) (ps.length - 1) c)).alloc o).cell? ⟨w.heap.size, 1, none⟩ = some (.slice none 0 0) := fun o => by
    rw [World.cell?_alloc_lt _ _ ⟨w.heap.size, 1, none⟩ (by simpa using hlt1), World.cell?_setCell_other _ _ _ _ (by intro e; injection e with e; omega), d2]
  have kf : ∀ o i, ((w2.setCell ⟨q, 0, none⟩ (.slice (some ⟨g, 0, none⟩) (ps.length - 1) c)).alloc o).frozen? ⟨w.heap.size, i, none⟩ = false := fun o i => by
    rw [World.frozen?_alloc_old _ _ _ (by show w.heap.size ≠ _; simp; omega), World.frozen?_setCell, df1]
  have hge := grownCap_ge (w2.setCell ⟨q, 0, none⟩ (.slice (some ⟨g, 0, none⟩) (ps.length - 1) c)) s.size 0 5
  have hcx := grownCap_le_maxLen (w2.setCell ⟨q, 0, none⟩ (.slice (some ⟨g, 0, none⟩) (ps.length - 1) c)) s.size 0 5 (by unfold maxLen; omega)
  have hlen1 : (ps.eraseIdx k).length = ps.length - 1 := List.length_eraseIdx_of_lt hk
  have h2w : ((w.alloc (.cells #[.int .i64 0, .slice none 0 0] 52)).alloc (.cells #[.int .i64 to, .string s] 149)).ownsRow B 149 2 (.slice (some ⟨g, 0, none⟩) ps.length c) ps.length (pcells ps) := (hrow.alloc _).alloc _
  have hO : Only B 149 q w w2 := Only.grown (((Only.refl _ _ _ _).alloc _).alloc _) h2w hg2
  have dl : w2.cell? ⟨q, 1, none⟩ = some (.int .i64 lost) := hg2.cell ((World.cell?_alloc_lt _ _ ⟨q, 1, none⟩ (by simp; omega)).trans ((World.cell?_alloc_lt _ _ ⟨q, 1, none⟩ hqs).trans hls)) (by intro e; have e' : q = g := (by injection e); omega)
  have dfq : ∀ i, w2.frozen? ⟨q, i, none⟩ = false := fun i => (World.frozen?_of_block (hg2.block q (by simp; omega) (by intro e; injection e with e; omega))).trans (by rw [World.frozen?_alloc_old _ _ _ (by show q ≠ _; simp; omega), World.frozen?_alloc_old _ _ _ (by show q ≠ _; omega)]; exact hfrs i)
  go_wp2_with fail
  generalize grownCap (w2.setCell ⟨q, 0, none⟩ (.slice (some ⟨g, 0, none⟩) (ps.length - 1) c)) s.size 0 5 = cp at *
  have F := take_fin (s := s) (to := to) (cp := cp) hrow2 hlen1 hlen hlt hle hgB hgs hO d0 dl dfq d1 d2 hlt1 hge hcx
  clear k0 k1 kf hby hg2 hrow2 hrow h2w
  obtain ⟨F1, F2, F3, F4, F5⟩ := F
  change bodyPost _ _ _ _ _ (taken w2 q w.heap.size g (ps.length - 1) c to s cp)
  generalize taken w2 q w.heap.size g (ps.length - 1) c to s cp = W at *
  clear d0 df d1 d2 d3 d4 df1 dl dfq hv hv1 hc0 hc1
  exact bodyPost_ret (v := .tuple #[.agg #[.int .i64 to, .slice (some ⟨w2.heap.size, 0, none⟩) s.size cp], .nilIface]) (by simp [results, Tryd.results24, go_sem, F4, F5]) rfl ⟨_, rfl, F1, F2, F3⟩
end Go.Proofs.YtbebfliimjjohaaDoor.Net
