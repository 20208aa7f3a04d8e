/-
  What the law's own list of datagrams is, and what its closure does with it, over the turned program.
-/
import Derived.Test.YtbebfliimjjohaaDoorNetSpoil
namespace Go.Proofs.YtbebfliimjjohaaDoor.Net
open Go.RowKit
open Wire (Has bcell Sees conv_sees)
open Num (strOf ints)

/-- A datagram of the law's: for whom, its slice, its bytes. -/
abbrev G := Int × Value × List Int

def gcells (gs : List G) : List Value := gs.flatMap fun p => [.int .i64 p.1, p.2.1]
theorem gcells_length (gs : List G) : (gcells gs).length = gs.length * 2 := by
  induction gs with
  | nil => rfl
  | cons p gs ih =>
    have e : gcells (p :: gs) = [.int .i64 p.1, p.2.1] ++ gcells gs := by simp [gcells]
    rw [e, List.length_append, ih, List.length_cons]
    simp
    omega
theorem gcells_snoc (gs : List G) (p : G) : gcells (gs ++ [p]) = gcells gs ++ [.int .i64 p.1, p.2.1] := by simp [gcells]

/-- The law's list at block q. -/
structure GramIs (w : World) (B q : Nat) (gs : List G) : Prop where
  row : ∃ v, w.cell? ⟨q, 0, none⟩ = some v ∧ w.ownsRow B 52 2 v gs.length (gcells gs)
  free : ∀ i, w.frozen? ⟨q, i, none⟩ = false
  lt : q < B
  le : B ≤ w.heap.size
  len : gs.length ≤ 200
  bytes : ∀ p ∈ gs, Has w B p.2.1 p.2.2 ∧ (∀ x ∈ p.2.2, 0 ≤ x ∧ x < 256) ∧ p.2.2.length ≤ 100

theorem info_gram : (Tryd.prog.info? 52).map (fun i => (i.zero, i.size, i.bytes)) = some (some (.agg #[.int .i64 0, .slice none 0 0]), 2, 32) := by kernel_rfl

theorem Only.has {B : Nat} {t : TypeId} {q : Nat} {w w' : World} {v : Value} {l : List Int} (h : Only B t q w w') (hne : 5 ≠ t) (hq : q < B) (ho : Has w B v l) : Has w' B v l := h.row hne hq ho

set_option maxHeartbeats 2000000 in
set_option maxRecDepth 100000 in
theorem gsend_full (B q ql : Nat) (gs : List G) (lost to : Int) (sv : Value) (w : World) (h : GramIs w B q gs) (hl : gs.length = 200) (h0 : 0 ≤ lost) (h1 : lost ≤ 1000000) (hlc : w.cell? ⟨ql, 0, none⟩ = some (.int .i64 lost)) (hlf : w.frozen? ⟨ql, 0, none⟩ = false) (hqs : ql < w.heap.size) :
    Calls Tryd.prog 22 #[.agg #[.int .i64 to, sv], .pointer (some ⟨q, 0, none⟩), .pointer (some ⟨ql, 0, none⟩)] w fun e w' => e = .returned (.tuple #[]) ∧ ∃ o, w' = (w.setCell ⟨ql, 0, none⟩ (.int .i64 (lost + 1))).alloc o := by
  obtain ⟨⟨v, hv, hrow⟩, hfr, hlt, hle, _, _⟩ := h
  obtain ⟨ao, c, rfl, hnc, _⟩ := row_shape hrow
  rw [hl] at hv hrow
  have hq2 : q < w.heap.size := by omega
  go_enter Tryd.func22, Tryd.ntmps22
  go_wp2_with fail
  refine bodyPost_ret (v := .tuple #[]) (by simp [results, Tryd.results22]) rfl ⟨rfl, ?_⟩
  exact ⟨_, rfl⟩

theorem src_later {w : World} {o1 o2 : Obj} {ad : Addr} {xs : List Value} (h : ∀ j u, xs[j]? = some u → w.cell? (ad.add j) = some u) : ∀ j u, xs[j]? = some u → ((w.alloc o1).alloc o2).drew.cell? (ad.add j) = some u := by
  intro j u hj
  have h1 := h j u hj
  have hb := World.block_lt_of_cell? _ _ h1
  show ((w.alloc o1).alloc o2).cell? (ad.add j) = some u
  rw [World.cell?_alloc_lt _ _ _ (by simp; omega), World.cell?_alloc_lt _ _ _ hb, h1]

theorem empty_row {w : World} {o1 : Obj} {B : Nat} (hB : B ≤ w.heap.size) : ((w.alloc o1).alloc (.cells #[] 5)).drew.ownsRow B 5 1 (.slice (some ⟨w.heap.size + 1, 0, none⟩) 0 0) 0 [] := by
  have h := World.ownsRow_lit (base := B) (e := 5) (size := 1) (w.alloc o1) #[] 0 (by simp; omega) (by decide) rfl
  have h2 : ((w.alloc o1).alloc (.cells #[] 5)).ownsRow B 5 1 (.slice (some ⟨w.heap.size + 1, 0, none⟩) 0 0) 0 [] := by simpa using h
  exact h2

theorem gram_mid {w w1 : World} {o2 : Obj} {B q : Nat} {v x y : Value} {t : TypeId} (hg : ((w.alloc (.cells #[x, y] t)).alloc o2).drew.grownBy w1 (Value.ownBlock (.slice (some ⟨w.heap.size + 1, 0, none⟩) 0 0))) (hq : q < w.heap.size) (hv : w.cell? ⟨q, 0, none⟩ = some v) (hf : w.frozen? ⟨q, 0, none⟩ = false) (hle : B ≤ w.heap.size) :
    w1.cell? ⟨q, 0, none⟩ = some v ∧ w1.frozen? ⟨q, 0, none⟩ = false ∧ q < w1.heap.size ∧ B ≤ w1.heap.size ∧ (w1.cell? ⟨w.heap.size, 0, none⟩ = some x ∧ w1.cell? ⟨w.heap.size, 1, none⟩ = some y) ∧ ∀ (e : TypeId) (s n : Nat) (r : Value) (xs : List Value), w.ownsRow B e s r n xs → w1.ownsRow B e s r n xs := by
  have hsz := hg.size
  simp at hsz
  have hb : ∀ k, k < w.heap.size → w1.heap[k]? = w.heap[k]? := fun k hk => by
    rw [hg.block k (by simp; omega) (by simp [Value.ownBlock]; omega)]
    show ((w.alloc _).alloc o2).heap[k]? = _
    rw [Below.heap_alloc _ _ _ (by simp; omega), Below.heap_alloc _ _ _ hk]
  have hbx : w1.heap[w.heap.size]? = ((w.alloc (.cells #[x, y] t)).alloc o2).heap[w.heap.size]? := hg.block _ (by simp; omega) (by simp [Value.ownBlock])
  refine ⟨(World.cell?_of_block (hb q hq)).trans hv, (World.frozen?_of_block (hb q hq)).trans hf, by omega, by omega, ⟨?_, ?_⟩, fun e s n r xs ho => ⟨ho.1, ?_⟩⟩
  · rw [World.cell?_of_block (a := ⟨w.heap.size, 0, none⟩) hbx]; simp
  · rw [World.cell?_of_block (a := ⟨w.heap.size, 1, none⟩) hbx]; simp
  · rcases ho.2 with h | ⟨g, cap, cur, h1, h2, h3, h4⟩
    · exact .inl h
    · exact .inr ⟨g, cap, cur, h1, h2, (hb g (Array.getElem?_eq_some_iff.1 h3).1).trans h3, h4⟩

theorem two_new1 (w : World) (x y : Value) (t : TypeId) : ∀ j u, [x, y][j]? = some u → (w.alloc (.cells #[x, y] t)).cell? ((⟨w.heap.size, 0, none⟩ : Addr).add j) = some u := by
  intro j u hj
  match j, hj with
  | 0, hj => simp at hj; subst hj; simp [Addr.add]
  | 1, hj => simp at hj; subst hj; simp [Addr.add]
  | n + 2, hj => simp at hj
theorem two_one1 (to : Int) (a : Option Addr) (n c : Nat) : ∀ u ∈ [Value.int .i64 to, Value.slice a n c], u.oneCell' = true := by intro u hu; simp at hu; rcases hu with rfl | rfl <;> rfl

theorem gram_end {w1 w2 : World} {o : Obj} {B q : Nat} {e : TypeId} {s n : Nat} {v x : Value} {xs : List Value} (ho : w1.ownsRow B e s v n xs) (hg : (w1.alloc o).grownBy w2 v.ownBlock) (hq : q < w1.heap.size) (hB : q < B) (hc : w1.cell? ⟨q, 0, none⟩ = some x) (hf : w1.frozen? ⟨q, 0, none⟩ = false) : w2.cell? ⟨q, 0, none⟩ = some x ∧ w2.frozen? ⟨q, 0, none⟩ = false := by
  have hb : w2.heap[q]? = w1.heap[q]? := by
    rw [hg.block q (by simp; omega) (fun h => by have := (ho.lt q h.symm).1; omega), Below.heap_alloc _ _ _ hq]
  exact ⟨(World.cell?_of_block hb).trans hc, (World.frozen?_of_block hb).trans hf⟩

theorem gram_fin {w w1 w2 : World} {o1 o2 o3 : Obj} {B q : Nat} {gs : List G} {to : Int} {v v1 v2 x : Value} {bs : List Int} (hg : ((w.alloc o1).alloc o2).drew.grownBy w1 (Value.ownBlock (.slice (some ⟨w.heap.size + 1, 0, none⟩) 0 0))) (hown : w1.ownsRow B 5 1 v1 bs.length (bs.map (Value.int .u8))) (hrow1 : w1.ownsRow B 52 2 v gs.length (gcells gs))
    (hg2 : (w1.alloc o3).grownBy w2 v.ownBlock) (hown2 : w2.ownsRow B 52 2 v2 (gs.length + 1) (gcells gs ++ [.int .i64 to, v1])) (n1 : w2.cell? ⟨q, 0, none⟩ = some x) (hqs : q < w.heap.size) (hlt : q < B) (hle : B ≤ w.heap.size) (hfr : ∀ i, w.frozen? ⟨q, i, none⟩ = false) (hl : gs.length < 200)
    (hbytes : ∀ p ∈ gs, Has w B p.2.1 p.2.2 ∧ (∀ x ∈ p.2.2, 0 ≤ x ∧ x < 256) ∧ p.2.2.length ≤ 100) (hb : bs.length ≤ 100) (hby : ∀ x ∈ bs, 0 ≤ x ∧ x < 256) :
    GramIs (w2.setCell ⟨q, 0, none⟩ v2) B q (gs ++ [(to, v1, bs)]) ∧ Only B 52 q w (w2.setCell ⟨q, 0, none⟩ v2) := by
  have hsz := hg.size
  simp at hsz
  have hsz2 := hg2.size
  simp at hsz2
  have hold : ∀ k, k < w.heap.size → w1.heap[k]? = w.heap[k]? := fun k hk => by
    rw [hg.block k (by simp; omega) (by simp [Value.ownBlock]; omega)]
    show ((w.alloc o1).alloc o2).heap[k]? = _
    rw [Below.heap_alloc _ _ _ (by simp; omega), Below.heap_alloc _ _ _ hk]
  have O1 : Only B 52 q w w1 := ⟨hg.os, hg.tape, hg.output, by omega, fun k hk _ _ => hold k hk⟩
  have O2 : Only B 52 q w1 (w2.setCell ⟨q, 0, none⟩ v2) := Only.setCell (Only.grown ((Only.refl _ _ _ _).alloc o3) (hrow1.alloc o3) hg2) _
  have hq2 : w2.heap[q]? = w.heap[q]? := by
    rw [hg2.block q (by simp; omega) (fun h => by have := (hrow1.lt q h.symm).1; omega), Below.heap_alloc _ _ _ (by omega), hold q hqs]
  refine ⟨⟨⟨v2, World.cell?_setCell_same _ _ _ n1, ?_⟩, fun i => ?_, hlt, by simp; omega, by simp; omega, fun p hp => ?_⟩, O1.trans O2⟩
  · rw [List.length_append, gcells_snoc]
    exact ownsRow_setCell_below hown2 (a := ⟨q, 0, none⟩) hlt _
  · rw [World.frozen?_setCell, World.frozen?_of_block (a := ⟨q, i, none⟩) hq2, hfr]
  · rcases List.mem_append.1 hp with hp | hp
    · obtain ⟨h1, h2⟩ := hbytes p hp
      exact ⟨O2.has (by decide) hlt (O1.has (by decide) hlt h1), h2⟩
    · obtain rfl := List.mem_singleton.1 hp
      exact ⟨O2.has (by decide) hlt hown, hby, hb⟩

set_option maxHeartbeats 8000000 in
set_option maxRecDepth 100000 in
theorem gsend_room (B q ql : Nat) (gs : List G) (to : Int) (ad : Addr) (bs : List Int) (cs : Nat) (w : World) (h : GramIs w B q gs) (hl : gs.length < 200) (hb : bs.length ≤ 100) (hby : ∀ x ∈ bs, 0 ≤ x ∧ x < 256) (hs : ∀ j u, (bs.map (Value.int .u8))[j]? = some u → w.cell? (ad.add j) = some u) :
    Calls Tryd.prog 22 #[.agg #[.int .i64 to, .slice (some ad) bs.length cs], .pointer (some ⟨q, 0, none⟩), .pointer (some ⟨ql, 0, none⟩)] w fun e w' => e = .returned (.tuple #[]) ∧ ∃ sv, GramIs w' B q (gs ++ [(to, sv, bs)]) ∧ Only B 52 q w w' := by
  obtain ⟨⟨v, hv, hrow⟩, hfr, hlt, hle, hlen, hbytes⟩ := h
  obtain ⟨ao, c, rfl, hnc, _⟩ := row_shape hrow
  have hqs : q < w.heap.size := by omega
  have hf0 := hfr 0
  obtain ⟨i0, hi, hz0, hz1, hz2⟩ := info_parts info_gram
  obtain ⟨j0, hj, hy0, hy1, hy2⟩ := info_parts Wire.info_byte
  have e1 : 0 + bs.length ≤ maxLen := by unfold maxLen; omega
  have e2 : (0 + bs.length) * 1 ≤ 140737488355328 := by omega
  have e3 : gs.length + 1 ≤ maxLen := by unfold maxLen; omega
  have e4 : (gs.length + 1) * 32 ≤ 140737488355328 := by omega
  have e5 : ∀ o1 o2, B ≤ ((w.alloc o1).alloc o2).drew.heap.size := fun o1 o2 => by simp; omega
  have hsrc := fun o1 o2 => src_later (o1 := o1) (o2 := o2) hs
  have hown0 := fun o1 => empty_row (o1 := o1) hle
  go_enter Tryd.func22, Tryd.ntmps22
  go_wp2_with fail
  go_region_law (first | (refine Wire.step_own rfl (wp_append_own _ (.tmp 12) (.tmp 14) 33 rfl B 5 j0 (.int .u8 0) 1 1 Tryd.underlying33 hj hy0 hy1 hy2 rfl (by decide) _ _ _ (by simp [Act.eval]) (hown0 _) ad bs.length cs (bs.map (Value.int .u8)) (by simp [Act.eval]) (by simp) (hsrc _ _) (ints_oneCell _ _) e1 e2 (e5 _ _) ?_); intro v1 w1 hown hg _; obtain ⟨m1, m2, m3, m4, m5, m6⟩ := gram_mid hg hqs hv hf0 hle; have hrow1 := m6 _ _ _ _ _ hrow; simp only [Nat.zero_add, List.nil_append] at hown; obtain ⟨ao1, c1, hv1, _, _⟩ := row_shape hown; rw [hv1] at hown; rw [hv1]) | (refine Wire.step_own rfl (wp_append_own _ (.tmp 9) (.tmp 17) 50 rfl B 52 i0 (.agg #[.int .i64 0, .slice none 0 0]) 2 32 Tryd.underlying50 hi hz0 hz1 hz2 rfl (by decide) _ _ _ (by simp [Act.eval]) (hrow1.alloc _) ⟨w1.heap.size, 0, none⟩ 1 1 [.int .i64 to, .slice ao1 bs.length c1] (by simp [Act.eval]) rfl (two_new1 _ _ _ _) (two_one1 _ _ _ _) e3 e4 (by simp; omega) ?_); intro v2 w2 hown2 hg2 _; obtain ⟨n1, n2⟩ := gram_end hrow1 hg2 m3 hlt m1 m2; obtain ⟨ao2, c2, hv2, _, _⟩ := row_shape hown2; rw [hv2] at hown2; rw [hv2]))
  all_goals
    have F := gram_fin hg hown hrow1 hg2 hown2 n1 hqs hlt hle hfr hl hbytes hb hby
    clear hown hg hg2 hown2 hrow1 m1 m2 m5 n1 n2
    go_wp2
    go_end0
    exact ⟨rfl, _, F⟩
end Go.Proofs.YtbebfliimjjohaaDoor.Net
