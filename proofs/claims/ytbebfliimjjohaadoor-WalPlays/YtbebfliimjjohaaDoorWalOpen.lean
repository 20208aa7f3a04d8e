/-
  What a Wal holds; contracts of wal.Open over the turned program.
-/
import Derived.Test.YtbebfliimjjohaaDoorWalWrite
import Derived.Test.YtbebfliimjjohaaDoorRefe
namespace Go.Proofs.YtbebfliimjjohaaDoor.Wal
open Go.RowKit
open Num (inB ints strOf)
open Wire (bcell)

def rcells (rs : List R) : List Value := rs.flatMap R.cells
theorem rcells_length (rs : List R) : (rcells rs).length = rs.length * 6 := by
  induction rs with
  | nil => rfl
  | cons r rs ih =>
    have e : rcells (r :: rs) = r.cells ++ rcells rs := by simp [rcells]
    rw [e, List.length_append, ih, List.length_cons, R.cells_length]
    omega
theorem rcells_snoc (rs : List R) (r : R) : rcells (rs ++ [r]) = rcells rs ++ r.cells := by simp [rcells]
theorem rcells_one (rs : List R) : ∀ u ∈ rcells rs, u.oneCell' = true := by
  intro u hu
  simp only [rcells, List.mem_flatMap] at hu
  obtain ⟨r, _, h⟩ := hu
  exact R.cells_one r u h

/-- The Wal at block u, of the disk at block q. -/
structure WalIs (w : World) (u q : Nat) (rs : List R) (down : Bool) : Prop where
  disk : w.cell? ⟨u, 0, none⟩ = some (.pointer (some ⟨q, 0, none⟩))
  row : ∃ v, w.cell? ⟨u, 1, none⟩ = some v ∧ w.ownsRow (u + 1) 76 6 v rs.length (rcells rs)
  down : w.cell? ⟨u, 2, none⟩ = some (.bool down)
  free : ∀ i, w.frozen? ⟨u, i, none⟩ = false
  lt : u < w.heap.size
  typ : ∃ cs f, w.heap[u]? = some (.cells cs 153 f)

theorem row_below {w w' : World} {B s n : Nat} {e : TypeId} {v : Value} {xs : List Value} (h : w.ownsRow B e s v n xs) (hb : Below w.heap.size w w') : w'.ownsRow B e s v n xs := by
  refine ⟨h.1, ?_⟩
  rcases h.2 with h | ⟨g, cap, cur, h1, h2, h3, h4⟩
  · exact .inl h
  · exact .inr ⟨g, cap, cur, h1, h2, (hb.block g (Array.getElem?_eq_some_iff.1 h3).1).trans h3, h4⟩
theorem typ_set {w : World} {u i : Nat} {v : Value} {t : TypeId} (h : ∃ cs f, w.heap[u]? = some (.cells cs t f)) : ∃ cs f, (w.setCell ⟨u, i, none⟩ v).heap[u]? = some (.cells cs t f) := by
  obtain ⟨cs, f, h⟩ := h
  refine ⟨cs.setIfInBounds i v, f, ?_⟩
  simp [World.setCell, Array.getElem?_modify, h]
theorem row_shape {w : World} {B : Nat} {e : TypeId} {s n : Nat} {v : Value} {xs : List Value} (h : w.ownsRow B e s v n xs) : ∃ ao c, v = .slice ao n c ∧ n ≤ c ∧ (ao = none → n = 0 ∧ c = 0) := by
  rcases h.2 with ⟨rfl, rfl⟩ | ⟨g, cap, cur, rfl, _, _, hn, _⟩
  · exact ⟨none, 0, rfl, Nat.le_refl _, fun _ => ⟨rfl, rfl⟩⟩
  · exact ⟨_, cap, rfl, hn, fun h => by cases h⟩
theorem WalIs.below {w w' : World} {u q : Nat} {rs : List R} {down : Bool} (h : WalIs w u q rs down) (hb : Below w.heap.size w w') : WalIs w' u q rs down := by
  obtain ⟨h1, ⟨v, hv, hr⟩, h3, h4, h5, h6⟩ := h
  exact ⟨(hb.cell (p := ⟨u, 0, none⟩) h5).trans h1, ⟨v, (hb.cell (p := ⟨u, 1, none⟩) h5).trans hv, row_below hr hb⟩, (hb.cell (p := ⟨u, 2, none⟩) h5).trans h3, fun i => (hb.frozen (p := ⟨u, i, none⟩) h5).trans (h4 i), by have := hb.size; omega, h6.imp fun _ h => h.imp fun _ h => (hb.block u h5).trans h⟩

set_option maxRecDepth 100000 in
theorem open_nil (w : World) :
    Calls Tryd.prog 29 #[.pointer none] w fun e w' => e = .returned (.tuple #[.pointer none, .iface 22 (.int .i64 7)]) ∧ w' = w := by
  go_enter Tryd.func29, Tryd.ntmps29
  go_wp2_with fail
  go_ret2
  exact ⟨rfl, rfl⟩

theorem wal_new (w : World) (q : Nat) : WalIs (w.alloc (.cells #[.pointer (some ⟨q, 0, none⟩), .slice none 0 0, .bool false] 153)) w.heap.size q [] false :=
  ⟨by simp, ⟨.slice none 0 0, by simp, World.ownsRow_nil _ _ _ _⟩, by simp, fun i => by simp, by simp, _, _, heap_alloc_new w _⟩
theorem rec_made (w : World) (r : R) : ∀ j u, r.cells[j]? = some u → (w.alloc (.cells #[.int .i64 r.c, .int .i64 r.n, .int .i64 r.o, .int .i64 r.v, .string r.d, .int .i64 r.e] 76)).cell? ((⟨w.heap.size, 0, none⟩ : Addr).add j) = some u := by
  intro j u hj
  rw [Addr.add_mid, Nat.zero_add, cell_of_row _ _ _ _ _ _ (heap_alloc_new w _), ← hj]
  exact List.getElem?_toArray
theorem info_record : (Tryd.prog.info? 76).map (fun i => (i.zero, i.size, i.bytes)) = some (some (.agg #[.int .i64 0, .int .i64 0, .int .i64 0, .int .i64 0, .string ⟨#[]⟩, .int .i64 0]), 6, 56) := by kernel_rfl

set_option maxHeartbeats 4000000 in
set_option maxRecDepth 100000 in
theorem open_any (q : Nat) (rs : List R) (fails : Bool) (left : Int) (w : World) (h : DiskIs w q rs fails left) (hq : q < w.heap.size) :
    Calls Tryd.prog 29 #[.pointer (some ⟨q, 0, none⟩)] w fun e w' => ∃ u, e = .returned (.tuple #[.pointer (some ⟨u, 0, none⟩), .nilIface]) ∧ WalIs w' u q rs false ∧ w.heap.size ≤ u ∧ Below w.heap.size w w' := by
  have hlen := h.len
  go_enter Tryd.func29, Tryd.ntmps29
  go_wp2_with fail
  have hbx := (Below.refl w.heap.size w).alloc (Nat.le_refl _) (.cells #[.pointer (some ⟨q, 0, none⟩), .slice none 0 0, .bool false] 153)
  have hW0 : WalIs (w.alloc (.cells #[.pointer (some ⟨q, 0, none⟩), .slice none 0 0, .bool false] 153)) w.heap.size q (rs.take 0) false := wal_new w q
  refine (many_any q rs fails left _ (h.below hbx hq)).mono ?_
  rintro e w' ⟨rfl, hw'⟩
  rw [hw']
  clear hw'
  generalize w.alloc (.cells #[.pointer (some ⟨q, 0, none⟩), .slice none 0 0, .bool false] 153) = wb at *
  go_wp2_with fail
  go_loopw [14] (fun s wr => ∃ k : Nat, k ≤ rs.length ∧ s = .int .i64 k ∧ WalIs wr w.heap.size q (rs.take k) false ∧ Below w.heap.size w wr) (fun s _ => rs.length - (intOf s).toNat)
  case atStart => exact ⟨0, by omega, rfl, hW0, hbx⟩
  case round =>
    obtain ⟨k, hk, rfl, hW, hB⟩ := hrel
    by_cases hlt : k < rs.length
    · have hD := h.below hB hq
      have hP := hD.recs k hlt
      have hOk := h.ok _ (List.getElem_mem hlt)
      have hD2 := hW.disk
      have hW2 := hW.down
      have hWf := hW.free
      have hus := hW.lt
      have hty := hW.typ
      obtain ⟨v, hv, hrow⟩ := hW.row
      obtain ⟨va, vc, rfl, hvc, _⟩ := row_shape hrow
      have htl : (rs.take k).length = k := by rw [List.length_take]; omega
      have HT : Hid (rs.take (k + 1) = rs.take k ++ [rs[k]]) := List.take_succ_eq_append_getElem hlt
      rw [htl] at hv hrow
      generalize rs[k] = r at *
      generalize rs.take k = rk at *
      have hrg := hP.2.1
      have hcl : ((full r).map (Value.int .u8)).length = 62 := by rw [List.length_map, full_length hOk.1]
      have hi62 := info_place
      rw [← hcl] at hi62
      obtain ⟨i0, hi, hy0, hy1, hy2⟩ := info_parts info_record
      have hk0 : (0 : Int) ≤ (k : Int) := by omega
      have hk1 : (k : Int) < 200 := by omega
      have e3 : k + 1 ≤ maxLen := by unfold maxLen; omega
      have e4 : (k + 1) * 56 ≤ 140737488355328 := by omega
      have hf1 := hWf 1
      have hqu : q ≠ w.heap.size := by omega
      clear hP hD hW hW0 hbx
      go_wp2_with fail
      refine Gen.start (S := fun w' => w'.cell? ⟨w.heap.size, 1, none⟩ = some (.slice va k vc) ∧ w'.rangeAt q (k * 62) ((full r).map (Value.int .u8))) (by kernel_rfl) ⟨hv, hrg⟩ (fun hHeld => ?_)
      refine Gen.take (i := 0) (k := 14) (v := ?_) rfl rfl (by kernel_rfl) (by kernel_rfl) (by kernel_rfl) (by kernel_rfl) (by kernel_rfl) (by kernel_rfl) (fun _ _ _ h => h) (Or.inl ⟨by rfl, ?_⟩) hHeld ?_
      rotate_left
      · intro w' hSw
        go_simp
        try with_reducible rfl
      simp only [Act.put, List.setIfInBounds_toArray, List.set_cons_zero, List.set_cons_succ]
      refine Gen.take (i := 1) (k := 2) (v := ?_) rfl rfl (by kernel_rfl) (by kernel_rfl) (by kernel_rfl) (by kernel_rfl) (by kernel_rfl) (by kernel_rfl) (fun _ _ _ h => h) (Or.inl ⟨by rfl, ?_⟩) hHeld ?_
      rotate_left
      · intro w' hSw
        go_simp
        try with_reducible rfl
      simp only [Act.put, List.setIfInBounds_toArray, List.set_cons_zero, List.set_cons_succ]
      refine Gen.take (i := 2) (k := 3) (v := ?_) rfl rfl (by kernel_rfl) (by kernel_rfl) (by kernel_rfl) (by kernel_rfl) (by kernel_rfl) (by kernel_rfl) (fun _ _ _ h => h) (Or.inl ⟨by rfl, ?_⟩) hHeld ?_
      rotate_left
      · intro w' hSw
        go_simp
        try with_reducible rfl
      simp only [Act.put, List.setIfInBounds_toArray, List.set_cons_zero, List.set_cons_succ]
      refine Gen.take (i := 3) (k := 4) (v := ?_) rfl rfl (by kernel_rfl) (by kernel_rfl) (by kernel_rfl) (by kernel_rfl) (by kernel_rfl) (by kernel_rfl) (fun _ _ _ h => h) (Or.inl ⟨by rfl, ?_⟩) hHeld ?_
      rotate_left
      · intro w' hSw
        go_simp
        try with_reducible rfl
      simp only [Act.put, List.setIfInBounds_toArray, List.set_cons_zero, List.set_cons_succ]
      refine Gen.take (i := 4) (k := 13) (v := ?_) rfl rfl (by kernel_rfl) (by kernel_rfl) (by kernel_rfl) (by kernel_rfl) (by kernel_rfl) (by kernel_rfl) (fun _ _ _ h => h) (Or.inl ⟨by rfl, ?_⟩) hHeld ?_
      rotate_left
      · intro w' hSw
        go_simp
        try with_reducible rfl
      simp only [Act.put, List.setIfInBounds_toArray, List.set_cons_zero, List.set_cons_succ]
      refine Gen.take (i := 5) (k := 7) (v := ?_) rfl rfl (by kernel_rfl) (by kernel_rfl) (by kernel_rfl) (by kernel_rfl) (by kernel_rfl) (by kernel_rfl) (fun _ _ _ h => h) (Or.inl ⟨by rfl, ?_⟩) hHeld ?_
      rotate_left
      · intro w' hSw
        go_simp
        try with_reducible rfl
      simp only [Act.put, List.setIfInBounds_toArray, List.set_cons_zero, List.set_cons_succ]
      refine Gen.take (i := 6) (k := 9) (v := ?_) rfl rfl (by kernel_rfl) (by kernel_rfl) (by kernel_rfl) (by kernel_rfl) (by kernel_rfl) (by kernel_rfl) (fun _ _ _ h => h) (Or.inl ⟨by rfl, ?_⟩) hHeld ?_
      rotate_left
      · intro w' hSw
        go_simp
        try with_reducible rfl
      simp only [Act.put, List.setIfInBounds_toArray, List.set_cons_zero, List.set_cons_succ]
      refine Gen.take (i := 7) (k := 8) (v := ?_) rfl rfl (by kernel_rfl) (by kernel_rfl) (by kernel_rfl) (by kernel_rfl) (by kernel_rfl) (by kernel_rfl) (fun _ _ _ h => h) (Or.inl ⟨by rfl, ?_⟩) hHeld ?_
      rotate_left
      · intro w' hSw
        go_simp
        try with_reducible rfl
      simp only [Act.put, List.setIfInBounds_toArray, List.set_cons_zero, List.set_cons_succ]
      refine Gen.take (i := 8) (k := 9) (v := ?_) rfl rfl (by kernel_rfl) (by kernel_rfl) (by kernel_rfl) (by kernel_rfl) (by kernel_rfl) (by kernel_rfl) (fun _ _ _ h => h) (Or.inl ⟨by rfl, ?_⟩) hHeld ?_
      rotate_left
      · intro w' hSw
        go_simp
        try with_reducible rfl
      simp only [Act.put, List.setIfInBounds_toArray, List.set_cons_zero, List.set_cons_succ]
      refine Gen.take (i := 9) (k := 10) (v := ?_) rfl rfl (by kernel_rfl) (by kernel_rfl) (by kernel_rfl) (by kernel_rfl) (by kernel_rfl) (by kernel_rfl) (fun _ _ _ h => h) (Or.inl ⟨by rfl, ?_⟩) hHeld ?_
      rotate_left
      · intro w' hSw
        go_simp
        try with_reducible rfl
      simp only [Act.put, List.setIfInBounds_toArray, List.set_cons_zero, List.set_cons_succ]
      refine Gen.take (i := 10) (k := 11) (v := _) rfl rfl (by kernel_rfl) (by kernel_rfl) (by kernel_rfl) (by kernel_rfl) (by kernel_rfl) (by kernel_rfl) (fun _ _ _ h => h) (yieldsIf_load_mid (by rfl) 65 (.tmp 26) rfl _ _ rfl _ _ (fun _ h => h.2) Tryd.underlying65 rfl hi62) hHeld ?_
      simp only [Act.put, List.setIfInBounds_toArray, List.set_cons_zero, List.set_cons_succ]
      refine Gen.one (i := 11) (by kernel_rfl) rfl rfl (fun K hK => ?_)
      go_simp
      refine (read_any r _ hOk.1 hOk.2).mono ?_
      rintro e w2 ⟨rfl, hb2⟩
      dsimp only
      have hs2 := hb2.size
      have hbr : Below wr.heap.size wr w2 := ⟨hb2.os, hb2.tape, hb2.output, hb2.size, hb2.block⟩
      refine hK.out _ _ ⟨(hbr.cell (p := ⟨w.heap.size, 1, none⟩) hus).trans hv, fun j v hv => (hbr.cell (p := ⟨q, k * 62 + j, none⟩) (by dsimp only; omega)).trans (hrg j v hv)⟩ (fun hHeld => ?_)
      clear hK K
      try simp only [Act.put, List.setIfInBounds_toArray, List.set_cons_zero, List.set_cons_succ]
      refine Gen.one (i := 12) (by kernel_rfl) rfl rfl (fun K hK => ?_)
      go_simp
      have hb3 : Below wr.heap.size wr (w2.alloc (.cells #[.int .i64 r.c, .int .i64 r.n, .int .i64 r.o, .int .i64 r.v, .string r.d, .int .i64 r.e] 76)) := hbr.alloc hs2 _
      refine hK.out _ _ ⟨(hb3.cell (p := ⟨w.heap.size, 1, none⟩) hus).trans hv, fun j v hv => (hb3.cell (p := ⟨q, k * 62 + j, none⟩) (by dsimp only; omega)).trans (hrg j v hv)⟩ (fun hHeld => ?_)
      clear hK K
      try simp only [Act.put, List.setIfInBounds_toArray, List.set_cons_zero, List.set_cons_succ]
      refine Gen.one (i := 13) (by kernel_rfl) rfl rfl (fun K hK => ?_)
      refine wp_append_own _ (.tmp 21) (.tmp 29) 83 rfl (w.heap.size + 1) 76 i0 (.agg #[.int .i64 0, .int .i64 0, .int .i64 0, .int .i64 0, .string ⟨#[]⟩, .int .i64 0]) 6 56 Tryd.underlying83 hi hy0 hy1 hy2 rfl (by decide) _ _ _ (by rfl) (row_below hrow hb3) ⟨w2.heap.size, 0, none⟩ 1 1 r.cells (by rfl) rfl (rec_made w2 r) r.cells_one e3 e4 (by have := hb3.size; omega) ?_
      intro v1 w3 hown1 hg1 _
      rw [← rcells_snoc] at hown1
      obtain ⟨va1, vc1, rfl, _, _⟩ := row_shape hown1
      have hb4 : Below (w.heap.size + 1) wr w3 := (hb3.mono (by omega)).grown hg1 (by have := hb3.size; omega) (fun k hk => ((row_below hrow hb3).lt k hk).1)
      have m1 := (hb4.cell (p := ⟨w.heap.size, 1, none⟩) (by dsimp only; omega)).trans hv
      have m2 : w3.frozen? ⟨w.heap.size, 1, none⟩ = false := (hb4.frozen (p := ⟨w.heap.size, 1, none⟩) (by dsimp only; omega)).trans hf1
      refine hK.out _ _ ⟨m1, fun j v hv => (hb4.cell (p := ⟨q, k * 62 + j, none⟩) (by dsimp only; omega)).trans (hrg j v hv)⟩ (fun hHeld => ?_)
      clear hK K
      try simp only [Act.put, List.setIfInBounds_toArray, List.set_cons_zero, List.set_cons_succ]
      refine Gen.take (i := 14) (k := 15) (v := ?_) rfl rfl (by kernel_rfl) (by kernel_rfl) (by kernel_rfl) (by kernel_rfl) (by kernel_rfl) (by kernel_rfl) (fun _ _ _ h => h) (Or.inl ⟨by rfl, ?_⟩) hHeld ?_
      rotate_left
      · intro w' hSw
        go_simp
        try with_reducible rfl
      simp only [Act.put, List.setIfInBounds_toArray, List.set_cons_zero, List.set_cons_succ]
      refine Gen.take (i := 15) (k := 16) (v := ?_) rfl rfl (by kernel_rfl) (by kernel_rfl) (by kernel_rfl) (by kernel_rfl) (by kernel_rfl) (by kernel_rfl) (fun _ _ _ h => h) (Or.inl ⟨by rfl, ?_⟩) hHeld ?_
      rotate_left
      · intro w' hSw
        go_simp
        try with_reducible rfl
      simp only [Act.put, List.setIfInBounds_toArray, List.set_cons_zero, List.set_cons_succ]
      refine Gen.last (i := 16) (by kernel_rfl) rfl rfl (by kernel_rfl) (by kernel_rfl) (fun K hK => ?_)
      go_simp
      refine hK.out _ _ ?_
      clear hK K hHeld
      have hWn : WalIs (w3.setCell ⟨w.heap.size, 1, none⟩ (.slice va1 (k + 1) vc1)) w.heap.size q (rk ++ [r]) false := by
        refine ⟨?_, ⟨_, World.cell?_setCell_same _ _ _ m1, ?_⟩, ?_, fun i => ?_, by have := hb4.size; simp; omega, typ_set (hty.imp fun _ h => h.imp fun _ h => (hb4.block _ (by omega)).trans h)⟩
        · rw [World.cell?_setCell_other _ _ _ _ (by simp)]; exact (hb4.cell (p := ⟨w.heap.size, 0, none⟩) (by dsimp only; omega)).trans hD2
        · rw [List.length_append, htl]
          exact ownsRow_setCell_below (a := ⟨w.heap.size, 1, none⟩) hown1 (by dsimp only; omega) _
        · rw [World.cell?_setCell_other _ _ _ _ (by simp)]; exact (hb4.cell (p := ⟨w.heap.size, 2, none⟩) (by dsimp only; omega)).trans hW2
        · rw [World.frozen?_setCell]; exact (hb4.frozen (p := ⟨w.heap.size, i, none⟩) (by dsimp only; omega)).trans (hWf i)
      have hBn : Below w.heap.size w (w3.setCell ⟨w.heap.size, 1, none⟩ (.slice va1 (k + 1) vc1)) := (hB.trans (hb4.mono (by omega))).setCell (Nat.le_refl _) _
      generalize w3.setCell ⟨w.heap.size, 1, none⟩ (.slice va1 (k + 1) vc1) = w4 at *
      go_wp2_with fail
      exact ⟨⟨k + 1, by omega, by go_num, by rw [HT.out]; exact hWn, hBn⟩, by simp [intOf]; omega⟩
    · obtain rfl : k = rs.length := by omega
      rw [List.take_length] at hW
      go_wp2_with fail
      go_ret2
      exact ⟨_, rfl, hW, Nat.le_refl _, hB⟩
end Go.Proofs.YtbebfliimjjohaaDoor.Wal
