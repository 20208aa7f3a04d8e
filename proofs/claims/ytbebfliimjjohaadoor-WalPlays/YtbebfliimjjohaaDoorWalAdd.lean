/-
  Contracts of wal.Wal's Add, Records and Down over the turned program.
-/
import Derived.Test.YtbebfliimjjohaaDoorWalOpen
namespace Go.Proofs.YtbebfliimjjohaaDoor.Wal
open Go.RowKit
open Num (inB ints strOf)
open Wire (bcell)

/-- What is as it was behind an Add: all but the Wal's and the disk's blocks, and rows of records from the Wal's block on. -/
structure Fw (u q : Nat) (w w' : World) : Prop where
  os : w'.os = w.os
  tape : w'.tape = w.tape
  output : w'.output = w.output
  size : w.heap.size ≤ w'.heap.size
  block : ∀ k, k < w.heap.size → k ≠ u → k ≠ q → (k < u + 1 ∨ ∀ c f, w.heap[k]? ≠ some (.cells c 76 f)) → w'.heap[k]? = w.heap[k]?
theorem Fw.refl (u q : Nat) (w : World) : Fw u q w w := ⟨rfl, rfl, rfl, Nat.le_refl _, fun _ _ _ _ _ => rfl⟩
theorem Fw.trans {u q : Nat} {a b c : World} (h : Fw u q a b) (k : Fw u q b c) : Fw u q a c :=
  ⟨k.os.trans h.os, k.tape.trans h.tape, k.output.trans h.output, Nat.le_trans h.size k.size, fun i hi hu hq ht => by
    have e := h.block i hi hu hq ht
    rw [k.block i (Nat.lt_of_lt_of_le hi h.size) hu hq (by rw [e]; exact ht), e]⟩
theorem Fw.of_below {u q : Nat} {a b : World} (h : Below a.heap.size a b) : Fw u q a b := ⟨h.os, h.tape, h.output, h.size, fun k hk _ _ _ => h.block k hk⟩
theorem Fw.of_oq {u q : Nat} {a b : World} (h : Oq q a b) : Fw u q a b := ⟨h.os, h.tape, h.output, h.size, fun k hk _ hq _ => h.block k hk hq⟩
theorem Fw.drew {u q : Nat} {a b : World} (h : Fw u q a b) : Fw u q a b.drew := ⟨h.os, h.tape, h.output, h.size, h.block⟩
theorem Fw.setCell {u q i : Nat} {a b : World} (h : Fw u q a b) (v : Value) : Fw u q a (b.setCell ⟨u, i, none⟩ v) :=
  h.trans ⟨rfl, rfl, rfl, by simp, fun k _ hu _ _ => Below.heap_setCell b ⟨u, i, none⟩ v k hu⟩
theorem Fw.grown {u q s n : Nat} {a b c : World} {v : Value} {xs : List Value} (h : Fw u q a b) (ho : b.ownsRow (u + 1) 76 s v n xs) (hg : b.grownBy c v.ownBlock) : Fw u q a c :=
  h.trans ⟨hg.os, hg.tape, hg.output, hg.size, fun k hk _ _ ht => hg.block k hk (fun e => by
    rcases ho.2 with ⟨rfl, _⟩ | ⟨g, cap, cur, rfl, hB, hh, _⟩
    · simp [Value.ownBlock] at e
    · simp [Value.ownBlock] at e
      subst e
      rcases ht with ht | ht
      · omega
      · exact ht _ _ hh)⟩

/-- A Wal behind a write to its disk. -/
theorem WalIs.oq {w w' : World} {u q : Nat} {rs : List R} {down : Bool} (h : WalIs w u q rs down) (ho : Oq q w w') (hqu : q < u) : WalIs w' u q rs down := by
  obtain ⟨h1, ⟨v, hv, hr⟩, h3, h4, h5, h6⟩ := h
  have hb := ho.block u h5 (by omega)
  refine ⟨(World.cell?_of_block (a := ⟨u, 0, none⟩) hb).trans h1, ⟨v, (World.cell?_of_block (a := ⟨u, 1, none⟩) hb).trans hv, hr.1, ?_⟩, (World.cell?_of_block (a := ⟨u, 2, none⟩) hb).trans h3, fun i => (World.frozen?_of_block (a := ⟨u, i, none⟩) hb).trans (h4 i), by have := ho.size; omega, h6.imp fun _ h => h.imp fun _ h => hb.trans h⟩
  rcases hr.2 with h | ⟨g, cap, cur, e1, e2, e3, e4⟩
  · exact .inl h
  · exact .inr ⟨g, cap, cur, e1, e2, (ho.block g (Array.getElem?_eq_some_iff.1 e3).1 (by omega)).trans e3, e4⟩

theorem ok_of {r : R} (h : mayB r = true) : Ok r := by
  unfold mayB at h
  split at h
  · rename_i ho
    simp [epochB] at h
    obtain ⟨h0, hc, hn, hv, hd⟩ := h
    have he := Num.of_inB_true h0
    refine ⟨by rw [hd]; simp, ?_⟩
    apply five
    · exact .inl (by simp [nums, hc])
    · exact .inl (by simp [nums, hn])
    · exact .inr (by simp [nums, ho])
    · exact .inl (by simp [nums, hv])
    · exact .inl (by simpa [nums] using he)
  · simp [writeB] at h
    obtain ⟨⟨⟨hc, hn⟩, hv⟩, h0, h1, hd, he⟩ := h
    have hc := Num.of_inB_true hc
    have hn := Num.of_inB_true hn
    have hv := Num.of_inB_true hv
    refine ⟨hd, ?_⟩
    apply five
    · exact .inl (by simpa [nums] using hc)
    · exact .inl (by simpa [nums] using hn)
    · exact .inl (by simp [nums]; omega)
    · exact .inl (by simpa [nums] using hv)
    · exact .inl (by simp [nums, he])

set_option maxHeartbeats 1000000 in
set_option maxRecDepth 100000 in
theorem add_down (u q : Nat) (rs : List R) (torn : Int) (r : R) (w : World) (h : WalIs w u q rs true) :
    Calls Tryd.prog 30 #[.pointer (some ⟨u, 0, none⟩), r.agg, .int .i64 torn] w fun e w' => e = .returned (.iface 22 (.int .i64 6)) ∧ Below w.heap.size w w' := by
  have c2 := h.down
  have hu := h.lt
  go_enter Tryd.func30, Tryd.ntmps30
  go_wp2_with fail
  go_ret
  exact ⟨rfl, (Below.refl _ _).alloc (Nat.le_refl _) _⟩

set_option maxHeartbeats 1000000 in
set_option maxRecDepth 100000 in
theorem add_bad (u q : Nat) (rs : List R) (torn : Int) (r : R) (w : World) (h : WalIs w u q rs false) (hm : mayB r = false) (hsz : r.d.size ≤ 1000) :
    Calls Tryd.prog 30 #[.pointer (some ⟨u, 0, none⟩), r.agg, .int .i64 torn] w fun e w' => e = .returned (.iface 22 (.int .i64 1)) ∧ Below w.heap.size w w' := by
  have c2 := h.down
  have hu := h.lt
  go_enter Tryd.func30, Tryd.ntmps30
  go_wp2_with fail
  refine (may_any r _ hsz).mono ?_
  rintro e w1 ⟨rfl, hb1⟩
  go_wp2_with fail
  go_ret
  exact ⟨rfl, ((Below.refl _ _).alloc (Nat.le_refl _) _).trans (hb1.mono (by simp))⟩

set_option maxHeartbeats 1000000 in
set_option maxRecDepth 100000 in
theorem add_full (u q : Nat) (rs : List R) (fails : Bool) (left torn : Int) (r : R) (w : World) (h : WalIs w u q rs false) (hD : DiskIs w q rs fails left) (hqu : q < u) (hl : rs.length = 200) (hm : mayB r = true) :
    Calls Tryd.prog 30 #[.pointer (some ⟨u, 0, none⟩), r.agg, .int .i64 torn] w fun e w' => e = .returned (.iface 22 (.int .i64 12)) ∧ Below w.heap.size w w' := by
  have c2 := h.down
  have c0 := h.disk
  have hu := h.lt
  go_enter Tryd.func30, Tryd.ntmps30
  go_wp2_with fail
  refine (may_any r _ (by have := (ok_of hm).1; omega)).mono ?_
  rintro e w1 ⟨rfl, hb1⟩
  have hb : Below w.heap.size w w1 := ((Below.refl _ _).alloc (Nat.le_refl _) _).trans (hb1.mono (by simp))
  have c0' := (hb.cell (p := ⟨u, 0, none⟩) hu).trans c0
  go_wp2_with fail
  refine (many_any q rs fails left _ (hD.below hb (by omega))).mono ?_
  rintro e w2 ⟨rfl, hw2⟩
  rw [hw2, hl]
  go_wp2_with fail
  go_ret
  exact ⟨rfl, hb⟩

theorem WalIs.setDown {w : World} {u q : Nat} {rs : List R} {down : Bool} (h : WalIs w u q rs down) (d : Bool) : WalIs (w.setCell ⟨u, 2, none⟩ (.bool d)) u q rs d := by
  obtain ⟨h1, ⟨v, hv, hr⟩, h3, h4, h5, h6⟩ := h
  refine ⟨by rw [World.cell?_setCell_other _ _ _ _ (by simp)]; exact h1, ⟨v, by rw [World.cell?_setCell_other _ _ _ _ (by simp)]; exact hv, ?_⟩, World.cell?_setCell_same _ _ _ h3, fun i => by rw [World.frozen?_setCell]; exact h4 i, by simpa using h5, typ_set h6⟩
  exact ownsRow_setCell_below (a := ⟨u, 2, none⟩) hr (by dsimp only; omega) _

/-- A record's box. -/
def Bx (w : World) (b : Nat) (r : R) : Prop := w.cell? ⟨b, 0, none⟩ = some (.int .i64 r.c) ∧ w.cell? ⟨b, 1, none⟩ = some (.int .i64 r.n) ∧ w.cell? ⟨b, 2, none⟩ = some (.int .i64 r.o) ∧ w.cell? ⟨b, 3, none⟩ = some (.int .i64 r.v) ∧ w.cell? ⟨b, 4, none⟩ = some (.string r.d) ∧ w.cell? ⟨b, 5, none⟩ = some (.int .i64 r.e)
theorem Bx.made (w : World) (r : R) (t : TypeId) : Bx (w.alloc (.cells #[.int .i64 r.c, .int .i64 r.n, .int .i64 r.o, .int .i64 r.v, .string r.d, .int .i64 r.e] t)) w.heap.size r := by
  refine ⟨?_, ?_, ?_, ?_, ?_, ?_⟩ <;> (rw [cell_of_row _ _ _ _ _ _ (heap_alloc_new w _)]; rfl)
theorem Bx.block {w w' : World} {b : Nat} {r : R} (h : Bx w b r) (hb : w'.heap[b]? = w.heap[b]?) : Bx w' b r := by
  obtain ⟨h0, h1, h2, h3, h4, h5⟩ := h
  exact ⟨(World.cell?_of_block (a := ⟨b, 0, none⟩) hb).trans h0, (World.cell?_of_block (a := ⟨b, 1, none⟩) hb).trans h1, (World.cell?_of_block (a := ⟨b, 2, none⟩) hb).trans h2, (World.cell?_of_block (a := ⟨b, 3, none⟩) hb).trans h3, (World.cell?_of_block (a := ⟨b, 4, none⟩) hb).trans h4, (World.cell?_of_block (a := ⟨b, 5, none⟩) hb).trans h5⟩

set_option maxHeartbeats 4000000 in
set_option maxRecDepth 100000 in
theorem add_off (u q : Nat) (rs : List R) (torn : Int) (r : R) (w : World) (h : WalIs w u q rs false) (hD : DiskIs w q rs true 0) (hqu : q < u) (hl : rs.length < 200) (hm : mayB r = true) :
    Calls Tryd.prog 30 #[.pointer (some ⟨u, 0, none⟩), r.agg, .int .i64 torn] w fun e w' => e = .returned (.iface 22 (.int .i64 14)) ∧ WalIs w' u q rs true ∧ DiskIs w' q rs true 0 ∧ Fw u q w w' := by
  have c2 := h.down
  have c0 := h.disk
  have hu := h.lt
  have hOk := ok_of hm
  have hd20 := hOk.1
  go_enter Tryd.func30, Tryd.ntmps30
  go_wp2_with fail
  have hbx0 := Bx.made w r 76
  refine (may_any r _ (by omega)).mono ?_
  rintro e w1 ⟨rfl, hb1⟩
  have hs1 := hb1.size
  simp at hs1
  have hb : Below w.heap.size w w1 := ((Below.refl _ _).alloc (Nat.le_refl _) _).trans (hb1.mono (by simp))
  have c0' := (hb.cell (p := ⟨u, 0, none⟩) hu).trans c0
  have hbx1 := hbx0.block (hb1.block w.heap.size (by simp))
  replace h := h.below hb
  replace hD := hD.below hb (by omega)
  have hwf := h.free 2
  have hc2 := h.down
  clear hb1 hbx0 c0 c2
  go_wp2_with fail
  refine (many_any q rs true 0 _ hD).mono ?_
  rintro e w2 ⟨rfl, hw2⟩
  rw [hw2]
  clear hw2
  have hlI : (rs.length : Int) < 200 := by omega
  have hlb : ((rs.length : Int) == 200) = false := by simp; omega
  go_wp2_with fail
  refine Gen.start (S := fun w' => w'.cell? ⟨u, 0, none⟩ = some (.pointer (some ⟨q, 0, none⟩)) ∧ Bx w' w.heap.size r) (by kernel_rfl) ⟨c0', hbx1⟩ (fun hHeld => ?_)
  refine Gen.take (i := 0) (k := 1) (v := ?_) rfl rfl (by kernel_rfl) (by kernel_rfl) (by kernel_rfl) (by kernel_rfl) (by kernel_rfl) (by kernel_rfl) (fun _ _ _ h => h) (Or.inl ⟨by rfl, ?_⟩) hHeld ?_
  rotate_left
  · intro w' hSw
    go_simp
    try with_reducible rfl
  simp only [Act.put, List.setIfInBounds_toArray, List.set_cons_zero, List.set_cons_succ]
  refine Gen.take (i := 1) (k := 2) (v := ?_) rfl rfl (by kernel_rfl) (by kernel_rfl) (by kernel_rfl) (by kernel_rfl) (by kernel_rfl) (by kernel_rfl) (fun _ _ _ h => h) (Or.inl ⟨by rfl, ?_⟩) hHeld ?_
  rotate_left
  · intro w' hSw
    go_simp
    try with_reducible rfl
  simp only [Act.put, List.setIfInBounds_toArray, List.set_cons_zero, List.set_cons_succ]
  refine Gen.take (i := 2) (k := 3) (v := ?_) rfl rfl (by kernel_rfl) (by kernel_rfl) (by kernel_rfl) (by kernel_rfl) (by kernel_rfl) (by kernel_rfl) (fun _ _ _ h => h) (Or.inl ⟨by rfl, ?_⟩) hHeld ?_
  rotate_left
  · intro w' hSw
    go_simp
    try with_reducible rfl
  simp only [Act.put, List.setIfInBounds_toArray, List.set_cons_zero, List.set_cons_succ]
  refine Gen.take (i := 3) (k := 8) (v := ?_) rfl rfl (by kernel_rfl) (by kernel_rfl) (by kernel_rfl) (by kernel_rfl) (by kernel_rfl) (by kernel_rfl) (fun _ _ _ h => h) (Or.inl ⟨by rfl, ?_⟩) hHeld ?_
  rotate_left
  · intro w' hSw
    go_simp
    try with_reducible rfl
  simp only [Act.put, List.setIfInBounds_toArray, List.set_cons_zero, List.set_cons_succ]
  refine Gen.take (i := 4) (k := 8) (v := ?_) rfl rfl (by kernel_rfl) (by kernel_rfl) (by kernel_rfl) (by kernel_rfl) (by kernel_rfl) (by kernel_rfl) (fun _ _ _ h => h) (Or.inl ⟨by rfl, ?_⟩) hHeld ?_
  rotate_left
  · intro w' hSw
    go_simp
    try with_reducible rfl
  simp only [Act.put, List.setIfInBounds_toArray, List.set_cons_zero, List.set_cons_succ]
  refine Gen.take (i := 5) (k := 6) (v := ?_) rfl rfl (by kernel_rfl) (by kernel_rfl) (by kernel_rfl) (by kernel_rfl) (by kernel_rfl) (by kernel_rfl) (fun _ _ _ h => h) (Or.inl ⟨by rfl, ?_⟩) hHeld ?_
  rotate_left
  · intro w' hSw
    obtain ⟨_, s0, s1, s2, s3, s4, s5⟩ := hSw
    go_simp
    try with_reducible rfl
  simp only [Act.put, List.setIfInBounds_toArray, List.set_cons_zero, List.set_cons_succ]
  refine Gen.take (i := 7) (k := 8) (v := ?_) rfl rfl (by kernel_rfl) (by kernel_rfl) (by kernel_rfl) (by kernel_rfl) (by kernel_rfl) (by kernel_rfl) (fun _ _ _ h => h) (Or.inl ⟨by rfl, ?_⟩) hHeld ?_
  rotate_left
  · intro w' hSw
    go_simp
    try with_reducible rfl
  simp only [Act.put, List.setIfInBounds_toArray, List.set_cons_zero, List.set_cons_succ]
  refine Gen.one (i := 6) (by kernel_rfl) rfl rfl (fun K hK => ?_)
  go_simp
  refine (written_any r _ hd20).mono ?_
  rintro e w3 ⟨rfl, hb3⟩
  dsimp only
  have hb3' : Below w1.heap.size w1 w3 := ⟨hb3.os, hb3.tape, hb3.output, hb3.size, hb3.block⟩
  have hs3 := hb3'.size
  refine hK.out _ _ ⟨(hb3'.cell (p := ⟨u, 0, none⟩) (by dsimp only; omega)).trans c0', hbx1.block (hb3'.block w.heap.size (by omega))⟩ (fun hHeld => ?_)
  clear hK K
  try simp only [Act.put, List.setIfInBounds_toArray, List.set_cons_zero, List.set_cons_succ]
  refine Gen.one (i := 8) (by kernel_rfl) rfl rfl (fun K hK => ?_)
  go_simp
  refine (write_off q rs torn r _ (hD.below hb3' (by omega)) hl hOk (by omega)).mono ?_
  rintro e w4 ⟨rfl, hD4, hO4⟩
  dsimp only
  have h4 := (h.below hb3').oq hO4 hqu
  have hs4 := hO4.size
  have hbu := hO4.block u (by omega) (by omega)
  have hbb := hO4.block w.heap.size (by omega) (by omega)
  have hbx4 := (hbx1.block (hb3'.block w.heap.size (by omega))).block hbb
  have hF4 : Fw u q w w4 := (Fw.of_below (hb.trans (hb3'.mono (by omega)))).trans (Fw.of_oq hO4)
  refine hK.out _ _ ⟨h4.disk, hbx4⟩ (fun hHeld => ?_)
  clear hK K
  try simp only [Act.put, List.setIfInBounds_toArray, List.set_cons_zero, List.set_cons_succ]
  refine Gen.last (i := 9) (by kernel_rfl) rfl rfl (by kernel_rfl) (by kernel_rfl) (fun K hK => ?_)
  go_simp
  refine hK.out _ _ ?_
  clear hK K hHeld hD h hbx1 hb3 hb3' hO4 hbu hbb
  have g2 := h4.down
  have g3 := h4.free 2
  go_wp2_with fail
  go_ret
  exact ⟨rfl, h4.setDown true, hD4.below (Below.setCell (Below.refl (q + 1) w4) (by dsimp only; omega) _) (by omega), hF4.setCell _⟩

set_option maxHeartbeats 4000000 in
set_option maxRecDepth 100000 in
theorem add_free (u q : Nat) (rs : List R) (left torn : Int) (r : R) (w : World) (h : WalIs w u q rs false) (hD : DiskIs w q rs false left) (hqu : q < u) (hl : rs.length < 200) (hm : mayB r = true) :
    Calls Tryd.prog 30 #[.pointer (some ⟨u, 0, none⟩), r.agg, .int .i64 torn] w fun e w' => e = .returned .nilIface ∧ WalIs w' u q (rs ++ [r]) false ∧ DiskIs w' q (rs ++ [r]) false left ∧ Fw u q w w' := by
  have c2 := h.down
  have c0 := h.disk
  have hu := h.lt
  have hOk := ok_of hm
  have hd20 := hOk.1
  go_enter Tryd.func30, Tryd.ntmps30
  go_wp2_with fail
  have hbx0 := Bx.made w r 76
  refine (may_any r _ (by omega)).mono ?_
  rintro e w1 ⟨rfl, hb1⟩
  have hs1 := hb1.size
  simp at hs1
  have hb : Below w.heap.size w w1 := ((Below.refl _ _).alloc (Nat.le_refl _) _).trans (hb1.mono (by simp))
  have c0' := (hb.cell (p := ⟨u, 0, none⟩) hu).trans c0
  have hbx1 := hbx0.block (hb1.block w.heap.size (by simp))
  replace h := h.below hb
  replace hD := hD.below hb (by omega)
  have hwf := h.free 2
  have hc2 := h.down
  clear hb1 hbx0 c0 c2
  go_wp2_with fail
  refine (many_any q rs false left _ hD).mono ?_
  rintro e w2 ⟨rfl, hw2⟩
  rw [hw2]
  clear hw2
  have hlI : (rs.length : Int) < 200 := by omega
  have hlb : ((rs.length : Int) == 200) = false := by simp; omega
  go_wp2_with fail
  refine Gen.start (S := fun w' => w'.cell? ⟨u, 0, none⟩ = some (.pointer (some ⟨q, 0, none⟩)) ∧ Bx w' w.heap.size r) (by kernel_rfl) ⟨c0', hbx1⟩ (fun hHeld => ?_)
  refine Gen.take (i := 0) (k := 1) (v := ?_) rfl rfl (by kernel_rfl) (by kernel_rfl) (by kernel_rfl) (by kernel_rfl) (by kernel_rfl) (by kernel_rfl) (fun _ _ _ h => h) (Or.inl ⟨by rfl, ?_⟩) hHeld ?_
  rotate_left
  · intro w' hSw
    go_simp
    try with_reducible rfl
  simp only [Act.put, List.setIfInBounds_toArray, List.set_cons_zero, List.set_cons_succ]
  refine Gen.take (i := 1) (k := 2) (v := ?_) rfl rfl (by kernel_rfl) (by kernel_rfl) (by kernel_rfl) (by kernel_rfl) (by kernel_rfl) (by kernel_rfl) (fun _ _ _ h => h) (Or.inl ⟨by rfl, ?_⟩) hHeld ?_
  rotate_left
  · intro w' hSw
    go_simp
    try with_reducible rfl
  simp only [Act.put, List.setIfInBounds_toArray, List.set_cons_zero, List.set_cons_succ]
  refine Gen.take (i := 2) (k := 3) (v := ?_) rfl rfl (by kernel_rfl) (by kernel_rfl) (by kernel_rfl) (by kernel_rfl) (by kernel_rfl) (by kernel_rfl) (fun _ _ _ h => h) (Or.inl ⟨by rfl, ?_⟩) hHeld ?_
  rotate_left
  · intro w' hSw
    go_simp
    try with_reducible rfl
  simp only [Act.put, List.setIfInBounds_toArray, List.set_cons_zero, List.set_cons_succ]
  refine Gen.take (i := 3) (k := 8) (v := ?_) rfl rfl (by kernel_rfl) (by kernel_rfl) (by kernel_rfl) (by kernel_rfl) (by kernel_rfl) (by kernel_rfl) (fun _ _ _ h => h) (Or.inl ⟨by rfl, ?_⟩) hHeld ?_
  rotate_left
  · intro w' hSw
    go_simp
    try with_reducible rfl
  simp only [Act.put, List.setIfInBounds_toArray, List.set_cons_zero, List.set_cons_succ]
  refine Gen.take (i := 4) (k := 8) (v := ?_) rfl rfl (by kernel_rfl) (by kernel_rfl) (by kernel_rfl) (by kernel_rfl) (by kernel_rfl) (by kernel_rfl) (fun _ _ _ h => h) (Or.inl ⟨by rfl, ?_⟩) hHeld ?_
  rotate_left
  · intro w' hSw
    go_simp
    try with_reducible rfl
  simp only [Act.put, List.setIfInBounds_toArray, List.set_cons_zero, List.set_cons_succ]
  refine Gen.take (i := 5) (k := 6) (v := ?_) rfl rfl (by kernel_rfl) (by kernel_rfl) (by kernel_rfl) (by kernel_rfl) (by kernel_rfl) (by kernel_rfl) (fun _ _ _ h => h) (Or.inl ⟨by rfl, ?_⟩) hHeld ?_
  rotate_left
  · intro w' hSw
    obtain ⟨_, s0, s1, s2, s3, s4, s5⟩ := hSw
    go_simp
    try with_reducible rfl
  simp only [Act.put, List.setIfInBounds_toArray, List.set_cons_zero, List.set_cons_succ]
  refine Gen.take (i := 7) (k := 8) (v := ?_) rfl rfl (by kernel_rfl) (by kernel_rfl) (by kernel_rfl) (by kernel_rfl) (by kernel_rfl) (by kernel_rfl) (fun _ _ _ h => h) (Or.inl ⟨by rfl, ?_⟩) hHeld ?_
  rotate_left
  · intro w' hSw
    go_simp
    try with_reducible rfl
  simp only [Act.put, List.setIfInBounds_toArray, List.set_cons_zero, List.set_cons_succ]
  refine Gen.one (i := 6) (by kernel_rfl) rfl rfl (fun K hK => ?_)
  go_simp
  refine (written_any r _ hd20).mono ?_
  rintro e w3 ⟨rfl, hb3⟩
  dsimp only
  have hb3' : Below w1.heap.size w1 w3 := ⟨hb3.os, hb3.tape, hb3.output, hb3.size, hb3.block⟩
  have hs3 := hb3'.size
  refine hK.out _ _ ⟨(hb3'.cell (p := ⟨u, 0, none⟩) (by dsimp only; omega)).trans c0', hbx1.block (hb3'.block w.heap.size (by omega))⟩ (fun hHeld => ?_)
  clear hK K
  try simp only [Act.put, List.setIfInBounds_toArray, List.set_cons_zero, List.set_cons_succ]
  refine Gen.one (i := 8) (by kernel_rfl) rfl rfl (fun K hK => ?_)
  go_simp
  refine (write_free q rs left torn r _ (hD.below hb3' (by omega)) hl hOk (by omega)).mono ?_
  rintro e w4 ⟨rfl, hD4, hO4⟩
  dsimp only
  have h4 := (h.below hb3').oq hO4 hqu
  have hs4 := hO4.size
  have hbu := hO4.block u (by omega) (by omega)
  have hbb := hO4.block w.heap.size (by omega) (by omega)
  have hbx4 := (hbx1.block (hb3'.block w.heap.size (by omega))).block hbb
  have hF4 : Fw u q w w4 := (Fw.of_below (hb.trans (hb3'.mono (by omega)))).trans (Fw.of_oq hO4)
  refine hK.out _ _ ⟨h4.disk, hbx4⟩ (fun hHeld => ?_)
  clear hK K
  try simp only [Act.put, List.setIfInBounds_toArray, List.set_cons_zero, List.set_cons_succ]
  refine Gen.last (i := 9) (by kernel_rfl) rfl rfl (by kernel_rfl) (by kernel_rfl) (fun K hK => ?_)
  go_simp
  refine hK.out _ _ ?_
  clear hK K hHeld hD h hbx1 hb3 hb3' hO4 hbu hbb
  have g1 := h4.free 1
  obtain ⟨v, hv, hrow⟩ := h4.row
  obtain ⟨va, vc, rfl, hvc, _⟩ := row_shape hrow
  have g0 := h4.disk
  have g2 := h4.down
  have g3 := h4.free
  have hty := h4.typ
  have hu4 := h4.lt
  have hqs4 : q < w4.heap.size := by omega
  obtain ⟨i0, hi, hy0, hy1, hy2⟩ := info_parts info_record
  have e3 : rs.length + 1 ≤ maxLen := by unfold maxLen; omega
  have e4 : (rs.length + 1) * 56 ≤ 140737488355328 := by omega
  go_wp2_with fail
  obtain ⟨s0, s1, s2, s3, s4, s5⟩ := hbx4
  refine Gen.start (S := fun w' => w'.cell? ⟨u, 1, none⟩ = some (.slice va rs.length vc)) (by kernel_rfl) hv (fun hHeld => ?_)
  refine Gen.take (i := 0) (k := 8) (v := ?_) rfl rfl (by kernel_rfl) (by kernel_rfl) (by kernel_rfl) (by kernel_rfl) (by kernel_rfl) (by kernel_rfl) (fun _ _ _ h => h) (Or.inl ⟨by rfl, ?_⟩) hHeld ?_
  rotate_left
  · intro w' hSw
    go_simp
    try with_reducible rfl
  simp only [Act.put, List.setIfInBounds_toArray, List.set_cons_zero, List.set_cons_succ]
  refine Gen.take (i := 1) (k := 2) (v := ?_) rfl rfl (by kernel_rfl) (by kernel_rfl) (by kernel_rfl) (by kernel_rfl) (by kernel_rfl) (by kernel_rfl) (fun _ _ _ h => h) (Or.inl ⟨by rfl, ?_⟩) hHeld ?_
  rotate_left
  · intro w' hSw
    go_simp
    try with_reducible rfl
  simp only [Act.put, List.setIfInBounds_toArray, List.set_cons_zero, List.set_cons_succ]
  refine Gen.take (i := 2) (k := 3) (v := ?_) rfl rfl (by kernel_rfl) (by kernel_rfl) (by kernel_rfl) (by kernel_rfl) (by kernel_rfl) (by kernel_rfl) (fun _ _ _ h => h) (Or.inl ⟨by rfl, ?_⟩) hHeld ?_
  rotate_left
  · intro w' hSw
    go_simp
    try with_reducible rfl
  simp only [Act.put, List.setIfInBounds_toArray, List.set_cons_zero, List.set_cons_succ]
  refine Gen.take (i := 3) (k := 4) (v := ?_) rfl rfl (by kernel_rfl) (by kernel_rfl) (by kernel_rfl) (by kernel_rfl) (by kernel_rfl) (by kernel_rfl) (fun _ _ _ h => h) (Or.inl ⟨by rfl, ?_⟩) hHeld ?_
  rotate_left
  · intro w' hSw
    go_simp
    try with_reducible rfl
  simp only [Act.put, List.setIfInBounds_toArray, List.set_cons_zero, List.set_cons_succ]
  refine Gen.take (i := 4) (k := 7) (v := ?_) rfl rfl (by kernel_rfl) (by kernel_rfl) (by kernel_rfl) (by kernel_rfl) (by kernel_rfl) (by kernel_rfl) (fun _ _ _ h => h) (Or.inl ⟨by rfl, ?_⟩) hHeld ?_
  rotate_left
  · intro w' hSw
    go_simp
    try with_reducible rfl
  simp only [Act.put, List.setIfInBounds_toArray, List.set_cons_zero, List.set_cons_succ]
  refine Gen.one (i := 5) (by kernel_rfl) rfl rfl (fun K hK => ?_)
  go_simp
  refine hK.out _ _ hv (fun hHeld => ?_)
  clear hK K
  try simp only [Act.put, List.setIfInBounds_toArray, List.set_cons_zero, List.set_cons_succ]
  refine Gen.one (i := 6) (by kernel_rfl) rfl rfl (fun K hK => ?_)
  go_simp
  have hb5 : Below w4.heap.size w4 (w4.alloc (.cells #[.int .i64 r.c, .int .i64 r.n, .int .i64 r.o, .int .i64 r.v, .string r.d, .int .i64 r.e] 76)).drew := ((Below.refl _ _).alloc (Nat.le_refl _) _).drew
  refine hK.out _ _ ((hb5.cell (p := ⟨u, 1, none⟩) hu4).trans hv) (fun hHeld => ?_)
  clear hK K
  try simp only [Act.put, List.setIfInBounds_toArray, List.set_cons_zero, List.set_cons_succ]
  refine Gen.one (i := 7) (by kernel_rfl) rfl rfl (fun K hK => ?_)
  refine wp_append_own _ (.tmp 43) (.tmp 45) 83 rfl (u + 1) 76 i0 (.agg #[.int .i64 0, .int .i64 0, .int .i64 0, .int .i64 0, .string ⟨#[]⟩, .int .i64 0]) 6 56 Tryd.underlying83 hi hy0 hy1 hy2 rfl (by decide) _ _ _ (by rfl) (row_below hrow hb5) ⟨w4.heap.size, 0, none⟩ 1 1 r.cells (by rfl) rfl (rec_made w4 r) r.cells_one e3 e4 (by have := hb5.size; omega) ?_
  intro v1 w6 hown1 hg1 _
  rw [← rcells_snoc] at hown1
  obtain ⟨va1, vc1, rfl, _, _⟩ := row_shape hown1
  have hb6 : Below (u + 1) w4 w6 := (hb5.mono (by omega)).grown hg1 (by have := hb5.size; omega) (fun k hk => ((row_below hrow hb5).lt k hk).1)
  have hF6 : Fw u q w w6 := (hF4.trans (Fw.of_below hb5)).grown (row_below hrow hb5) hg1
  have m1 := (hb6.cell (p := ⟨u, 1, none⟩) (by dsimp only; omega)).trans hv
  have m2 : w6.frozen? ⟨u, 1, none⟩ = false := (hb6.frozen (p := ⟨u, 1, none⟩) (by dsimp only; omega)).trans g1
  refine hK.out _ _ m1 (fun hHeld => ?_)
  clear hK K
  try simp only [Act.put, List.setIfInBounds_toArray, List.set_cons_zero, List.set_cons_succ]
  refine Gen.take (i := 8) (k := 9) (v := ?_) rfl rfl (by kernel_rfl) (by kernel_rfl) (by kernel_rfl) (by kernel_rfl) (by kernel_rfl) (by kernel_rfl) (fun _ _ _ h => h) (Or.inl ⟨by rfl, ?_⟩) hHeld ?_
  rotate_left
  · intro w' hSw
    go_simp
    try with_reducible rfl
  simp only [Act.put, List.setIfInBounds_toArray, List.set_cons_zero, List.set_cons_succ]
  refine Gen.take (i := 9) (k := 10) (v := ?_) rfl rfl (by kernel_rfl) (by kernel_rfl) (by kernel_rfl) (by kernel_rfl) (by kernel_rfl) (by kernel_rfl) (fun _ _ _ h => h) (Or.inl ⟨by rfl, ?_⟩) hHeld ?_
  rotate_left
  · intro w' hSw
    go_simp
    try with_reducible rfl
  simp only [Act.put, List.setIfInBounds_toArray, List.set_cons_zero, List.set_cons_succ]
  refine Gen.last (i := 10) (by kernel_rfl) rfl rfl (by kernel_rfl) (by kernel_rfl) (fun K hK => ?_)
  go_simp
  refine hK.out _ _ ?_
  clear hK K hHeld
  have hWn : WalIs (w6.setCell ⟨u, 1, none⟩ (.slice va1 (rs.length + 1) vc1)) u q (rs ++ [r]) false := by
    refine ⟨?_, ⟨_, World.cell?_setCell_same _ _ _ m1, ?_⟩, ?_, fun i => ?_, by have := hb6.size; simp; omega, typ_set (hty.imp fun _ h => h.imp fun _ h => (hb6.block _ (by omega)).trans h)⟩
    · rw [World.cell?_setCell_other _ _ _ _ (by simp)]; exact (hb6.cell (p := ⟨u, 0, none⟩) (by dsimp only; omega)).trans g0
    · rw [List.length_append]
      exact ownsRow_setCell_below (a := ⟨u, 1, none⟩) hown1 (by dsimp only; omega) _
    · rw [World.cell?_setCell_other _ _ _ _ (by simp)]; exact (hb6.cell (p := ⟨u, 2, none⟩) (by dsimp only; omega)).trans g2
    · rw [World.frozen?_setCell]; exact (hb6.frozen (p := ⟨u, i, none⟩) (by dsimp only; omega)).trans (g3 i)
  have hDn := hD4.below ((hb6.mono (show q + 1 ≤ u + 1 by omega)).setCell (p := ⟨u, 1, none⟩) (by dsimp only; omega) (.slice va1 (rs.length + 1) vc1)) (by omega)
  have hFn := hF6.setCell (i := 1) (.slice va1 (rs.length + 1) vc1)
  generalize w6.setCell ⟨u, 1, none⟩ (.slice va1 (rs.length + 1) vc1) = w7 at *
  go_wp2_with fail
  go_ret
  exact ⟨rfl, hWn, hDn, hFn⟩

set_option maxHeartbeats 4000000 in
set_option maxRecDepth 100000 in
theorem add_cut (u q : Nat) (rs : List R) (left torn : Int) (r : R) (w : World) (h : WalIs w u q rs false) (hD : DiskIs w q rs true left) (hqu : q < u) (hl : rs.length < 200) (hm : mayB r = true) (hp0 : 0 < left) (hp1 : left ≤ 9223372036854775807) :
    Calls Tryd.prog 30 #[.pointer (some ⟨u, 0, none⟩), r.agg, .int .i64 torn] w fun e w' => e = .returned .nilIface ∧ WalIs w' u q (rs ++ [r]) false ∧ DiskIs w' q (rs ++ [r]) true (left - 1) ∧ Fw u q w w' := by
  have c2 := h.down
  have c0 := h.disk
  have hu := h.lt
  have hOk := ok_of hm
  have hd20 := hOk.1
  go_enter Tryd.func30, Tryd.ntmps30
  go_wp2_with fail
  have hbx0 := Bx.made w r 76
  refine (may_any r _ (by omega)).mono ?_
  rintro e w1 ⟨rfl, hb1⟩
  have hs1 := hb1.size
  simp at hs1
  have hb : Below w.heap.size w w1 := ((Below.refl _ _).alloc (Nat.le_refl _) _).trans (hb1.mono (by simp))
  have c0' := (hb.cell (p := ⟨u, 0, none⟩) hu).trans c0
  have hbx1 := hbx0.block (hb1.block w.heap.size (by simp))
  replace h := h.below hb
  replace hD := hD.below hb (by omega)
  have hwf := h.free 2
  have hc2 := h.down
  clear hb1 hbx0 c0 c2
  go_wp2_with fail
  refine (many_any q rs true left _ hD).mono ?_
  rintro e w2 ⟨rfl, hw2⟩
  rw [hw2]
  clear hw2
  have hlI : (rs.length : Int) < 200 := by omega
  have hlb : ((rs.length : Int) == 200) = false := by simp; omega
  go_wp2_with fail
  refine Gen.start (S := fun w' => w'.cell? ⟨u, 0, none⟩ = some (.pointer (some ⟨q, 0, none⟩)) ∧ Bx w' w.heap.size r) (by kernel_rfl) ⟨c0', hbx1⟩ (fun hHeld => ?_)
  refine Gen.take (i := 0) (k := 1) (v := ?_) rfl rfl (by kernel_rfl) (by kernel_rfl) (by kernel_rfl) (by kernel_rfl) (by kernel_rfl) (by kernel_rfl) (fun _ _ _ h => h) (Or.inl ⟨by rfl, ?_⟩) hHeld ?_
  rotate_left
  · intro w' hSw
    go_simp
    try with_reducible rfl
  simp only [Act.put, List.setIfInBounds_toArray, List.set_cons_zero, List.set_cons_succ]
  refine Gen.take (i := 1) (k := 2) (v := ?_) rfl rfl (by kernel_rfl) (by kernel_rfl) (by kernel_rfl) (by kernel_rfl) (by kernel_rfl) (by kernel_rfl) (fun _ _ _ h => h) (Or.inl ⟨by rfl, ?_⟩) hHeld ?_
  rotate_left
  · intro w' hSw
    go_simp
    try with_reducible rfl
  simp only [Act.put, List.setIfInBounds_toArray, List.set_cons_zero, List.set_cons_succ]
  refine Gen.take (i := 2) (k := 3) (v := ?_) rfl rfl (by kernel_rfl) (by kernel_rfl) (by kernel_rfl) (by kernel_rfl) (by kernel_rfl) (by kernel_rfl) (fun _ _ _ h => h) (Or.inl ⟨by rfl, ?_⟩) hHeld ?_
  rotate_left
  · intro w' hSw
    go_simp
    try with_reducible rfl
  simp only [Act.put, List.setIfInBounds_toArray, List.set_cons_zero, List.set_cons_succ]
  refine Gen.take (i := 3) (k := 8) (v := ?_) rfl rfl (by kernel_rfl) (by kernel_rfl) (by kernel_rfl) (by kernel_rfl) (by kernel_rfl) (by kernel_rfl) (fun _ _ _ h => h) (Or.inl ⟨by rfl, ?_⟩) hHeld ?_
  rotate_left
  · intro w' hSw
    go_simp
    try with_reducible rfl
  simp only [Act.put, List.setIfInBounds_toArray, List.set_cons_zero, List.set_cons_succ]
  refine Gen.take (i := 4) (k := 8) (v := ?_) rfl rfl (by kernel_rfl) (by kernel_rfl) (by kernel_rfl) (by kernel_rfl) (by kernel_rfl) (by kernel_rfl) (fun _ _ _ h => h) (Or.inl ⟨by rfl, ?_⟩) hHeld ?_
  rotate_left
  · intro w' hSw
    go_simp
    try with_reducible rfl
  simp only [Act.put, List.setIfInBounds_toArray, List.set_cons_zero, List.set_cons_succ]
  refine Gen.take (i := 5) (k := 6) (v := ?_) rfl rfl (by kernel_rfl) (by kernel_rfl) (by kernel_rfl) (by kernel_rfl) (by kernel_rfl) (by kernel_rfl) (fun _ _ _ h => h) (Or.inl ⟨by rfl, ?_⟩) hHeld ?_
  rotate_left
  · intro w' hSw
    obtain ⟨_, s0, s1, s2, s3, s4, s5⟩ := hSw
    go_simp
    try with_reducible rfl
  simp only [Act.put, List.setIfInBounds_toArray, List.set_cons_zero, List.set_cons_succ]
  refine Gen.take (i := 7) (k := 8) (v := ?_) rfl rfl (by kernel_rfl) (by kernel_rfl) (by kernel_rfl) (by kernel_rfl) (by kernel_rfl) (by kernel_rfl) (fun _ _ _ h => h) (Or.inl ⟨by rfl, ?_⟩) hHeld ?_
  rotate_left
  · intro w' hSw
    go_simp
    try with_reducible rfl
  simp only [Act.put, List.setIfInBounds_toArray, List.set_cons_zero, List.set_cons_succ]
  refine Gen.one (i := 6) (by kernel_rfl) rfl rfl (fun K hK => ?_)
  go_simp
  refine (written_any r _ hd20).mono ?_
  rintro e w3 ⟨rfl, hb3⟩
  dsimp only
  have hb3' : Below w1.heap.size w1 w3 := ⟨hb3.os, hb3.tape, hb3.output, hb3.size, hb3.block⟩
  have hs3 := hb3'.size
  refine hK.out _ _ ⟨(hb3'.cell (p := ⟨u, 0, none⟩) (by dsimp only; omega)).trans c0', hbx1.block (hb3'.block w.heap.size (by omega))⟩ (fun hHeld => ?_)
  clear hK K
  try simp only [Act.put, List.setIfInBounds_toArray, List.set_cons_zero, List.set_cons_succ]
  refine Gen.one (i := 8) (by kernel_rfl) rfl rfl (fun K hK => ?_)
  go_simp
  refine (write_cut q rs left torn r _ (hD.below hb3' (by omega)) hl hOk (by omega) hp0 hp1).mono ?_
  rintro e w4 ⟨rfl, hD4, hO4⟩
  dsimp only
  have h4 := (h.below hb3').oq hO4 hqu
  have hs4 := hO4.size
  have hbu := hO4.block u (by omega) (by omega)
  have hbb := hO4.block w.heap.size (by omega) (by omega)
  have hbx4 := (hbx1.block (hb3'.block w.heap.size (by omega))).block hbb
  have hF4 : Fw u q w w4 := (Fw.of_below (hb.trans (hb3'.mono (by omega)))).trans (Fw.of_oq hO4)
  refine hK.out _ _ ⟨h4.disk, hbx4⟩ (fun hHeld => ?_)
  clear hK K
  try simp only [Act.put, List.setIfInBounds_toArray, List.set_cons_zero, List.set_cons_succ]
  refine Gen.last (i := 9) (by kernel_rfl) rfl rfl (by kernel_rfl) (by kernel_rfl) (fun K hK => ?_)
  go_simp
  refine hK.out _ _ ?_
  clear hK K hHeld hD h hbx1 hb3 hb3' hO4 hbu hbb
  have g1 := h4.free 1
  obtain ⟨v, hv, hrow⟩ := h4.row
  obtain ⟨va, vc, rfl, hvc, _⟩ := row_shape hrow
  have g0 := h4.disk
  have g2 := h4.down
  have g3 := h4.free
  have hty := h4.typ
  have hu4 := h4.lt
  have hqs4 : q < w4.heap.size := by omega
  obtain ⟨i0, hi, hy0, hy1, hy2⟩ := info_parts info_record
  have e3 : rs.length + 1 ≤ maxLen := by unfold maxLen; omega
  have e4 : (rs.length + 1) * 56 ≤ 140737488355328 := by omega
  go_wp2_with fail
  obtain ⟨s0, s1, s2, s3, s4, s5⟩ := hbx4
  refine Gen.start (S := fun w' => w'.cell? ⟨u, 1, none⟩ = some (.slice va rs.length vc)) (by kernel_rfl) hv (fun hHeld => ?_)
  refine Gen.take (i := 0) (k := 8) (v := ?_) rfl rfl (by kernel_rfl) (by kernel_rfl) (by kernel_rfl) (by kernel_rfl) (by kernel_rfl) (by kernel_rfl) (fun _ _ _ h => h) (Or.inl ⟨by rfl, ?_⟩) hHeld ?_
  rotate_left
  · intro w' hSw
    go_simp
    try with_reducible rfl
  simp only [Act.put, List.setIfInBounds_toArray, List.set_cons_zero, List.set_cons_succ]
  refine Gen.take (i := 1) (k := 2) (v := ?_) rfl rfl (by kernel_rfl) (by kernel_rfl) (by kernel_rfl) (by kernel_rfl) (by kernel_rfl) (by kernel_rfl) (fun _ _ _ h => h) (Or.inl ⟨by rfl, ?_⟩) hHeld ?_
  rotate_left
  · intro w' hSw
    go_simp
    try with_reducible rfl
  simp only [Act.put, List.setIfInBounds_toArray, List.set_cons_zero, List.set_cons_succ]
  refine Gen.take (i := 2) (k := 3) (v := ?_) rfl rfl (by kernel_rfl) (by kernel_rfl) (by kernel_rfl) (by kernel_rfl) (by kernel_rfl) (by kernel_rfl) (fun _ _ _ h => h) (Or.inl ⟨by rfl, ?_⟩) hHeld ?_
  rotate_left
  · intro w' hSw
    go_simp
    try with_reducible rfl
  simp only [Act.put, List.setIfInBounds_toArray, List.set_cons_zero, List.set_cons_succ]
  refine Gen.take (i := 3) (k := 4) (v := ?_) rfl rfl (by kernel_rfl) (by kernel_rfl) (by kernel_rfl) (by kernel_rfl) (by kernel_rfl) (by kernel_rfl) (fun _ _ _ h => h) (Or.inl ⟨by rfl, ?_⟩) hHeld ?_
  rotate_left
  · intro w' hSw
    go_simp
    try with_reducible rfl
  simp only [Act.put, List.setIfInBounds_toArray, List.set_cons_zero, List.set_cons_succ]
  refine Gen.take (i := 4) (k := 7) (v := ?_) rfl rfl (by kernel_rfl) (by kernel_rfl) (by kernel_rfl) (by kernel_rfl) (by kernel_rfl) (by kernel_rfl) (fun _ _ _ h => h) (Or.inl ⟨by rfl, ?_⟩) hHeld ?_
  rotate_left
  · intro w' hSw
    go_simp
    try with_reducible rfl
  simp only [Act.put, List.setIfInBounds_toArray, List.set_cons_zero, List.set_cons_succ]
  refine Gen.one (i := 5) (by kernel_rfl) rfl rfl (fun K hK => ?_)
  go_simp
  refine hK.out _ _ hv (fun hHeld => ?_)
  clear hK K
  try simp only [Act.put, List.setIfInBounds_toArray, List.set_cons_zero, List.set_cons_succ]
  refine Gen.one (i := 6) (by kernel_rfl) rfl rfl (fun K hK => ?_)
  go_simp
  have hb5 : Below w4.heap.size w4 (w4.alloc (.cells #[.int .i64 r.c, .int .i64 r.n, .int .i64 r.o, .int .i64 r.v, .string r.d, .int .i64 r.e] 76)).drew := ((Below.refl _ _).alloc (Nat.le_refl _) _).drew
  refine hK.out _ _ ((hb5.cell (p := ⟨u, 1, none⟩) hu4).trans hv) (fun hHeld => ?_)
  clear hK K
  try simp only [Act.put, List.setIfInBounds_toArray, List.set_cons_zero, List.set_cons_succ]
  refine Gen.one (i := 7) (by kernel_rfl) rfl rfl (fun K hK => ?_)
  refine wp_append_own _ (.tmp 43) (.tmp 45) 83 rfl (u + 1) 76 i0 (.agg #[.int .i64 0, .int .i64 0, .int .i64 0, .int .i64 0, .string ⟨#[]⟩, .int .i64 0]) 6 56 Tryd.underlying83 hi hy0 hy1 hy2 rfl (by decide) _ _ _ (by rfl) (row_below hrow hb5) ⟨w4.heap.size, 0, none⟩ 1 1 r.cells (by rfl) rfl (rec_made w4 r) r.cells_one e3 e4 (by have := hb5.size; omega) ?_
  intro v1 w6 hown1 hg1 _
  rw [← rcells_snoc] at hown1
  obtain ⟨va1, vc1, rfl, _, _⟩ := row_shape hown1
  have hb6 : Below (u + 1) w4 w6 := (hb5.mono (by omega)).grown hg1 (by have := hb5.size; omega) (fun k hk => ((row_below hrow hb5).lt k hk).1)
  have hF6 : Fw u q w w6 := (hF4.trans (Fw.of_below hb5)).grown (row_below hrow hb5) hg1
  have m1 := (hb6.cell (p := ⟨u, 1, none⟩) (by dsimp only; omega)).trans hv
  have m2 : w6.frozen? ⟨u, 1, none⟩ = false := (hb6.frozen (p := ⟨u, 1, none⟩) (by dsimp only; omega)).trans g1
  refine hK.out _ _ m1 (fun hHeld => ?_)
  clear hK K
  try simp only [Act.put, List.setIfInBounds_toArray, List.set_cons_zero, List.set_cons_succ]
  refine Gen.take (i := 8) (k := 9) (v := ?_) rfl rfl (by kernel_rfl) (by kernel_rfl) (by kernel_rfl) (by kernel_rfl) (by kernel_rfl) (by kernel_rfl) (fun _ _ _ h => h) (Or.inl ⟨by rfl, ?_⟩) hHeld ?_
  rotate_left
  · intro w' hSw
    go_simp
    try with_reducible rfl
  simp only [Act.put, List.setIfInBounds_toArray, List.set_cons_zero, List.set_cons_succ]
  refine Gen.take (i := 9) (k := 10) (v := ?_) rfl rfl (by kernel_rfl) (by kernel_rfl) (by kernel_rfl) (by kernel_rfl) (by kernel_rfl) (by kernel_rfl) (fun _ _ _ h => h) (Or.inl ⟨by rfl, ?_⟩) hHeld ?_
  rotate_left
  · intro w' hSw
    go_simp
    try with_reducible rfl
  simp only [Act.put, List.setIfInBounds_toArray, List.set_cons_zero, List.set_cons_succ]
  refine Gen.last (i := 10) (by kernel_rfl) rfl rfl (by kernel_rfl) (by kernel_rfl) (fun K hK => ?_)
  go_simp
  refine hK.out _ _ ?_
  clear hK K hHeld
  have hWn : WalIs (w6.setCell ⟨u, 1, none⟩ (.slice va1 (rs.length + 1) vc1)) u q (rs ++ [r]) false := by
    refine ⟨?_, ⟨_, World.cell?_setCell_same _ _ _ m1, ?_⟩, ?_, fun i => ?_, by have := hb6.size; simp; omega, typ_set (hty.imp fun _ h => h.imp fun _ h => (hb6.block _ (by omega)).trans h)⟩
    · rw [World.cell?_setCell_other _ _ _ _ (by simp)]; exact (hb6.cell (p := ⟨u, 0, none⟩) (by dsimp only; omega)).trans g0
    · rw [List.length_append]
      exact ownsRow_setCell_below (a := ⟨u, 1, none⟩) hown1 (by dsimp only; omega) _
    · rw [World.cell?_setCell_other _ _ _ _ (by simp)]; exact (hb6.cell (p := ⟨u, 2, none⟩) (by dsimp only; omega)).trans g2
    · rw [World.frozen?_setCell]; exact (hb6.frozen (p := ⟨u, i, none⟩) (by dsimp only; omega)).trans (g3 i)
  have hDn := hD4.below ((hb6.mono (show q + 1 ≤ u + 1 by omega)).setCell (p := ⟨u, 1, none⟩) (by dsimp only; omega) (.slice va1 (rs.length + 1) vc1)) (by omega)
  have hFn := hF6.setCell (i := 1) (.slice va1 (rs.length + 1) vc1)
  generalize w6.setCell ⟨u, 1, none⟩ (.slice va1 (rs.length + 1) vc1) = w7 at *
  go_wp2_with fail
  go_ret
  exact ⟨rfl, hWn, hDn, hFn⟩

set_option maxRecDepth 100000 in
theorem down_any (u q : Nat) (rs : List R) (down : Bool) (w : World) (h : WalIs w u q rs down) :
    Calls Tryd.prog 35 #[.pointer (some ⟨u, 0, none⟩)] w fun e w' => e = .returned (.bool down) ∧ w' = w := by
  have c2 := h.down
  go_enter Tryd.func35, Tryd.ntmps35
  go_wp2_with fail
  go_ret
  exact ⟨rfl, rfl⟩
end Go.Proofs.YtbebfliimjjohaaDoor.Wal
