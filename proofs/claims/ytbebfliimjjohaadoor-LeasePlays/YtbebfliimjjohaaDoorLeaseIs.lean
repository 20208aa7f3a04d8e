/-
  What a table holds, by the program and by the document's own answer; contracts of the range tests.
-/
import Derived.Test.YtbebfliimjjohaaDoorLeaseMap
import Derived.Test.YtbebfliimjjohaaDoorRows
import Derived.Test.YtbebfliimjjohaaDoorGenHeld
import Derived.WalkKit
import Derived.ProofKit
import Derived.OpenShut
import Derived.WalkLawsBesides
import Derived.Outline
import Derived.BigRegion
import Derived.StillTailTactics
import Derived.Deep.RegionHeld3
import Derived.BigQuiet
import Derived.Deep.QuietTactic
namespace Go.Proofs.YtbebfliimjjohaaDoor.Lease
open Go.RowKit Go.Maps
open Num (inB)

/-- Some blocks alone turn, and new blocks come. -/
structure Ob (bs : List Nat) (w w' : World) : Prop where
  os : w'.os = w.os
  tape : w'.tape = w.tape
  output : w'.output = w.output
  size : w.heap.size ≤ w'.heap.size
  block : ∀ k, k < w.heap.size → k ∉ bs → w'.heap[k]? = w.heap[k]?
theorem Ob.refl (bs : List Nat) (w : World) : Ob bs w w := ⟨rfl, rfl, rfl, Nat.le_refl _, fun _ _ _ => rfl⟩
theorem Ob.trans {bs : List Nat} {a b c : World} (h : Ob bs a b) (k : Ob bs b c) : Ob bs a c :=
  ⟨k.os.trans h.os, k.tape.trans h.tape, k.output.trans h.output, Nat.le_trans h.size k.size, fun i hi hq => by rw [k.block i (Nat.lt_of_lt_of_le hi h.size) hq, h.block i hi hq]⟩
theorem Ob.mono {bs cs : List Nat} {a b : World} (h : Ob bs a b) (hs : ∀ k ∈ bs, k ∈ cs) : Ob cs a b := ⟨h.os, h.tape, h.output, h.size, fun k hk hc => h.block k hk fun hb => hc (hs k hb)⟩
theorem Ob.of_below {bs : List Nat} {a b : World} (h : Below a.heap.size a b) : Ob bs a b := ⟨h.os, h.tape, h.output, h.size, fun k hk _ => h.block k hk⟩
theorem Ob.setCell {bs : List Nat} {q i : Nat} {a b : World} (h : Ob bs a b) (hq : q ∈ bs) (u : Value) : Ob bs a (b.setCell ⟨q, i, none⟩ u) :=
  h.trans ⟨rfl, rfl, rfl, by simp, fun k _ hk => Below.heap_setCell b ⟨q, i, none⟩ u k (fun e => hk (by rw [e]; exact hq))⟩
theorem Ob.drew {bs : List Nat} {a b : World} (h : Ob bs a b) : Ob bs a b.drew := ⟨h.os, h.tape, h.output, h.size, h.block⟩
theorem Ob.alloc {bs : List Nat} {a b : World} (h : Ob bs a b) (o : Obj) : Ob bs a (b.alloc o) := h.trans (Ob.of_below ((Below.refl _ _).alloc (Nat.le_refl _) o))
theorem Ob.turned {bs : List Nat} {q : Nat} {a b c : World} (h : Ob bs a b) (ht : b.mapTurned c q) (hq : q ∈ bs) : Ob bs a c := by
  have g := ht.grown
  exact h.trans ⟨g.os, g.tape, g.output, g.size, fun k hk hn => g.block k hk (fun e => hn (by injection e with e; rw [e]; exact hq))⟩
theorem Ob.below {bs : List Nat} {a b : World} {N : Nat} (h : Ob bs a b) (hN : ∀ k ∈ bs, N ≤ k) (ha : N ≤ a.heap.size) : Below N a b :=
  ⟨h.os, h.tape, h.output, h.size, fun k hk => h.block k (by omega) (fun hb => by have := hN k hb; omega)⟩

theorem map_block {H : Type} {P : Program} {k : TypeId} {R : Value → Option (DataW H × List MemPlace)} {w w' : World} {b n : Nat} {D : DataW H} (h : w.ownsMap P k R b n D) (hb : w'.heap[b]? = w.heap[b]?) : w'.ownsMap P k R b n D := by
  obtain ⟨es, clock, h1, r⟩ := h
  exact ⟨es, clock, hb.trans h1, r⟩
/-- A map's block is no row of cells. -/
theorem map_ne {H : Type} {P : Program} {k : TypeId} {R : Value → Option (DataW H × List MemPlace)} {w : World} {b n t i : Nat} {D : DataW H} {u : Value} (h : w.ownsMap P k R b n D) (hc : w.cell? ⟨t, i, none⟩ = some u) : t ≠ b := by
  rintro rfl
  obtain ⟨es, clock, h1, r⟩ := h
  simp [World.cell?, h1] at hc

/-- The table at block t, its leases of objects in the map at block m. -/
structure TabIs (w : World) (t m : Nat) (D : Dat) (v s : Int → Int) (n : Nat) : Prop where
  obj : w.cell? ⟨t, 0, none⟩ = some (.map (some m))
  vol : ∀ i : Nat, i < 4 → w.cell? ⟨t, 1 + i, none⟩ = some (.int .i64 (v i))
  ses : ∀ i : Nat, i < 4 → w.cell? ⟨t, 5 + i, none⟩ = some (.int .i64 (s i))
  free : ∀ i, w.frozen? ⟨t, i, none⟩ = false
  own : w.ownsMap Tryd.prog 164 (plainElem Tryd.prog 3) m n D
  i64 : ∀ i : Int, I64 (v i) ∧ I64 (s i)

theorem TabIs.ne {w : World} {t m n : Nat} {D : Dat} {v s : Int → Int} (h : TabIs w t m D v s n) : t ≠ m := map_ne h.own h.obj
theorem TabIs.lt {w : World} {t m n : Nat} {D : Dat} {v s : Int → Int} (h : TabIs w t m D v s n) : t < w.heap.size ∧ m < w.heap.size := ⟨World.block_lt_of_cell? _ _ h.obj, h.own.lt⟩
theorem TabIs.blocks {w w' : World} {t m n : Nat} {D : Dat} {v s : Int → Int} (h : TabIs w t m D v s n) (ht : w'.heap[t]? = w.heap[t]?) (hm : w'.heap[m]? = w.heap[m]?) : TabIs w' t m D v s n :=
  ⟨(World.cell?_of_block (a := ⟨t, 0, none⟩) ht).trans h.obj, fun i hi => (World.cell?_of_block (a := ⟨t, 1 + i, none⟩) ht).trans (h.vol i hi), fun i hi => (World.cell?_of_block (a := ⟨t, 5 + i, none⟩) ht).trans (h.ses i hi),
   fun i => (World.frozen?_of_block (a := ⟨t, i, none⟩) ht).trans (h.free i), map_block h.own hm, h.i64⟩
theorem TabIs.ob {w w' : World} {t m n : Nat} {D : Dat} {v s : Int → Int} {bs : List Nat} (h : TabIs w t m D v s n) (hb : Ob bs w w') (ht : t ∉ bs) (hm : m ∉ bs) : TabIs w' t m D v s n :=
  h.blocks (hb.block t h.lt.1 ht) (hb.block m h.lt.2 hm)
theorem TabIs.below {w w' : World} {t m n : Nat} {D : Dat} {v s : Int → Int} (h : TabIs w t m D v s n) (hb : Below w.heap.size w w') : TabIs w' t m D v s n :=
  h.blocks (hb.block t h.lt.1) (hb.block m h.lt.2)
theorem TabIs.turned {w w' : World} {t m n n' : Nat} {D D' : Dat} {v s : Int → Int} (h : TabIs w t m D v s n) (hb : w.mapTurned w' m) (ho : w'.ownsMap Tryd.prog 164 (plainElem Tryd.prog 3) m n' D') : TabIs w' t m D' v s n' := by
  have e : w'.heap[t]? = w.heap[t]? := hb.grown.block t h.lt.1 (fun e => h.ne (by injection e))
  exact ⟨(World.cell?_of_block (a := ⟨t, 0, none⟩) e).trans h.obj, fun i hi => (World.cell?_of_block (a := ⟨t, 1 + i, none⟩) e).trans (h.vol i hi), fun i hi => (World.cell?_of_block (a := ⟨t, 5 + i, none⟩) e).trans (h.ses i hi),
   fun i => (World.frozen?_of_block (a := ⟨t, i, none⟩) e).trans (h.free i), ho, h.i64⟩
theorem I64.upd {v : Int → Int} {c x : Int} (h : ∀ i, I64 (v i)) (hx : I64 x) : ∀ i, I64 (upd v c x i) := fun i => by
  unfold Lease.upd
  split
  · exact hx
  · exact h i
theorem TabIs.setVol {w : World} {t m n c : Nat} {D : Dat} {v s : Int → Int} (h : TabIs w t m D v s n) (hc : c < 4) {x : Int} (hx : I64 x) : TabIs (w.setCell ⟨t, 1 + c, none⟩ (.int .i64 x)) t m D (upd v c x) s n := by
  refine ⟨?_, fun i hi => ?_, fun i hi => ?_, fun i => ?_, h.own.setCell (fun e => h.ne e.symm) _, fun i => ⟨I64.upd (fun i => (h.i64 i).1) hx i, (h.i64 i).2⟩⟩
  · rw [World.cell?_setCell_other _ _ _ _ (by simp)]; exact h.obj
  · by_cases e : i = c
    · subst e; rw [World.cell?_setCell_same _ _ _ (h.vol i hc), upd_same]
    · rw [World.cell?_setCell_other _ _ _ _ (by intro e; injection e with _ e; omega), upd_other (by omega)]; exact h.vol i hi
  · rw [World.cell?_setCell_other _ _ _ _ (by intro e; injection e with _ e; omega)]; exact h.ses i hi
  · rw [World.frozen?_setCell]; exact h.free i
theorem TabIs.setSes {w : World} {t m n c : Nat} {D : Dat} {v s : Int → Int} (h : TabIs w t m D v s n) (hc : c < 4) {x : Int} (hx : I64 x) : TabIs (w.setCell ⟨t, 5 + c, none⟩ (.int .i64 x)) t m D v (upd s c x) n := by
  refine ⟨?_, fun i hi => ?_, fun i hi => ?_, fun i => ?_, h.own.setCell (fun e => h.ne e.symm) _, fun i => ⟨(h.i64 i).1, I64.upd (fun i => (h.i64 i).2) hx i⟩⟩
  · rw [World.cell?_setCell_other _ _ _ _ (by simp)]; exact h.obj
  · rw [World.cell?_setCell_other _ _ _ _ (by intro e; injection e with _ e; omega)]; exact h.vol i hi
  · by_cases e : i = c
    · subst e; rw [World.cell?_setCell_same _ _ _ (h.ses i hc), upd_same]
    · rw [World.cell?_setCell_other _ _ _ _ (by intro e; injection e with _ e; omega), upd_other (by omega)]; exact h.ses i hi
  · rw [World.frozen?_setCell]; exact h.free i

/-- The document's table at block r, its maps at blocks a, b, c. -/
structure RefIs (w : World) (r a b c : Nat) (D Dv Ds : Dat) (n : Nat) : Prop where
  obj : w.cell? ⟨r, 0, none⟩ = some (.map (some a))
  vol : w.cell? ⟨r, 1, none⟩ = some (.map (some b))
  ses : w.cell? ⟨r, 2, none⟩ = some (.map (some c))
  ownO : w.ownsMap Tryd.prog 103 (plainElem Tryd.prog 3) a n D
  ownV : w.ownsMap Tryd.prog 3 (plainElem Tryd.prog 3) b n Dv
  ownS : w.ownsMap Tryd.prog 3 (plainElem Tryd.prog 3) c n Ds
  ab : a ≠ b
  ac : a ≠ c
  bc : b ≠ c
theorem RefIs.lt {w : World} {r a b c n : Nat} {D Dv Ds : Dat} (h : RefIs w r a b c D Dv Ds n) : r < w.heap.size ∧ a < w.heap.size ∧ b < w.heap.size ∧ c < w.heap.size := ⟨World.block_lt_of_cell? _ _ h.obj, h.ownO.lt, h.ownV.lt, h.ownS.lt⟩
theorem RefIs.ne {w : World} {r a b c n : Nat} {D Dv Ds : Dat} (h : RefIs w r a b c D Dv Ds n) : r ≠ a ∧ r ≠ b ∧ r ≠ c := ⟨map_ne h.ownO h.obj, map_ne h.ownV h.obj, map_ne h.ownS h.obj⟩
theorem RefIs.ob {w w' : World} {r a b c n : Nat} {D Dv Ds : Dat} {bs : List Nat} (h : RefIs w r a b c D Dv Ds n) (hb : Ob bs w w') (hr : r ∉ bs) (h1 : a ∉ bs) (h2 : b ∉ bs) (h3 : c ∉ bs) : RefIs w' r a b c D Dv Ds n := by
  obtain ⟨l0, l1, l2, l3⟩ := h.lt
  have e := hb.block r l0 hr
  exact ⟨(World.cell?_of_block (a := ⟨r, 0, none⟩) e).trans h.obj, (World.cell?_of_block (a := ⟨r, 1, none⟩) e).trans h.vol, (World.cell?_of_block (a := ⟨r, 2, none⟩) e).trans h.ses,
    map_block h.ownO (hb.block a l1 h1), map_block h.ownV (hb.block b l2 h2), map_block h.ownS (hb.block c l3 h3), h.ab, h.ac, h.bc⟩
theorem RefIs.below {w w' : World} {r a b c n : Nat} {D Dv Ds : Dat} (h : RefIs w r a b c D Dv Ds n) (hb : Below w.heap.size w w') : RefIs w' r a b c D Dv Ds n :=
  h.ob (bs := []) (Ob.of_below hb) (by simp) (by simp) (by simp) (by simp)
theorem RefIs.mono {w : World} {r a b c n n' : Nat} {D Dv Ds : Dat} (h : RefIs w r a b c D Dv Ds n) (hn : n ≤ n') : RefIs w r a b c D Dv Ds n' := ⟨h.obj, h.vol, h.ses, h.ownO.mono hn, h.ownV.mono hn, h.ownS.mono hn, h.ab, h.ac, h.bc⟩
theorem TabIs.mono {w : World} {t m n n' : Nat} {D : Dat} {v s : Int → Int} (h : TabIs w t m D v s n) (hn : n ≤ n') : TabIs w t m D v s n' := ⟨h.obj, h.vol, h.ses, h.free, h.own.mono hn, h.i64⟩
theorem RefIs.turnO {w w' : World} {r a b c n n' : Nat} {D D' Dv Ds : Dat} (h : RefIs w r a b c D Dv Ds n) (hn : n ≤ n') (hb : w.mapTurned w' a) (ho : w'.ownsMap Tryd.prog 103 (plainElem Tryd.prog 3) a n' D') : RefIs w' r a b c D' Dv Ds n' := by
  have k := (h.mono hn).ownV
  have k' := (h.mono hn).ownS
  obtain ⟨l0, l1, l2, l3⟩ := h.lt
  have g : ∀ i, i < w.heap.size → i ≠ a → w'.heap[i]? = w.heap[i]? := fun i hi hne => hb.grown.block i hi (fun e => hne (by injection e))
  have e := g r l0 h.ne.1
  exact ⟨(World.cell?_of_block (a := ⟨r, 0, none⟩) e).trans h.obj, (World.cell?_of_block (a := ⟨r, 1, none⟩) e).trans h.vol, (World.cell?_of_block (a := ⟨r, 2, none⟩) e).trans h.ses,
    ho, map_block k (g b l2 (Ne.symm h.ab)), map_block k' (g c l3 (Ne.symm h.ac)), h.ab, h.ac, h.bc⟩
theorem RefIs.turnV {w w' : World} {r a b c n n' : Nat} {D Dv D' Ds : Dat} (h : RefIs w r a b c D Dv Ds n) (hn : n ≤ n') (hb : w.mapTurned w' b) (ho : w'.ownsMap Tryd.prog 3 (plainElem Tryd.prog 3) b n' D') : RefIs w' r a b c D D' Ds n' := by
  have k := (h.mono hn).ownO
  have k' := (h.mono hn).ownS
  obtain ⟨l0, l1, l2, l3⟩ := h.lt
  have g : ∀ i, i < w.heap.size → i ≠ b → w'.heap[i]? = w.heap[i]? := fun i hi hne => hb.grown.block i hi (fun e => hne (by injection e))
  have e := g r l0 h.ne.2.1
  exact ⟨(World.cell?_of_block (a := ⟨r, 0, none⟩) e).trans h.obj, (World.cell?_of_block (a := ⟨r, 1, none⟩) e).trans h.vol, (World.cell?_of_block (a := ⟨r, 2, none⟩) e).trans h.ses,
    map_block k (g a l1 h.ab), ho, map_block k' (g c l3 (Ne.symm h.bc)), h.ab, h.ac, h.bc⟩
theorem RefIs.turnS {w w' : World} {r a b c n n' : Nat} {D Dv D' Ds : Dat} (h : RefIs w r a b c D Dv Ds n) (hn : n ≤ n') (hb : w.mapTurned w' c) (ho : w'.ownsMap Tryd.prog 3 (plainElem Tryd.prog 3) c n' D') : RefIs w' r a b c D Dv D' n' := by
  have k := (h.mono hn).ownO
  have k' := (h.mono hn).ownV
  obtain ⟨l0, l1, l2, l3⟩ := h.lt
  have g : ∀ i, i < w.heap.size → i ≠ c → w'.heap[i]? = w.heap[i]? := fun i hi hne => hb.grown.block i hi (fun e => hne (by injection e))
  have e := g r l0 h.ne.2.2
  exact ⟨(World.cell?_of_block (a := ⟨r, 0, none⟩) e).trans h.obj, (World.cell?_of_block (a := ⟨r, 1, none⟩) e).trans h.vol, (World.cell?_of_block (a := ⟨r, 2, none⟩) e).trans h.ses,
    map_block k (g a l1 h.ac), map_block k' (g b l2 h.bc), ho, h.ab, h.ac, h.bc⟩

/-- Is it a client, an object, a time? -/
def cliB (n : Int) : Bool := inB n 0 3
def objB (n : Int) : Bool := inB n 0 7
def timB (n : Int) : Bool := inB n 0 1099511627776
theorem cliB_true {n : Int} (h : cliB n = true) : 0 ≤ n ∧ n ≤ 3 := Num.of_inB_true h
theorem objB_true {n : Int} (h : objB n = true) : 0 ≤ n ∧ n ≤ 7 := Num.of_inB_true h
theorem timB_true {n : Int} (h : timB n = true) : 0 ≤ n ∧ n ≤ 1099511627776 := Num.of_inB_true h
theorem cliB_false {n : Int} (h : cliB n = false) : ¬ (0 ≤ n ∧ n ≤ 3) := by simpa [cliB, inB] using h

theorem cli_any (n : Int) (w : World) : Calls Tryd.prog 79 #[.int .i64 n] w fun e w' => e = .returned (.bool (cliB n)) ∧ w' = w := by
  unfold cliB
  by_cases h0 : 0 ≤ n
  · by_cases h1 : n < 4
    · rw [Num.inB_true h0 (by omega)]
      go_enter Tryd.func79, Tryd.ntmps79
      go_wp2
      go_ret
      exact ⟨rfl, rfl⟩
    · rw [Num.inB_above (by omega)]
      have h2 : decide (n < 4) = false := decide_eq_false h1
      go_enter Tryd.func79, Tryd.ntmps79
      go_wp2
      go_ret
      exact ⟨rfl, rfl⟩
  · rw [Num.inB_below (by omega)]
    have h2 : decide (0 ≤ n) = false := decide_eq_false h0
    go_enter Tryd.func79, Tryd.ntmps79
    go_wp2
    go_ret
    exact ⟨rfl, rfl⟩
theorem obj_any (n : Int) (w : World) : Calls Tryd.prog 80 #[.int .i64 n] w fun e w' => e = .returned (.bool (objB n)) ∧ w' = w := by
  unfold objB
  by_cases h0 : 0 ≤ n
  · by_cases h1 : n < 8
    · rw [Num.inB_true h0 (by omega)]
      go_enter Tryd.func80, Tryd.ntmps80
      go_wp2
      go_ret
      exact ⟨rfl, rfl⟩
    · rw [Num.inB_above (by omega)]
      have h2 : decide (n < 8) = false := decide_eq_false h1
      go_enter Tryd.func80, Tryd.ntmps80
      go_wp2
      go_ret
      exact ⟨rfl, rfl⟩
  · rw [Num.inB_below (by omega)]
    have h2 : decide (0 ≤ n) = false := decide_eq_false h0
    go_enter Tryd.func80, Tryd.ntmps80
    go_wp2
    go_ret
    exact ⟨rfl, rfl⟩
theorem tim_any (n : Int) (w : World) : Calls Tryd.prog 81 #[.int .i64 n] w fun e w' => e = .returned (.bool (timB n)) ∧ w' = w := by
  unfold timB
  by_cases h0 : 0 ≤ n
  · by_cases h1 : n ≤ 1099511627776
    · rw [Num.inB_true h0 h1]
      go_enter Tryd.func81, Tryd.ntmps81
      go_wp2
      go_ret
      exact ⟨rfl, rfl⟩
    · rw [Num.inB_above (by omega)]
      have h2 : decide (n ≤ 1099511627776) = false := decide_eq_false h1
      go_enter Tryd.func81, Tryd.ntmps81
      go_wp2
      go_ret
      exact ⟨rfl, rfl⟩
  · rw [Num.inB_below (by omega)]
    have h2 : decide (0 ≤ n) = false := decide_eq_false h0
    go_enter Tryd.func81, Tryd.ntmps81
    go_wp2
    go_ret
    exact ⟨rfl, rfl⟩
theorem in_any (n l h : Int) (w : World) : Calls Tryd.prog 60 #[.int .i64 n, .int .i64 l, .int .i64 h] w fun e w' => e = .returned (.bool (inB n l h)) ∧ w' = w := by
  by_cases h0 : l ≤ n
  · by_cases h1 : n ≤ h
    · rw [Num.inB_true h0 h1]
      go_enter Tryd.func60, Tryd.ntmps60
      go_wp2
      go_ret
      exact ⟨rfl, rfl⟩
    · rw [Num.inB_above (by omega)]
      have h2 : decide (n ≤ h) = false := decide_eq_false h1
      go_enter Tryd.func60, Tryd.ntmps60
      go_wp2
      go_ret
      exact ⟨rfl, rfl⟩
  · rw [Num.inB_below (by omega)]
    have h2 : decide (l ≤ n) = false := decide_eq_false h0
    go_enter Tryd.func60, Tryd.ntmps60
    go_wp2
    go_ret
    exact ⟨rfl, rfl⟩
end Go.Proofs.YtbebfliimjjohaaDoor.Lease
