/-
  Parts of the proof: WrmH WkpR WkpD WkpS WkpJ.
-/
import Derived.Test.YtbebfliimjjohaaGreatDoorLa23
import Derived.Lib.SliceRun
import Derived.Test.YtbebfliimjjohaaGreatDoorLa28
import Derived.BigQuiet
import Derived.Laws.StructEq
import Derived.Test.YtbebfliimjjohaaGreatDoorLa32
import Derived.ChangeSame
import Derived.ChangeVars
import Derived.JoinedOf
import Derived.Carry
import Derived.Maps.RangeWalk
section
namespace Go.Proofs.YtbebfliimjjohaaGreatDoor.Wld
open Go.RowKit Go.Maps
open Cache (tp row_kept row_below)
theorem ecells_one1 (l : List Ev) : ∀ u ∈ ecells l, u.oneCell' = true := by
  intro u hu
  simp only [ecells, List.mem_flatMap] at hu
  obtain ⟨e, _, he⟩ := hu
  simp [ecell] at he
  rcases he with rfl | rfl | rfl | rfl | rfl | rfl | rfl | rfl | rfl | rfl <;> rfl

theorem eql_nilE (w : World) (a : Option Addr) (n c : Nat) : (binOp .eql 29 (.slice a n c) (.slice none 0 0)).run Tryz.prog w = .ok (.bool a.isNone) w :=
  Lib.run_eql_slice_nil w 29 44 a n c 0 0 Tryz.underlying29

set_option maxHeartbeats 1000000 in
set_option maxRecDepth 100000 in
theorem cloneE_nil (w : World) :
    Calls Tryz.prog 31 #[.slice none 0 0] w fun e w' => e = .returned (.slice none 0 0) ∧ w' = w := by
  have hq := fun w => eql_nilE w none 0 0
  go_enter Tryz.func31, Tryz.ntmps31
  go_wp2_with fail
  go_ret
  exact ⟨rfl, rfl⟩

set_option maxHeartbeats 1000000 in
set_option maxRecDepth 100000 in
theorem cloneE_some (B g c : Nat) (l : List Ev) (w : World) (hrow : w.ownsRow B 44 10 (.slice (some ⟨g, 0, none⟩) l.length c) l.length (ecells l)) (hl : l.length ≤ 100000000000) :
    Calls Tryz.prog 31 #[.slice (some ⟨g, 0, none⟩) l.length c] w fun e w' => ∃ v, e = .returned v ∧ w'.ownsRow w.heap.size 44 10 v l.length (ecells l) ∧ Below w.heap.size w w' := by
  obtain ⟨i0, hi, hy0, hy1, hy2⟩ := info_parts info_event
  have hrow0 : (w.alloc (.cells #[] 44)).ownsRow w.heap.size 44 10 (.slice (some ⟨w.heap.size, 0, none⟩) 0 0) 0 [] := by simpa using World.ownsRow_lit (base := w.heap.size) (e := 44) (size := 10) w #[] 0 (Nat.le_refl _) (by decide) rfl
  have hnews : ∀ j u, (ecells l)[j]? = some u → (w.alloc (.cells #[] 44)).cell? ((⟨g, 0, none⟩ : Addr).add j) = some u := fun j u h => by
    have := hrow.cells rfl j u h
    rw [World.cell?_alloc_lt _ _ _ (World.block_lt_of_cell? _ _ this)]
    exact this
  have e3 : 0 + l.length ≤ maxLen := by unfold maxLen; omega
  have e4 : (0 + l.length) * 80 ≤ 140737488355328 := by omega
  have hlen := ecells_length l
  have hone := ecells_one1 l
  have hq := fun w => eql_nilE w (some ⟨g, 0, none⟩) l.length c
  go_enter Tryz.func31, Tryz.ntmps31
  go_wp2_with (at_builtin; refine wpList_append_own _ rfl _ _ 29 rfl w.heap.size 44 i0 (.agg #[.int .i64 0, .int .i64 0, .int .i64 0, .string ⟨#[]⟩, .int .i64 0, .bool false, .bool false, .int .i64 0, .int .i64 0, .int .i64 0]) 10 80 Tryz.underlying29 hi hy0 hy1 hy2 rfl (by decide) _ _ _ rfl hrow0 ⟨g, 0, none⟩ _ _ (ecells l) rfl hlen hnews hone e3 e4 ?r5 ?_)
  case r5 => simp
  intro v1 w1 hown1 hg1 _
  have hown : w1.ownsRow w.heap.size 44 10 v1 l.length (ecells l) := by first | exact hown1 | simpa using hown1
  have hb1 : Below w.heap.size w w1 := ((Below.refl _ _).alloc (Nat.le_refl _) _).grown hg1 (by simp) (fun k hk => by simp [Value.ownBlock] at hk; omega)
  go_wp2_with fail
  go_ret
  exact ⟨v1, rfl, hown, hb1⟩

set_option maxHeartbeats 1000000 in
set_option maxRecDepth 100000 in
theorem events_any (A : Wa) (s : Wd) (w : World) (h : WdIs w A s) (hl : s.events.length ≤ 100000000000) :
    Calls Tryz.prog 9 #[tp A.Q] w fun e w' => ∃ v, e = .returned v ∧ w'.ownsRow w.heap.size 44 10 v s.events.length (ecells s.events) ∧ Below w.heap.size w w' := by
  obtain ⟨v, hv, hrow⟩ := h.evs
  generalize s.events = l at *
  clear h
  rcases hrow.2 with ⟨rfl, h0⟩ | ⟨g, cap, cur, rfl, _⟩
  · have hr0 : l = [] := List.length_eq_zero_iff.1 h0
    subst hr0
    go_enter Tryz.func9, Tryz.ntmps9
    go_wp2_with fail
    refine (cloneE_nil _).mono ?_
    rintro e w1 ⟨rfl, rfl⟩
    go_wp2_with fail
    go_ret
    exact ⟨_, rfl, World.ownsRow_nil _ _ _ _, Below.refl _ _⟩
  · go_enter Tryz.func9, Tryz.ntmps9
    go_wp2_with fail
    refine (cloneE_some _ g cap l _ hrow hl).mono ?_
    rintro e w1 ⟨v, rfl, hown, hb⟩
    go_wp2_with fail
    go_ret
    exact ⟨_, rfl, hown, hb⟩

end Go.Proofs.YtbebfliimjjohaaGreatDoor.Wld
end

section
namespace Go.Proofs.YtbebfliimjjohaaGreatDoor.Wld
open Go.RowKit Go.Maps
def HasE (w : World) (B : Nat) (v : Value) (l : List Ev) : Prop := w.ownsRow B 44 10 v l.length (ecells l)

theorem HasE.shape {w : World} {B : Nat} {v : Value} {l : List Ev} (h : HasE w B v l) : ∃ ao c, v = .slice ao l.length c ∧ (0 < l.length → ∃ g, ao = some ⟨g, 0, none⟩ ∧ B ≤ g ∧ g < w.heap.size ∧ ∀ k (hk : k < l.length) j u, (ecell l[k])[j]? = some u → w.cell? ⟨g, k * 10 + j, none⟩ = some u) := by
  obtain ⟨ao, c, e, _, hn⟩ := Net.row_shape h
  refine ⟨ao, c, e, fun h0 => ?_⟩
  rcases h.2 with ⟨e1, h1⟩ | ⟨g, cap, cur, e1, _⟩
  · omega
  · rw [e1] at e
    injection e with e _ _
    have hown : (v.ownBlock) = some g := by rw [e1]; rfl
    have hlt := World.ownsRow.lt h g hown
    refine ⟨g, e.symm, hlt.1, hlt.2, fun k hk j u hu => ?_⟩
    have hj : j < 10 := by
      have := (List.getElem?_eq_some_iff.1 hu).1
      simpa [ecell] using this
    have h' := h
    rw [HasE, e1] at h'
    rw [World.ownsRow.cellAt h' (k * 10 + j) (by omega), ecells_get l k j hk hj]
    exact hu

end Go.Proofs.YtbebfliimjjohaaGreatDoor.Wld
end

section
namespace Go.Proofs.YtbebfliimjjohaaGreatDoor.Wld
open Go.RowKit Go.Maps
open Lease (Ob I64 upd TabIs hol dels objB HasI map_block map_ne mx)
open Cache (tp row_kept row_below)
open Num (M okB strOf ints)
def fA : ByteArray := ⟨#[97]⟩

def f1 : Wd := (Wd.bare 30 10 0 2).start

def f2 : Wd := f1.write 0 3 fA

def f3 : Wd := f2.calm 30

def f4 : Wd := f3.read 1 3

def f5 : Wd := f4.calm 1

def f6 : Wd := f5.read 1 3

set_option maxRecDepth 100000 in
theorem f6_events : f6.events.map (fun e => (e.client, e.kind, e.obj, e.d, e.ver, e.hit)) = [(0, 2, 3, fA, 1, false), (1, 1, 3, fA, 1, false), (1, 1, 3, fA, 1, true)] := by decide +kernel

set_option maxRecDepth 100000 in
theorem f6_many : f6.net.length = f5.net.length := by decide +kernel

set_option maxRecDepth 100000 in
theorem f1_free : (f1.seat 0).k.writeE 3 fA = 0 := by decide +kernel

set_option maxRecDepth 100000 in
theorem f3_free : (f3.seat 1).k.freeE 3 = 0 := by decide +kernel

set_option maxRecDepth 100000 in
theorem f5_free : (f5.seat 1).k.freeE 3 = 0 := by decide +kernel

def calmB (t : Wd) : Bool := decide (t.rs.length < 200) && t.rs.all fun r => decide (0 ≤ r.c) && decide (r.o < 8)

theorem calmB_ok {t : Wd} (h : calmB t = true) : CalmOk t := by
  unfold calmB at h
  simp only [Bool.and_eq_true, decide_eq_true_eq, List.all_eq_true] at h
  exact ⟨fun _ => h.1, h.2⟩

set_option maxRecDepth 100000 in
theorem f2_calm : (List.range 30).all (fun j => calmB (f2.calm j)) = true := by decide +kernel

set_option maxRecDepth 100000 in
theorem f4_calm : calmB f4 = true := by decide +kernel

theorem f1_B : WdB f1 0 := (WdB.bare (by omega) (by omega) (by omega) (by omega) (by omega)).start (by simp [Wd.bare])

theorem f2_B : WdB f2 3 := f1_B.begin (i := 0) (by show 0 < 2; omega) ((f1_B.st 0 (by show 0 < 2; omega)).k.begin 2 (d := fA) (by decide) 0 false false (by omega) (by omega) (f1_B.st 0 (by show 0 < 2; omega)).c0 (f1_B.st 0 (by show 0 < 2; omega)).c1 |>.mono (by omega))

theorem f2_ok : ∀ j, j < 30 → CalmOk (f2.calm j) := fun j hj => calmB_ok (List.all_eq_true.1 f2_calm j (List.mem_range.2 hj))

set_option maxRecDepth 100000 in
theorem f2_n : f2.n = 2 := by decide +kernel

theorem f3_B : WdB f3 540003 := (f2_B.calm (by rw [f2_n]; omega) 30 f2_ok).mono (by omega)

theorem f3_n : f3.n = 2 := by rw [f3, calm_n]; exact f2_n

theorem f4_B : WdB f4 540006 := by
  have hs := f3_B.st 1 (by rw [f3_n]; omega)
  have hk := hs.k.reads (o := 3) (by omega) (by omega) hs.c0 hs.c1
  have hb := f3_B.begin (i := 1) (by rw [f3_n]; omega) hk
  unfold f4 Wd.read
  exact hb

set_option maxRecDepth 100000 in
theorem f4_n : f4.n = 2 := by decide +kernel

theorem f4_ok : ∀ j, j < 1 → CalmOk (f4.calm j) := fun j hj => by
  obtain rfl : j = 0 := by omega
  exact calmB_ok f4_calm

theorem f5_B : WdB f5 558006 := (f4_B.calm (by rw [f4_n]; omega) 1 f4_ok).mono (by omega)

theorem f5_n : f5.n = 2 := by rw [f5, calm_n]; exact f4_n

theorem f6_three : ∃ e0 e1 e2 : Ev, f6.events = [e0, e1, e2] ∧ e0.ver = 1 ∧ e1.d = fA ∧ e1.ver = 1 ∧ e2.hit = true ∧ e2.d = fA ∧ e2.ver = 1 := by
  have h := f6_events
  match hf : f6.events, h with
  | [], h => simp at h
  | [_], h => simp at h
  | [_, _], h => simp at h
  | [e0, e1, e2], h =>
    simp at h
    obtain ⟨⟨_, _, _, _, a5, _⟩, ⟨_, _, _, b4, b5, _⟩, _, _, _, c4, c5, c6⟩ := h
    exact ⟨e0, e1, e2, rfl, a5, b4, b5, c6, c4, c5⟩
  | _ :: _ :: _ :: _ :: _, h => simp at h

structure On (w wi : World) (A : Wa) (s : Wd) : Prop where
  b : Below w.heap.size w wi
  l : Low w.heap.size wi A s
  d : WdIs wi A s

theorem On.next {w wi wj : World} {A A' : Wa} {s s' : Wd} (h : On w wi A s) (d : WdIs wj A' s') (f : Fz A s wi A' s' wj) : On w wj A' s' := ⟨h.b.trans (f.below h.l h.d.lt), h.l.step f h.b.size, d⟩

set_option maxHeartbeats 4000000 in
set_option maxRecDepth 100000 in
theorem readF_any (w : World) : Calls Tryz.prog 6 #[] w fun e w' => e = .returned (.bool true) ∧ Below w.heap.size w w' := by
  have hnew := newW_any 30 10 0 2 w (by omega) (by omega) (by omega) (by omega) (by omega) (by omega) (by omega)
  go_enter Tryz.func6, Tryz.ntmps6
  go_wp2_with fail
  refine hnew.mono ?_
  rintro e w1 ⟨A, rfl, hD1, hb1, hL1⟩
  clear hnew
  change WdIs w1 A f1 at hD1
  change Low w.heap.size w1 A f1 at hL1
  have hc1 := writeW_any A f1 0 0 3 fA w1 hD1 (by show 0 < 2; omega) f1_B (by omega) (by decide)
  rw [f1_free, if_pos rfl] at hc1
  change Calls _ _ _ _ (fun e w' => e = .returned (eV 0) ∧ WdIs w' A f2 ∧ Fz A f1 w1 A f2 w') at hc1
  rw [show eV 0 = .nilIface from rfl] at hc1
  have H1 : Hid (On w w1 A f1) := ⟨hb1, hL1, hD1⟩
  clear hb1 hL1 hD1
  go_wp2_with fail
  refine hc1.mono ?_
  rintro e w2 ⟨rfl, hD2, hZ2⟩
  have hO2 : On w w2 A f2 := H1.out.next hD2 hZ2
  have hc2 := calm_any A f2 3 30 w2 hD2 f2_B (by omega) f2_ok
  change Calls _ _ _ _ (fun e w' => e = .returned (.tuple #[]) ∧ ∃ a, WdIs w' { A with a := a } f3 ∧ Fz A f2 w2 { A with a := a } f3 w') at hc2
  have H2 : Hid (On w w2 A f2) := hO2
  clear hc1 H1 hO2 hD2 hZ2
  go_wp2_with fail
  refine hc2.mono ?_
  rintro e w3 ⟨rfl, a3, hD3, hZ3⟩
  have hO3 : On w w3 { A with a := a3 } f3 := H2.out.next hD3 hZ3
  have hc3 := readW_any { A with a := a3 } f3 1 540003 3 w3 hD3 (by rw [f3_n]; omega) f3_B (by omega)
  rw [f3_free, if_pos rfl, show eV 0 = .nilIface from rfl] at hc3
  change Calls _ _ #[tp A.Q, _, _] _ (fun e w' => e = .returned .nilIface ∧ WdIs w' { A with a := a3 } f4 ∧ Fz { A with a := a3 } f3 w3 { A with a := a3 } f4 w') at hc3
  have H3 : Hid (On w w3 { A with a := a3 } f3) := hO3
  clear hc2 H2 hO3 hD3 hZ3
  go_wp2_with fail
  refine hc3.mono ?_
  rintro e w4 ⟨rfl, hD4, hZ4⟩
  have hO4 : On w w4 { A with a := a3 } f4 := H3.out.next hD4 hZ4
  have hc4 := calm_any { A with a := a3 } f4 540006 1 w4 hD4 f4_B (by omega) f4_ok
  change Calls _ _ #[tp A.Q, _] _ (fun e w' => e = .returned (.tuple #[]) ∧ ∃ a, WdIs w' { A with a := a } f5 ∧ Fz { A with a := a3 } f4 w4 { A with a := a } f5 w') at hc4
  have H4 : Hid (On w w4 { A with a := a3 } f4) := hO4
  clear hc3 H3 hO4 hD4 hZ4
  go_wp2_with fail
  refine hc4.mono ?_
  rintro e w5 ⟨rfl, a5, hD5, hZ5⟩
  have hO5 : On w w5 { A with a := a5 } f5 := H4.out.next hD5 hZ5
  have hm5 := manyW_any { A with a := a5 } f5 w5 hD5
  change Calls _ _ #[tp A.Q] _ _ at hm5
  have hc5 := readW_any { A with a := a5 } f5 1 558006 3 w5 hD5 (by rw [f5_n]; omega) f5_B (by omega)
  rw [f5_free, if_pos rfl, show eV 0 = .nilIface from rfl] at hc5
  change Calls _ _ #[tp A.Q, _, _] _ (fun e w' => e = .returned .nilIface ∧ WdIs w' { A with a := a5 } f6 ∧ Fz { A with a := a5 } f5 w5 { A with a := a5 } f6 w') at hc5
  have H5 : Hid (On w w5 { A with a := a5 } f5) := hO5
  clear hc4 H4 hO5 hD5 hZ5
  obtain ⟨mm, hmm⟩ : ∃ mm, f5.net.length = mm := ⟨_, rfl⟩
  rw [hmm] at hm5
  go_wp2_with fail
  refine hm5.mono ?_
  rintro e w5 ⟨rfl, rfl⟩
  clear hm5
  go_wp2_with fail
  refine hc5.mono ?_
  rintro e w6 ⟨rfl, hD6, hZ6⟩
  have hO6 : On w w6 { A with a := a5 } f6 := H5.out.next hD6 hZ6
  have hm6 := manyW_any { A with a := a5 } f6 w6 hD6
  rw [f6_many, hmm] at hm6
  change Calls _ _ #[tp A.Q] _ _ at hm6
  have hev := events_any { A with a := a5 } f6 w6 hD6
  change _ → Calls _ _ #[tp A.Q] _ _ at hev
  have H6 : Hid (On w w6 { A with a := a5 } f6) := hO6
  clear hc5 H5 hO6 hD6 hZ6 hmm
  go_wp2_with fail
  refine hm6.mono ?_
  rintro e w6 ⟨rfl, rfl⟩
  clear hm6
  obtain ⟨e0, e1, e2, he, a1, b1, b2, c1, c2, c3⟩ := f6_three
  have hev := hev (by rw [he]; simp)
  rw [he] at hev
  go_wp2_with fail
  refine hev.mono ?_
  rintro e w7 ⟨v, rfl, hrow, hb7⟩
  obtain ⟨ao, cc, rfl, hcell⟩ := HasE.shape (l := [e0, e1, e2]) hrow
  obtain ⟨g, rfl, hg1, hg2, hc⟩ := hcell (by simp)
  have x04 : w7.cell? ⟨g, 4, none⟩ = some (.int .i64 1) := by have := hc 0 (by simp) 4 _ rfl; simpa [ecell, a1] using this
  have x13 : w7.cell? ⟨g, 13, none⟩ = some (.string fA) := by have := hc 1 (by simp) 3 _ rfl; simpa [ecell, b1] using this
  have x14 : w7.cell? ⟨g, 14, none⟩ = some (.int .i64 1) := by have := hc 1 (by simp) 4 _ rfl; simpa [ecell, b2] using this
  have x26 : w7.cell? ⟨g, 26, none⟩ = some (.bool true) := by have := hc 2 (by simp) 6 _ rfl; simpa [ecell, c1] using this
  have x23 : w7.cell? ⟨g, 23, none⟩ = some (.string fA) := by have := hc 2 (by simp) 3 _ rfl; simpa [ecell, c2] using this
  have x24 : w7.cell? ⟨g, 24, none⟩ = some (.int .i64 1) := by have := hc 2 (by simp) 4 _ rfl; simpa [ecell, c3] using this
  have HB : Hid (Below w.heap.size w w7) := H6.out.b.trans (hb7.mono H6.out.b.size)
  unfold fA at x13 x23
  clear hcell hc hrow hb7 H6 hev he a1 b1 b2 c1 c2 c3
  simp only [List.length_cons, List.length_nil, Nat.zero_add, Nat.reduceAdd]
  go_upto_region 12 with fail
  go_quiet (fail)
  have HB2 : Hid (Below w.heap.size w (w7.drewN nq)) := ⟨HB.out.os, HB.out.tape, HB.out.output, HB.out.size, HB.out.block⟩
  clear HB
  go_wp2_with fail
  go_ret
  exact ⟨rfl, HB2.out⟩

end Go.Proofs.YtbebfliimjjohaaGreatDoor.Wld
end

section
namespace Go.Proofs.YtbebfliimjjohaaGreatDoor.Wld
open Go.RowKit Go.Maps Go.ChangeShapes Go.WideShapes Go.ChangeAt
open Cache (tp row_kept row_below)
structure Stp where
  wh : Int
  k : Int
  a : Int
  b : Int

def Stp.cells (x : Stp) : List Value := [.int .i64 x.wh, .int .i64 x.k, .int .i64 x.a, .int .i64 x.b]

def Steps (w : World) (ao : Option Addr) (xs : List Stp) : Prop :=
  0 < xs.length → ∃ b off, ao = some ⟨b, off, none⟩ ∧ b < w.heap.size ∧ ∀ j (hj : j < xs.length), ∀ i, i < 4 → w.cell? ⟨b, off + j * 4 + i, none⟩ = xs[j].cells[i]?

theorem laidOut : laidOutB Tryz.prog = true := by kernel_rfl

theorem cellsStep : Tryz.prog.cellsOf 28 = 4 := by kernel_rfl

theorem list4 {α : Type} {cs : List α} (h : cs.length = 4) : ∃ c0 c1 c2 c3, cs = [c0, c1, c2, c3] := by
  match cs, h with
  | [c0, c1, c2, c3], _ => exact ⟨c0, c1, c2, c3, rfl⟩

theorem there {α : Type} {xs : List α} {n i : Nat} (h : xs.length = n) (hi : i < n) : ∃ y, xs[i]? = some y := ⟨_, List.getElem?_eq_getElem (by omega)⟩

theorem list_of {α : Type} {n : Nat} {P : Nat → α → Prop} (h : ∀ i, i < n → ∃ x, P i x) : ∃ xs : List α, xs.length = n ∧ ∀ j (hj : j < xs.length), P j xs[j] := by
  induction n with
  | zero => exact ⟨[], rfl, fun j hj => by simp at hj⟩
  | succ n ih =>
    obtain ⟨xs, hl, hx⟩ := ih fun i hi => h i (by omega)
    obtain ⟨y, hy⟩ := h n (by omega)
    refine ⟨xs ++ [y], by simp [hl], fun j hj => ?_⟩
    by_cases hjl : j < xs.length
    · rw [List.getElem_append_left hjl]; exact hx j hjl
    · have e : j = xs.length := by simp at hj; omega
      subst e
      rw [List.getElem_append_right (by omega)]
      simpa [hl] using hy

section
variable {H : Type} {enc : TypeId × Value → H} {W : World} {base : Nat} {held : Bool}
theorem field_int {n : Nat} {c : Value} {xs : List (DataW H × List MemPlace)} {i k : Nat} (hl : xs.length = k) (hi : i < k) (h : DataW.trod enc Tryz.prog W base (fun _ => true) held n 3 [c] = xs[i]?) : ∃ x : Int, c = .int .i64 x := by
  obtain ⟨y, hy⟩ := there hl hi
  rw [hy] at h
  obtain ⟨x, hx, _, _⟩ := DataW.trod_int Tryz.underlying3 h
  exact ⟨x, by simpa using hx⟩

set_option maxRecDepth 100000 in
theorem open_step {fuel : Nat} {cs : List Value} {y : DataW H × List MemPlace} (hl : cs.length = 4) (h : DataW.trod enc Tryz.prog W base (fun _ => true) held fuel 28 cs = some y) :
    ∃ x : Stp, cs = x.cells := by
  obtain ⟨c0, c1, c2, c3, rfl⟩ := list4 hl
  obtain ⟨xs, n, _, _, _, hlen, hfs⟩ := DataW.trod_struct Tryz.underlying28 h
  have hl4 : xs.length = 4 := hlen
  have f0 : DataW.trod enc Tryz.prog W base (fun _ => true) held n 3 [c0] = xs[0]? := hfs 0 _ rfl
  have f1 : DataW.trod enc Tryz.prog W base (fun _ => true) held n 3 [c1] = xs[1]? := hfs 1 _ rfl
  have f2 : DataW.trod enc Tryz.prog W base (fun _ => true) held n 3 [c2] = xs[2]? := hfs 2 _ rfl
  have f3 : DataW.trod enc Tryz.prog W base (fun _ => true) held n 3 [c3] = xs[3]? := hfs 3 _ rfl
  obtain ⟨a, rfl⟩ := field_int hl4 (by omega) f0
  obtain ⟨b, rfl⟩ := field_int hl4 (by omega) f1
  obtain ⟨c, rfl⟩ := field_int hl4 (by omega) f2
  obtain ⟨d, rfl⟩ := field_int hl4 (by omega) f3
  exact ⟨⟨a, b, c, d⟩, rfl⟩

theorem open_steps {fuel : Nat} {ao : Option Addr} {len cap : Nat} {x : DataW H × List MemPlace} (h : DataW.trod enc Tryz.prog W base (fun _ => true) held fuel 22 [.slice ao len cap] = some x) :
    ∃ xs : List Stp, xs.length = len ∧ len ≤ 9223372036854775807 ∧ Steps W ao xs := by
  rcases DataW.trod_slice Tryz.underlying22 h with ⟨hcs, _⟩ | ⟨a, len', cap', elems, rest, n, _, hcs, _, hb, hl, hm, hlen, hel, _, _⟩
  · simp at hcs
    obtain ⟨rfl, rfl, rfl⟩ := hcs
    exact ⟨[], rfl, by omega, fun h => by simp at h⟩
  · simp at hcs
    obtain ⟨rfl, rfl, rfl⟩ := hcs
    have hm' : cap ≤ 9223372036854775807 := hm
    have each : ∀ i, i < len → ∃ s : Stp, ∀ j, j < 4 → W.cell? (a.add (i * 4 + j)) = s.cells[j]? := fun i hi => by
      have hi' := hel i hi
      rw [cellsStep, List.getElem?_eq_getElem (show i < elems.length by omega)] at hi'
      cases hc : W.cells? base (a.add (i * 4)) 4 with
      | none => rw [hc] at hi'; simp at hi'
      | some cs =>
        rw [hc] at hi'
        obtain ⟨_, hl4, hcell⟩ := World.cells?_some hc
        obtain ⟨s, rfl⟩ := open_step hl4 hi'
        refine ⟨s, fun j hj => ?_⟩
        rw [← Addr.add_add]
        exact hcell j hj
    obtain ⟨xs, hxl, hxs⟩ := list_of each
    refine ⟨xs, hxl, by omega, fun hp => ?_⟩
    obtain ⟨b, off, spot⟩ := a
    have hc0 := hxs 0 hp 0 (by omega)
    have hspot : spot = none := by simpa [Addr.add] using World.cell?_spot hc0
    subst hspot
    have hadd : ∀ i, (⟨b, off, none⟩ : Addr).add i = ⟨b, off + i, none⟩ := fun i => by unfold Addr.add; split <;> simp_all
    rw [hadd] at hc0
    refine ⟨b, off, rfl, World.block_lt_of_cell? _ _ hc0, fun j hj i hi => ?_⟩
    have q := (congrArg W.cell? (hadd (j * 4 + i))).symm.trans (hxs j hj i hi)
    rw [Nat.add_assoc]
    exact q

end
structure At (w wr : World) (T : Nat) (lies : Bool) (j : Nat) (A : Wa) (s : Wd) (wn : Nat) : Prop where
  t : TaleIs wr T A s wn lies
  g : Good s wn lies j
  b : Below w.heap.size w wr
  l : Low w.heap.size wr A s
  T0 : w.heap.size ≤ T

theorem Low.mono {N N' : Nat} {w : World} {A : Wa} {s : Wd} (h : Low N w A s) (hN : N' ≤ N) : Low N' w A s := fun k hk => Nat.le_trans hN (h k hk)

theorem At.done {w wr wr' : World} {T : Nat} {lies : Bool} {j : Nat} {A : Wa} {s : Wd} {wn : Nat} (h : At w wr T lies j A s wn) (d : Done wr wr' T A s lies (j + 1)) : ∃ A' s' wn', At w wr' T lies (j + 1) A' s' wn' := by
  obtain ⟨A', s', wn', t, g, f⟩ := d
  obtain ⟨f1, f2⟩ := f w.heap.size h.T0 h.b.size h.l
  exact ⟨A', s', wn', t, g, h.b.trans f1, f2, h.T0⟩

theorem At.below {w wr wr' : World} {T : Nat} {lies : Bool} {j : Nat} {A : Wa} {s : Wd} {wn : Nat} (h : At w wr T lies j A s wn) (hb : Below wr.heap.size wr wr') : At w wr' T lies j A s wn :=
  ⟨h.t.below hb, h.g, h.b.trans (hb.mono h.b.size), h.l.step (h.t.wd.below hb).2 h.b.size, h.T0⟩

theorem At.inv {w wr : World} {T : Nat} {lies : Bool} {j : Nat} {A : Wa} {s : Wd} {wn : Nat} (h : At w wr T lies j A s wn) : ∃ H L B, Inv s H L B ∧ (lies = false → Fr s H L) ∧ s.events.length ≤ 1 + j := by
  obtain ⟨H, L, b, C, k1, k2, _⟩ := h.g.ex
  obtain ⟨B, k3, _⟩ := k1.inv.inv
  exact ⟨H, L, B, k3, k1.fr, by rw [← k3.len]; omega⟩

end Go.Proofs.YtbebfliimjjohaaGreatDoor.Wld
end

section
namespace Go.Proofs.YtbebfliimjjohaaGreatDoor.Wld
open Go.RowKit Go.Maps
open Cache (tp row_kept row_below)
set_option maxRecDepth 100000 in
theorem lasts_long (o v d c : Int) (ao : Option Addr) (n cap : Nat) (w : World) (hn : 70 < n) (hm : n ≤ 9223372036854775807) :
    Calls Tryz.prog 5 #[.int .i64 o, .int .i64 v, .int .i64 d, .int .i64 c, .slice ao n cap] w fun e w' => e = .returned (.bool true) ∧ w' = w := by
  go_enter Tryz.func5, Tryz.ntmps5
  go_wp2_with fail
  go_ret
  exact ⟨rfl, rfl⟩

set_option maxHeartbeats 8000000 in
set_option maxRecDepth 100000 in
theorem lasts (o v d c : Int) (ao : Option Addr) (cap : Nat) (xs : List Stp) (w : World) (hlen : xs.length ≤ 70) (hgo : Steps w ao xs) :
    Calls Tryz.prog 5 #[.int .i64 o, .int .i64 v, .int .i64 d, .int .i64 c, .slice ao xs.length cap] w fun e w' => e = .returned (.bool true) ∧ Below w.heap.size w w' := by
  have hrd := readF_any w
  go_enter Tryz.func5, Tryz.ntmps5
  go_wp2_with fail
  refine hrd.mono ?_
  rintro e w1 ⟨rfl, hb1⟩
  have htl := tells_any o v d c false w1
  clear hrd
  go_wp2_with fail
  refine htl.mono ?_
  rintro e w2 ⟨T, A, tob, tv, td, n, a1, a2, a3, a4, a5, a6, n1, n4, rfl, hT, hT0, hb2, hL⟩
  have H0 : Hid (∃ A s wn, At w w2 T false 0 A s wn) := ⟨A, _, 0, hT, Good.first a1 a5 a6 n4 (WdB.bare a1 a3 (by omega) a5 a6) false, hb1.trans (hb2.mono hb1.size), hL.mono hb1.size, by have := hb1.size; omega⟩
  clear htl hT hT0 hb2 hL a1 a2 a3 a4 a5 a6 n1 n4 hb1
  go_wp2_with fail
  go_loopw [12] (fun i wr => ∃ j : Nat, j ≤ xs.length ∧ i = .int .i64 j ∧ ∃ A s wn, At w wr T false j A s wn) (fun i _ => xs.length - (intOf i).toNat)
  case atStart => exact ⟨0, by omega, rfl, H0.out⟩
  case round =>
    obtain ⟨j, hj, rfl, A, s, wn, hA⟩ := hrel
    clear H0
    by_cases hjl : j < xs.length
    · obtain ⟨bo, off, rfl, hbo, hx⟩ := hgo (by omega)
      have hcells := hx j hjl
      have c0 := (hA.b.cell (p := ⟨bo, off + j * 4 + 0, none⟩) hbo).trans (hcells 0 (by omega))
      have c1 := (hA.b.cell (p := ⟨bo, off + j * 4 + 1, none⟩) hbo).trans (hcells 1 (by omega))
      have c2 := (hA.b.cell (p := ⟨bo, off + j * 4 + 2, none⟩) hbo).trans (hcells 2 (by omega))
      have c3 := (hA.b.cell (p := ⟨bo, off + j * 4 + 3, none⟩) hbo).trans (hcells 3 (by omega))
      generalize xs[j] = x at *
      obtain ⟨xw, xk, xa, xb⟩ := x
      simp only [Stp.cells, List.getElem?_cons_zero, List.getElem?_cons_succ, Nat.add_zero] at c0 c1 c2 c3
      have hj' : (j : Int) < xs.length := by omega
      have hj0 : (0 : Int) ≤ (j : Int) := by omega
      have hdo := does_any T j wn A s false xw xk xa xb wr hA.t hA.g (by omega)
      have HA : Hid (At w wr T false j A s wn) := hA
      clear hcells hx hgo hA
      go_wp2_with fail
      refine hdo.mono ?_
      rintro e w3 ⟨rfl, hdn⟩
      obtain ⟨A, s, wn, hA⟩ := HA.out.done hdn
      have t0 := hA.t.c0
      have hup := up_any A s w3 hA.t.wd
      obtain ⟨H, L, B, hI, _, hel⟩ := hA.inv
      have hev := events_any A s w3 hA.t.wd (by omega)
      have HA2 : Hid (At w w3 T false (j + 1) A s wn ∧ Inv s H L B) := ⟨hA, hI⟩
      clear HA hdo hdn c0 c1 c2 c3 hA hI
      go_wp2_with fail
      refine hup.mono ?_
      rintro e w3 ⟨rfl, rfl⟩
      clear hup
      cases hsv : s.sv with
      | none =>
        rw [show (none : Option Sv).isSome = false from rfl]
        go_wp2_with fail
        go_roundw
        case rel => exact ⟨j + 1, by omega, by go_num, A, s, wn, HA2.out.1⟩
        case measure => simp [intOf]; omega
      | some sv =>
        rw [show (some sv : Option Sv).isSome = true from rfl]
        go_wp2_with fail
        refine hev.mono ?_
        rintro e w4 ⟨ev, rfl, hrow, hb4⟩
        obtain ⟨aev, cev, rfl, hcell⟩ := HasE.shape (l := s.events) hrow
        have HA4 : Hid (At w w4 T false (j + 1) A s wn ∧ Inv s H L B) := ⟨HA2.out.1.below hb4, HA2.out.2⟩
        have HC : Hid (0 < s.events.length → ∃ g, aev = some ⟨g, 0, none⟩ ∧ w3.heap.size ≤ g ∧ g < w4.heap.size ∧ ∀ k (hk : k < s.events.length) j u, (ecell s.events[k])[j]? = some u → w4.cell? ⟨g, k * 10 + j, none⟩ = some u) := hcell
        have HS : Hid (s.sv = some sv) := hsv
        obtain ⟨evs, hevs⟩ : ∃ evs, s.events = evs := ⟨_, rfl⟩
        have HEV : Hid (s.events = evs) := hevs
        rw [hevs] at HC hel
        rw [hevs]
        clear hrow hcell hev hb4 HA2 hsv t0 hevs
        go_wp2_with fail
        go_loopw [14] (fun i wx => ∃ k : Nat, k ≤ evs.length ∧ i = .int .i64 k ∧ Below w4.heap.size w4 wx) (fun i _ => evs.length - (intOf i).toNat)
        case atStart => exact ⟨0, by omega, rfl, Below.refl _ _⟩
        case round =>
          obtain ⟨k, hk, rfl, hbx⟩ := hrel
          by_cases hkl : k < evs.length
          · obtain ⟨g, rfl, hg1, hg2, hc⟩ := HC.out (by omega)
            obtain ⟨y, hy⟩ : ∃ y, evs[k] = y := ⟨_, rfl⟩
            have hym : y ∈ s.events := by rw [HEV.out, ← hy]; exact List.getElem_mem hkl
            have hA4 := HA4.out.1.below hbx
            have hI := HA4.out.2
            obtain ⟨o0, o8, _⟩ := hI.objs hym
            obtain ⟨oo, hoo⟩ : ∃ oo : Nat, y.obj = (oo : Int) := ⟨y.obj.toNat, by omega⟩
            have q : ∀ j u, (ecell y)[j]? = some u → wr.cell? ⟨g, k * 10 + j, none⟩ = some u := fun j u hu => (hbx.cell (p := ⟨g, k * 10 + j, none⟩) hg2).trans (hc k hkl j u (by rw [hy]; exact hu))
            have q2 := q 2 _ rfl
            have q3 := q 3 _ rfl
            have q4 := q 4 _ rfl
            have q8 := q 8 _ rfl
            rw [hoo] at q2
            have t0 := hA4.t.c0
            have hval := fun w' (hb : Below wr.heap.size wr w') => valueW_ok A s sv oo w' (hA4.t.wd.below hb).1 HS.out (by omega)
            have HY : Hid (y.ended ≠ 0 → y.ver ≤ sv.vv oo ∧ (y.ver = sv.vv oo → 0 < y.ver → sv.vd oo = y.d)) := fun hn => by
              have := hI.lasts HS.out hym hn
              rw [hoo] at this
              exact this.2.2
            have HE0 : 0 ≤ y.ended := (hI.bg y hym).2.2.1
            have hkI : (k : Int) < (evs.length : Int) := by omega
            have hkI0 : (0 : Int) ≤ (k : Int) := by omega
            have hTl := hA4.t.typ.lt
            have hgl : g < wr.heap.size := by have := hbx.size; omega
            clear q hc hA4 hI o0 o8 hoo hy hym
            go_upto_region 17 with fail
            have hS0 : wr.drew.cell? ⟨T, 0, none⟩ = some (tp A.Q) ∧ wr.drew.cell? ⟨g, k * 10 + 2, none⟩ = some (.int .i64 oo) := ⟨t0, q2⟩
            refine Gen.start (S := fun w' => w'.cell? ⟨T, 0, none⟩ = some (tp A.Q) ∧ w'.cell? ⟨g, k * 10 + 2, none⟩ = some (.int .i64 oo)) (by kernel_rfl) hS0 (fun hHeld => ?_)
            refine Gen.tk 0 1 ?_ rfl rfl (Or.inl ⟨by rfl, ?_⟩) hHeld ?_
            rotate_left
            · intro w' hSw
              obtain ⟨s0, s1⟩ := hSw
              go_simp
              try with_reducible rfl
            go_frame
            refine Gen.tk 1 2 ?_ rfl rfl (Or.inl ⟨by rfl, ?_⟩) hHeld ?_
            rotate_left
            · intro w' hSw
              obtain ⟨s0, s1⟩ := hSw
              go_simp
              try with_reducible rfl
            go_frame
            refine Gen.tk 2 3 ?_ rfl rfl (Or.inl ⟨by rfl, ?_⟩) hHeld ?_
            rotate_left
            · intro w' hSw
              obtain ⟨s0, s1⟩ := hSw
              go_simp
              try with_reducible rfl
            go_frame
            refine Gen.tk 3 10 ?_ rfl rfl (Or.inl ⟨by rfl, ?_⟩) hHeld ?_
            rotate_left
            · intro w' hSw
              obtain ⟨s0, s1⟩ := hSw
              go_simp
              try with_reducible rfl
            go_frame
            refine Gen.tk 4 6 ?_ rfl rfl (Or.inl ⟨by rfl, ?_⟩) hHeld ?_
            rotate_left
            · intro w' hSw
              obtain ⟨s0, s1⟩ := hSw
              go_simp
              try with_reducible rfl
            go_frame
            refine Gen.tk 5 6 ?_ rfl rfl (Or.inl ⟨by rfl, ?_⟩) hHeld ?_
            rotate_left
            · intro w' hSw
              obtain ⟨s0, s1⟩ := hSw
              go_simp
              try with_reducible rfl
            go_frame
            refine Gen.tk 6 7 ?_ rfl rfl (Or.inl ⟨by rfl, ?_⟩) hHeld ?_
            rotate_left
            · intro w' hSw
              obtain ⟨s0, s1⟩ := hSw
              go_simp
              try with_reducible rfl
            go_frame
            refine Gen.tk 7 8 ?_ rfl rfl (Or.inl ⟨by rfl, ?_⟩) hHeld ?_
            rotate_left
            · intro w' hSw
              obtain ⟨s0, s1⟩ := hSw
              go_simp
              try with_reducible rfl
            go_frame
            refine Gen.tk 8 9 ?_ rfl rfl (Or.inl ⟨by rfl, ?_⟩) hHeld ?_
            rotate_left
            · intro w' hSw
              obtain ⟨s0, s1⟩ := hSw
              go_simp
              try with_reducible rfl
            go_frame
            refine Gen.tk 9 10 ?_ rfl rfl (Or.inl ⟨by rfl, ?_⟩) hHeld ?_
            rotate_left
            · intro w' hSw
              obtain ⟨s0, s1⟩ := hSw
              go_simp
              try with_reducible rfl
            go_frame
            refine Gen.two (i := 10) (j := 14) (by kernel_rfl) rfl rfl rfl rfl (fun K hK => ?_) (fun K hK => ?_)
            · go_simp
              refine (hval wr.drew (Below.refl _ _).drew).mono ?_
              rintro e w5 ⟨rfl, hb5⟩
              dsimp only
              refine hK.out _ _ ⟨(hb5.cell (p := ⟨T, 0, none⟩) (by show T < wr.heap.size; exact hTl)).trans t0, (hb5.cell (p := ⟨g, k * 10 + 2, none⟩) (by show g < wr.heap.size; exact hgl)).trans q2⟩ (fun hHeld => ?_)
              clear hK K
              have hb5 : Below wr.heap.size wr w5 := ⟨hb5.os, hb5.tape, hb5.output, hb5.size, hb5.block⟩
              try go_frame
              refine Gen.tk 11 12 ?_ rfl rfl (Or.inl ⟨by rfl, ?_⟩) hHeld ?_
              rotate_left
              · intro w' hSw
                obtain ⟨s0, s1⟩ := hSw
                go_simp
                try with_reducible rfl
              go_frame
              refine Gen.tk 12 15 ?_ rfl rfl (Or.inl ⟨by rfl, ?_⟩) hHeld ?_
              rotate_left
              · intro w' hSw
                obtain ⟨s0, s1⟩ := hSw
                go_simp
                try with_reducible rfl
              go_frame
              refine Gen.tk 13 16 ?_ rfl rfl (Or.inl ⟨by rfl, ?_⟩) hHeld ?_
              rotate_left
              · intro w' hSw
                obtain ⟨s0, s1⟩ := hSw
                go_simp
                try with_reducible rfl
              go_frame
              refine Gen.one (i := 14) (by kernel_rfl) rfl rfl (fun K hK => ?_)
              go_simp
              refine hK.out _ _ ⟨(World.cell?_alloc_lt w5 _ ⟨T, 0, none⟩ (by have := hb5.size; dsimp only; omega)).trans hHeld.1, (World.cell?_alloc_lt w5 _ ⟨g, k * 10 + 2, none⟩ (by have := hb5.size; dsimp only; omega)).trans hHeld.2⟩ (fun hHeld => ?_)
              clear hK K
              try go_frame
              refine Gen.one (i := 15) (by kernel_rfl) rfl rfl (fun K hK => ?_)
              go_simp
              have hbv : Below w5.heap.size w5 (w5.alloc (.cells #[.string (sv.vd oo), .int .i64 (sv.vv oo)] 40)) := (Below.refl _ _).alloc (Nat.le_refl _) _
              have hb6 : Below wr.heap.size wr (w5.alloc (.cells #[.string (sv.vd oo), .int .i64 (sv.vv oo)] 40)) := hb5.trans (hbv.mono hb5.size)
              have z0 : (w5.alloc (.cells #[.string (sv.vd oo), .int .i64 (sv.vv oo)] 40)).cell? ⟨w5.heap.size, 0, none⟩ = some (.string (sv.vd oo)) := cell_of_row _ _ _ _ _ _ (heap_alloc_new w5 _)
              have z1 : (w5.alloc (.cells #[.string (sv.vd oo), .int .i64 (sv.vv oo)] 40)).cell? ⟨w5.heap.size, 1, none⟩ = some (.int .i64 (sv.vv oo)) := cell_of_row _ _ _ _ _ _ (heap_alloc_new w5 _)
              have hHeld6 := And.intro ((hb6.cell (p := ⟨T, 0, none⟩) hTl).trans t0) ((hb6.cell (p := ⟨g, k * 10 + 2, none⟩) hgl).trans q2)
              generalize w5.alloc (.cells #[.string (sv.vd oo), .int .i64 (sv.vv oo)] 40) = w6 at *
              generalize w5.heap.size = V at *
              refine hK.out _ _ hHeld6 (fun hHeld => ?_)
              clear hK K hHeld6 hbv
              try go_frame
              refine Gen.last (i := 16) (by kernel_rfl) rfl rfl (by kernel_rfl) (by kernel_rfl) (fun K hK => ?_)
              go_simp
              refine hK.out _ _ ?_
              clear hK K
              have m3 := (hb6.cell (p := ⟨g, k * 10 + 3, none⟩) hgl).trans q3
              have m4 := (hb6.cell (p := ⟨g, k * 10 + 4, none⟩) hgl).trans q4
              have m8 := (hb6.cell (p := ⟨g, k * 10 + 8, none⟩) hgl).trans q8
              have HB6 : Hid (∀ j, Below w4.heap.size w4 (w6.drewN j)) := fun j => by
                have h1 := hbx.trans (hb6.mono hbx.size)
                exact ⟨h1.os, h1.tape, h1.output, h1.size, h1.block⟩
              clear q2 q3 q4 q8 hb6 hval hHeld hbx t0
              obtain ⟨vvo, hvvo⟩ : ∃ x, sv.vv oo = x := ⟨_, rfl⟩
              obtain ⟨vdo, hvdo⟩ : ∃ x, sv.vd oo = x := ⟨_, rfl⟩
              rw [hvvo] at z1
              rw [hvdo] at z0
              try rw [hvvo, hvdo]
              have HY2 : Hid (y.ended ≠ 0 → y.ver ≤ vvo ∧ (y.ver = vvo → 0 < y.ver → vdo = y.d)) := by rw [← hvvo, ← hvdo]; exact HY.out
              clear HY hvvo hvdo
              by_cases hen : y.ended = 0
              · have d1 : decide (0 < y.ended) = false := decide_eq_false (by omega)
                go_upto_region 18 with fail
                go_quiet (fail)
                go_upto_region 20 with fail
                go_quiet (fail)
                go_wp2_with fail
                go_roundw
                case rel => exact ⟨k + 1, by omega, by go_num, HB6.out _⟩
                case measure => simp [intOf]; omega
              · obtain ⟨h1, h2⟩ := HY2.out hen
                have d1 : decide (0 < y.ended) = true := decide_eq_true (by omega)
                have d2 : decide (vvo < y.ver) = false := decide_eq_false (by omega)
                clear HY2 hen
                go_upto_region 18 with fail
                go_quiet (fail)
                by_cases hv : vvo = y.ver
                · have d3 : (vvo == y.ver) = true := by simpa using hv
                  by_cases hp : 0 < vvo
                  · have d4 : decide (0 < vvo) = true := decide_eq_true hp
                    have hd := h2 hv.symm (by omega)
                    clear h1 h2 hv hp
                    subst hd
                    go_upto_region 20 with fail
                    go_quiet (fail)
                    go_wp2_with fail
                    go_roundw
                    case rel => exact ⟨k + 1, by omega, by go_num, HB6.out _⟩
                    case measure => simp [intOf]; omega
                  · have d4 : decide (0 < vvo) = false := decide_eq_false hp
                    clear h1 h2 hv hp
                    go_upto_region 20 with fail
                    go_quiet (fail)
                    go_wp2_with fail
                    go_roundw
                    case rel => exact ⟨k + 1, by omega, by go_num, HB6.out _⟩
                    case measure => simp [intOf]; omega
                · have d3 : (vvo == y.ver) = false := by simpa using hv
                  clear h1 h2 hv
                  go_upto_region 20 with fail
                  go_quiet (fail)
                  go_wp2_with fail
                  go_roundw
                  case rel => exact ⟨k + 1, by omega, by go_num, HB6.out _⟩
                  case measure => simp [intOf]; omega
            · go_simp
              refine hK.out _ _ ⟨(World.cell?_alloc_lt wr _ ⟨T, 0, none⟩ hTl).trans t0, (World.cell?_alloc_lt wr _ ⟨g, k * 10 + 2, none⟩ hgl).trans q2⟩ (fun hHeld => ?_)
              clear hK K
              try go_frame
              refine Gen.one (i := 10) (by kernel_rfl) rfl rfl (fun K hK => ?_)
              go_simp
              have hba : Below wr.heap.size wr (wr.alloc (.cells #[.string ⟨#[]⟩, .int .i64 0] 40)).drew := ((Below.refl _ _).alloc (Nat.le_refl _) _).drew
              have eV : (wr.alloc (.cells #[.string ⟨#[]⟩, .int .i64 0] 40)).drew.heap[wr.heap.size]? = some (.cells #[.string ⟨#[]⟩, .int .i64 0] 40) := heap_alloc_new wr _
              refine (hval _ hba).mono ?_
              rintro e w5 ⟨rfl, hb5'⟩
              dsimp only
              have hb5 : Below wr.heap.size wr w5 := hba.trans (hb5'.mono hba.size)
              have eV5 : w5.heap[wr.heap.size]? = some (.cells #[.string ⟨#[]⟩, .int .i64 0] 40) := (hb5'.block _ (Array.getElem?_eq_some_iff.1 eV).1).trans eV
              refine hK.out _ _ ⟨(hb5.cell (p := ⟨T, 0, none⟩) hTl).trans t0, (hb5.cell (p := ⟨g, k * 10 + 2, none⟩) hgl).trans q2⟩ (fun hHeld => ?_)
              clear hK K hb5' hba eV
              obtain ⟨V, hV⟩ : ∃ V, wr.heap.size = V := ⟨_, rfl⟩
              rw [hV] at eV5
              have y0 : w5.cell? ⟨V, 0, none⟩ = some (.string ⟨#[]⟩) := cell_of_row _ _ _ _ _ _ eV5
              have y1 : w5.cell? ⟨V, 1, none⟩ = some (.int .i64 0) := cell_of_row _ _ _ _ _ _ eV5
              have fz : ∀ i, w5.frozen? ⟨V, i, none⟩ = false := fun i => by simp [World.frozen?, eV5]
              have fz0 := fz 0
              have fz1 := fz 1
              have HV : Hid (wr.heap.size = V) := hV
              clear fz eV5
              try go_frame
              refine Gen.tk 11 12 ?_ rfl rfl (Or.inl ⟨by rfl, ?_⟩) hHeld ?_
              rotate_left
              · intro w' hSw
                obtain ⟨s0, s1⟩ := hSw
                go_simp
                try with_reducible rfl
              go_frame
              refine Gen.tk 12 15 ?_ rfl rfl (Or.inl ⟨by rfl, ?_⟩) hHeld ?_
              rotate_left
              · intro w' hSw
                obtain ⟨s0, s1⟩ := hSw
                go_simp
                try with_reducible rfl
              go_frame
              refine Gen.tk 13 16 ?_ rfl rfl (Or.inl ⟨by rfl, ?_⟩) hHeld ?_
              rotate_left
              · intro w' hSw
                obtain ⟨s0, s1⟩ := hSw
                go_simp
                try with_reducible rfl
              go_frame
              refine Gen.one (i := 15) (by kernel_rfl) rfl rfl (fun K hK => ?_)
              go_simp
              have hV2 := HV.out
              have hb6 : Below wr.heap.size wr ((w5.setCell ⟨V, 0, none⟩ (.string (sv.vd oo))).setCell ⟨V, 1, none⟩ (.int .i64 (sv.vv oo))) := Below.setCell (Below.setCell hb5 (show wr.heap.size ≤ (⟨V, 0, none⟩ : Addr).block by show wr.heap.size ≤ V; omega) _) (show wr.heap.size ≤ (⟨V, 1, none⟩ : Addr).block by show wr.heap.size ≤ V; omega) _
              have y1' : (w5.setCell ⟨V, 0, none⟩ (.string (sv.vd oo))).cell? ⟨V, 1, none⟩ = some (.int .i64 0) := (World.cell?_setCell_other _ _ _ _ (by intro q; injection q with _ q; omega)).trans y1
              have z0 : ((w5.setCell ⟨V, 0, none⟩ (.string (sv.vd oo))).setCell ⟨V, 1, none⟩ (.int .i64 (sv.vv oo))).cell? ⟨V, 0, none⟩ = some (.string (sv.vd oo)) := (World.cell?_setCell_other _ _ _ _ (by intro q; injection q with _ q; omega)).trans (World.cell?_setCell_same _ _ _ y0)
              have z1 : ((w5.setCell ⟨V, 0, none⟩ (.string (sv.vd oo))).setCell ⟨V, 1, none⟩ (.int .i64 (sv.vv oo))).cell? ⟨V, 1, none⟩ = some (.int .i64 (sv.vv oo)) := World.cell?_setCell_same _ _ _ y1'
              have hHeld6 := And.intro ((hb6.cell (p := ⟨T, 0, none⟩) hTl).trans t0) ((hb6.cell (p := ⟨g, k * 10 + 2, none⟩) hgl).trans q2)
              clear y1' y0 y1 fz0 fz1 hV2 HV
              generalize (w5.setCell ⟨V, 0, none⟩ (.string (sv.vd oo))).setCell ⟨V, 1, none⟩ (.int .i64 (sv.vv oo)) = w6 at *
              refine hK.out _ _ hHeld6 (fun hHeld => ?_)
              clear hK K hHeld6
              try go_frame
              refine Gen.last (i := 16) (by kernel_rfl) rfl rfl (by kernel_rfl) (by kernel_rfl) (fun K hK => ?_)
              go_simp
              refine hK.out _ _ ?_
              clear hK K
              have m3 := (hb6.cell (p := ⟨g, k * 10 + 3, none⟩) hgl).trans q3
              have m4 := (hb6.cell (p := ⟨g, k * 10 + 4, none⟩) hgl).trans q4
              have m8 := (hb6.cell (p := ⟨g, k * 10 + 8, none⟩) hgl).trans q8
              have HB6 : Hid (∀ j, Below w4.heap.size w4 (w6.drewN j)) := fun j => by
                have h1 := hbx.trans (hb6.mono hbx.size)
                exact ⟨h1.os, h1.tape, h1.output, h1.size, h1.block⟩
              clear q2 q3 q4 q8 hb6 hval hHeld hbx t0
              obtain ⟨vvo, hvvo⟩ : ∃ x, sv.vv oo = x := ⟨_, rfl⟩
              obtain ⟨vdo, hvdo⟩ : ∃ x, sv.vd oo = x := ⟨_, rfl⟩
              rw [hvvo] at z1
              rw [hvdo] at z0
              try rw [hvvo, hvdo]
              have HY2 : Hid (y.ended ≠ 0 → y.ver ≤ vvo ∧ (y.ver = vvo → 0 < y.ver → vdo = y.d)) := by rw [← hvvo, ← hvdo]; exact HY.out
              clear HY hvvo hvdo
              by_cases hen : y.ended = 0
              · have d1 : decide (0 < y.ended) = false := decide_eq_false (by omega)
                go_upto_region 18 with fail
                go_quiet (fail)
                go_upto_region 20 with fail
                go_quiet (fail)
                go_wp2_with fail
                go_roundw
                case rel => exact ⟨k + 1, by omega, by go_num, HB6.out _⟩
                case measure => simp [intOf]; omega
              · obtain ⟨h1, h2⟩ := HY2.out hen
                have d1 : decide (0 < y.ended) = true := decide_eq_true (by omega)
                have d2 : decide (vvo < y.ver) = false := decide_eq_false (by omega)
                clear HY2 hen
                go_upto_region 18 with fail
                go_quiet (fail)
                by_cases hv : vvo = y.ver
                · have d3 : (vvo == y.ver) = true := by simpa using hv
                  by_cases hp : 0 < vvo
                  · have d4 : decide (0 < vvo) = true := decide_eq_true hp
                    have hd := h2 hv.symm (by omega)
                    clear h1 h2 hv hp
                    subst hd
                    go_upto_region 20 with fail
                    go_quiet (fail)
                    go_wp2_with fail
                    go_roundw
                    case rel => exact ⟨k + 1, by omega, by go_num, HB6.out _⟩
                    case measure => simp [intOf]; omega
                  · have d4 : decide (0 < vvo) = false := decide_eq_false hp
                    clear h1 h2 hv hp
                    go_upto_region 20 with fail
                    go_quiet (fail)
                    go_wp2_with fail
                    go_roundw
                    case rel => exact ⟨k + 1, by omega, by go_num, HB6.out _⟩
                    case measure => simp [intOf]; omega
                · have d3 : (vvo == y.ver) = false := by simpa using hv
                  clear h1 h2 hv
                  go_upto_region 20 with fail
                  go_quiet (fail)
                  go_wp2_with fail
                  go_roundw
                  case rel => exact ⟨k + 1, by omega, by go_num, HB6.out _⟩
                  case measure => simp [intOf]; omega
          · obtain rfl : k = evs.length := by omega
            have hA5 := HA4.out.1.below hbx
            have HA5 : Hid (At w wr T false (j + 1) A s wn) := hA5
            clear hA5 hbx HC HA4
            go_wp2_with fail
            go_roundw
            case rel => exact ⟨j + 1, by omega, by go_num, A, s, wn, HA5.out⟩
            case measure => simp [intOf]; omega
    · obtain rfl : j = xs.length := by omega
      have hb := hA.b
      clear hA
      go_wp2_with fail
      go_ret
      exact ⟨rfl, hb⟩

end Go.Proofs.YtbebfliimjjohaaGreatDoor.Wld
end
