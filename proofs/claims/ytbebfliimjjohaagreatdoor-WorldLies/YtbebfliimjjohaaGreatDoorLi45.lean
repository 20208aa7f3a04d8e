/-
  Parts of the proof: WrmH WkpR WkpD WkpS WkpT.
-/
import Derived.Test.YtbebfliimjjohaaGreatDoorLi32
import Derived.Lib.SliceRun
import Derived.Test.YtbebfliimjjohaaGreatDoorLi38
import Derived.BigQuiet
import Derived.Laws.StructEq
import Derived.Test.YtbebfliimjjohaaGreatDoorLi44
import Derived.ChangeSame
import Derived.ChangeVars
import Derived.JoinedOf
import Derived.Carry
namespace Go.Proofs.YtbebfliimjjohaaGreatDoor
section
namespace Wld
open Go.RowKit Go.Maps
open Cache (tp row_kept row_below)
theorem ecells_one1 (l : List Ev) : ∀ u ∈ ecells l, u.oneCell' = true := by
 intro u hu
 simp only [ecells, List.mem_flatMap] at hu
 obtain ⟨e, _, he⟩ := hu
 simp [ecell] at he
 rcases he with rfl | rfl | rfl | rfl | rfl | rfl | rfl | rfl | rfl | rfl <;> rfl
theorem eql_nilE (w : World) (a : Option Addr) (n c : Nat) : (binOp .eql 29 (.slice a n c) (.slice none 0 0)).run Tryz.prog w = .ok (.bool a.isNone) w :=
 Lib.run_eql_slice_nil w 29 44 a n c 0 0 Tryz.underlying29
set_option maxHeartbeats 1000000 in
set_option maxRecDepth 100000 in
theorem cloneE_nil (w : World) :
   Calls Tryz.prog 31 #[.slice none 0 0] w fun e w' => e = .returned (.slice none 0 0) ∧ w' = w := by
 have hq := fun w => eql_nilE w none 0 0
 go_enter Tryz.func31, Tryz.ntmps31
 go_wp2_with fail
 go_ret
 exact ⟨rfl, rfl⟩
set_option maxHeartbeats 1000000 in
set_option maxRecDepth 100000 in
theorem cloneE_some (B g c : Nat) (l : List Ev) (w : World) (hrow : w.ownsRow B 44 10 (.slice (some ⟨g, 0, none⟩) l.length c) l.length (ecells l)) (hl : l.length ≤ 100000000000) :
   Calls Tryz.prog 31 #[.slice (some ⟨g, 0, none⟩) l.length c] w fun e w' => ∃ v, e = .returned v ∧ w'.ownsRow w.heap.size 44 10 v l.length (ecells l) ∧ Below w.heap.size w w' := by
 obtain ⟨i0, hi, hy0, hy1, hy2⟩ := info_parts info_event
 have hrow0 : (w.alloc (.cells #[] 44)).ownsRow w.heap.size 44 10 (.slice (some ⟨w.heap.size, 0, none⟩) 0 0) 0 [] := by simpa using World.ownsRow_lit (base := w.heap.size) (e := 44) (size := 10) w #[] 0 (Nat.le_refl _) (by decide) rfl
 have hnews : ∀ j u, (ecells l)[j]? = some u → (w.alloc (.cells #[] 44)).cell? ((⟨g, 0, none⟩ : Addr).add j) = some u := fun j u h => by
   have := hrow.cells rfl j u h
   rw [World.cell?_alloc_lt _ _ _ (World.block_lt_of_cell? _ _ this)]
   exact this
 have e3 : 0 + l.length ≤ maxLen := by unfold maxLen; omega
 have e4 : (0 + l.length) * 80 ≤ 140737488355328 := by omega
 have hlen := ecells_length l
 have hone := ecells_one1 l
 have hq := fun w => eql_nilE w (some ⟨g, 0, none⟩) l.length c
 go_enter Tryz.func31, Tryz.ntmps31
 go_wp2_with (at_builtin; refine wpList_append_own _ rfl _ _ 29 rfl w.heap.size 44 i0 (.agg #[.int .i64 0, .int .i64 0, .int .i64 0, .string ⟨#[]⟩, .int .i64 0, .bool false, .bool false, .int .i64 0, .int .i64 0, .int .i64 0]) 10 80 Tryz.underlying29 hi hy0 hy1 hy2 rfl (by decide) _ _ _ rfl hrow0 ⟨g, 0, none⟩ _ _ (ecells l) rfl hlen hnews hone e3 e4 ?r5 ?_)
 case r5 => simp
 intro v1 w1 hown1 hg1 _
 have hown : w1.ownsRow w.heap.size 44 10 v1 l.length (ecells l) := by first | exact hown1 | simpa using hown1
 have hb1 : Below w.heap.size w w1 := ((Below.refl _ _).alloc (Nat.le_refl _) _).grown hg1 (by simp) (fun k hk => by simp [Value.ownBlock] at hk; omega)
 go_wp2_with fail
 go_ret
 exact ⟨v1, rfl, hown, hb1⟩
set_option maxHeartbeats 1000000 in
set_option maxRecDepth 100000 in
theorem events_any (A : Wa) (s : Wd) (w : World) (h : WdIs w A s) (hl : s.events.length ≤ 100000000000) :
   Calls Tryz.prog 9 #[tp A.Q] w fun e w' => ∃ v, e = .returned v ∧ w'.ownsRow w.heap.size 44 10 v s.events.length (ecells s.events) ∧ Below w.heap.size w w' := by
 obtain ⟨v, hv, hrow⟩ := h.evs
 generalize s.events = l at *
 clear h
 rcases hrow.2 with ⟨rfl, h0⟩ | ⟨g, cap, cur, rfl, _⟩
 · have hr0 : l = [] := List.length_eq_zero_iff.1 h0
   subst hr0
   go_enter Tryz.func9, Tryz.ntmps9
   go_wp2_with fail
   refine (cloneE_nil _).mono ?_
   rintro e w1 ⟨rfl, rfl⟩
   go_wp2_with fail
   go_ret
   exact ⟨_, rfl, World.ownsRow_nil _ _ _ _, Below.refl _ _⟩
 · go_enter Tryz.func9, Tryz.ntmps9
   go_wp2_with fail
   refine (cloneE_some _ g cap l _ hrow hl).mono ?_
   rintro e w1 ⟨v, rfl, hown, hb⟩
   go_wp2_with fail
   go_ret
   exact ⟨_, rfl, hown, hb⟩
end Wld
end
section
namespace Wld
open Go.RowKit Go.Maps
def HasE (w : World) (B : Nat) (v : Value) (l : List Ev) : Prop := w.ownsRow B 44 10 v l.length (ecells l)
theorem HasE.shape {w : World} {B : Nat} {v : Value} {l : List Ev} (h : HasE w B v l) : ∃ ao c, v = .slice ao l.length c ∧ (0 < l.length → ∃ g, ao = some ⟨g, 0, none⟩ ∧ B ≤ g ∧ g < w.heap.size ∧ ∀ k (hk : k < l.length) j u, (ecell l[k])[j]? = some u → w.cell? ⟨g, k * 10 + j, none⟩ = some u) := by
 obtain ⟨ao, c, e, _, hn⟩ := Net.row_shape h
 refine ⟨ao, c, e, fun h0 => ?_⟩
 rcases h.2 with ⟨e1, h1⟩ | ⟨g, cap, cur, e1, _⟩
 · omega
 · rw [e1] at e
   injection e with e _ _
   have hown : (v.ownBlock) = some g := by rw [e1]; rfl
   have hlt := World.ownsRow.lt h g hown
   refine ⟨g, e.symm, hlt.1, hlt.2, fun k hk j u hu => ?_⟩
   have hj : j < 10 := by
     have := (List.getElem?_eq_some_iff.1 hu).1
     simpa [ecell] using this
   have h' := h
   rw [HasE, e1] at h'
   rw [World.ownsRow.cellAt h' (k * 10 + j) (by omega), ecells_get l k j hk hj]
   exact hu
end Wld
end
section
namespace Wld
open Go.RowKit Go.Maps
open Lease (Ob I64 upd TabIs hol dels objB HasI map_block map_ne mx)
open Cache (tp row_kept row_below)
open Num (M okB strOf ints)
def fA : ByteArray := ⟨#[97]⟩
def f1 : Wd := (Wd.bare 30 10 0 2).start
def f2 : Wd := f1.write 0 3 fA
def f3 : Wd := f2.calm 30
def f4 : Wd := f3.read 1 3
def f5 : Wd := f4.calm 1
def f6 : Wd := f5.read 1 3
set_option maxRecDepth 100000 in
theorem f6_events : f6.events.map (fun e => (e.client, e.kind, e.obj, e.d, e.ver, e.hit)) = [(0, 2, 3, fA, 1, false), (1, 1, 3, fA, 1, false), (1, 1, 3, fA, 1, true)] := by decide +kernel
set_option maxRecDepth 100000 in
theorem f6_many : f6.net.length = f5.net.length := by decide +kernel
set_option maxRecDepth 100000 in
theorem f1_free : (f1.seat 0).k.writeE 3 fA = 0 := by decide +kernel
set_option maxRecDepth 100000 in
theorem f3_free : (f3.seat 1).k.freeE 3 = 0 := by decide +kernel
set_option maxRecDepth 100000 in
theorem f5_free : (f5.seat 1).k.freeE 3 = 0 := by decide +kernel
def calmB (t : Wd) : Bool := decide (t.rs.length < 200) && t.rs.all fun r => decide (0 ≤ r.c) && decide (r.o < 8)
theorem calmB_ok {t : Wd} (h : calmB t = true) : CalmOk t := by
 unfold calmB at h
 simp only [Bool.and_eq_true, decide_eq_true_eq, List.all_eq_true] at h
 exact ⟨fun _ => h.1, h.2⟩
set_option maxRecDepth 100000 in
theorem f2_calm : (List.range 30).all (fun j => calmB (f2.calm j)) = true := by decide +kernel
set_option maxRecDepth 100000 in
theorem f4_calm : calmB f4 = true := by decide +kernel
theorem f1_B : WdB f1 0 := (WdB.bare (by omega) (by omega) (by omega) (by omega) (by omega)).start (by simp [Wd.bare])
theorem f2_B : WdB f2 3 := f1_B.begin (i := 0) (by show 0 < 2; omega) ((f1_B.st 0 (by show 0 < 2; omega)).k.begin 2 (d := fA) (by decide) 0 false false (by omega) (by omega) (f1_B.st 0 (by show 0 < 2; omega)).c0 (f1_B.st 0 (by show 0 < 2; omega)).c1 |>.mono (by omega))
theorem f2_ok : ∀ j, j < 30 → CalmOk (f2.calm j) := fun j hj => calmB_ok (List.all_eq_true.1 f2_calm j (List.mem_range.2 hj))
set_option maxRecDepth 100000 in
theorem f2_n : f2.n = 2 := by decide +kernel
theorem f3_B : WdB f3 540003 := (f2_B.calm (by rw [f2_n]; omega) 30 f2_ok).mono (by omega)
theorem f3_n : f3.n = 2 := by rw [f3, calm_n]; exact f2_n
theorem f4_B : WdB f4 540006 := by
 have hs := f3_B.st 1 (by rw [f3_n]; omega)
 have hk := hs.k.reads (o := 3) (by omega) (by omega) hs.c0 hs.c1
 have hb := f3_B.begin (i := 1) (by rw [f3_n]; omega) hk
 unfold f4 Wd.read
 exact hb
set_option maxRecDepth 100000 in
theorem f4_n : f4.n = 2 := by decide +kernel
theorem f4_ok : ∀ j, j < 1 → CalmOk (f4.calm j) := fun j hj => by
 obtain rfl : j = 0 := by omega
 exact calmB_ok f4_calm
theorem f5_B : WdB f5 558006 := (f4_B.calm (by rw [f4_n]; omega) 1 f4_ok).mono (by omega)
theorem f5_n : f5.n = 2 := by rw [f5, calm_n]; exact f4_n
theorem f6_three : ∃ e0 e1 e2 : Ev, f6.events = [e0, e1, e2] ∧ e0.ver = 1 ∧ e1.d = fA ∧ e1.ver = 1 ∧ e2.hit = true ∧ e2.d = fA ∧ e2.ver = 1 := by
 have h := f6_events
 match hf : f6.events, h with
 | [], h => simp at h
 | [_], h => simp at h
 | [_, _], h => simp at h
 | [e0, e1, e2], h =>
   simp at h
   obtain ⟨⟨_, _, _, _, a5, _⟩, ⟨_, _, _, b4, b5, _⟩, _, _, _, c4, c5, c6⟩ := h
   exact ⟨e0, e1, e2, rfl, a5, b4, b5, c6, c4, c5⟩
 | _ :: _ :: _ :: _ :: _, h => simp at h
structure On (w wi : World) (A : Wa) (s : Wd) : Prop where
 b : Below w.heap.size w wi
 l : Low w.heap.size wi A s
 d : WdIs wi A s
theorem On.next {w wi wj : World} {A A' : Wa} {s s' : Wd} (h : On w wi A s) (d : WdIs wj A' s') (f : Fz A s wi A' s' wj) : On w wj A' s' := ⟨h.b.trans (f.below h.l h.d.lt), h.l.step f h.b.size, d⟩
set_option maxHeartbeats 4000000 in
set_option maxRecDepth 100000 in
theorem readF_any (w : World) : Calls Tryz.prog 6 #[] w fun e w' => e = .returned (.bool true) ∧ Below w.heap.size w w' := by
 have hnew := newW_any 30 10 0 2 w (by omega) (by omega) (by omega) (by omega) (by omega) (by omega) (by omega)
 go_enter Tryz.func6, Tryz.ntmps6
 go_wp2_with fail
 refine hnew.mono ?_
 rintro e w1 ⟨A, rfl, hD1, hb1, hL1⟩
 clear hnew
 change WdIs w1 A f1 at hD1
 change Low w.heap.size w1 A f1 at hL1
 have hc1 := writeW_any A f1 0 0 3 fA w1 hD1 (by show 0 < 2; omega) f1_B (by omega) (by decide)
 rw [f1_free, if_pos rfl] at hc1
 change Calls _ _ _ _ (fun e w' => e = .returned (eV 0) ∧ WdIs w' A f2 ∧ Fz A f1 w1 A f2 w') at hc1
 rw [show eV 0 = .nilIface from rfl] at hc1
 have H1 : Hid (On w w1 A f1) := ⟨hb1, hL1, hD1⟩
 clear hb1 hL1 hD1
 go_wp2_with fail
 refine hc1.mono ?_
 rintro e w2 ⟨rfl, hD2, hZ2⟩
 have hO2 : On w w2 A f2 := H1.out.next hD2 hZ2
 have hc2 := calm_any A f2 3 30 w2 hD2 f2_B (by omega) f2_ok
 change Calls _ _ _ _ (fun e w' => e = .returned (.tuple #[]) ∧ ∃ a, WdIs w' { A with a := a } f3 ∧ Fz A f2 w2 { A with a := a } f3 w') at hc2
 have H2 : Hid (On w w2 A f2) := hO2
 clear hc1 H1 hO2 hD2 hZ2
 go_wp2_with fail
 refine hc2.mono ?_
 rintro e w3 ⟨rfl, a3, hD3, hZ3⟩
 have hO3 : On w w3 { A with a := a3 } f3 := H2.out.next hD3 hZ3
 have hc3 := readW_any { A with a := a3 } f3 1 540003 3 w3 hD3 (by rw [f3_n]; omega) f3_B (by omega)
 rw [f3_free, if_pos rfl, show eV 0 = .nilIface from rfl] at hc3
 change Calls _ _ #[tp A.Q, _, _] _ (fun e w' => e = .returned .nilIface ∧ WdIs w' { A with a := a3 } f4 ∧ Fz { A with a := a3 } f3 w3 { A with a := a3 } f4 w') at hc3
 have H3 : Hid (On w w3 { A with a := a3 } f3) := hO3
 clear hc2 H2 hO3 hD3 hZ3
 go_wp2_with fail
 refine hc3.mono ?_
 rintro e w4 ⟨rfl, hD4, hZ4⟩
 have hO4 : On w w4 { A with a := a3 } f4 := H3.out.next hD4 hZ4
 have hc4 := calm_any { A with a := a3 } f4 540006 1 w4 hD4 f4_B (by omega) f4_ok
 change Calls _ _ #[tp A.Q, _] _ (fun e w' => e = .returned (.tuple #[]) ∧ ∃ a, WdIs w' { A with a := a } f5 ∧ Fz { A with a := a3 } f4 w4 { A with a := a } f5 w') at hc4
 have H4 : Hid (On w w4 { A with a := a3 } f4) := hO4
 clear hc3 H3 hO4 hD4 hZ4
 go_wp2_with fail
 refine hc4.mono ?_
 rintro e w5 ⟨rfl, a5, hD5, hZ5⟩
 have hO5 : On w w5 { A with a := a5 } f5 := H4.out.next hD5 hZ5
 have hm5 := manyW_any { A with a := a5 } f5 w5 hD5
 change Calls _ _ #[tp A.Q] _ _ at hm5
 have hc5 := readW_any { A with a := a5 } f5 1 558006 3 w5 hD5 (by rw [f5_n]; omega) f5_B (by omega)
 rw [f5_free, if_pos rfl, show eV 0 = .nilIface from rfl] at hc5
 change Calls _ _ #[tp A.Q, _, _] _ (fun e w' => e = .returned .nilIface ∧ WdIs w' { A with a := a5 } f6 ∧ Fz { A with a := a5 } f5 w5 { A with a := a5 } f6 w') at hc5
 have H5 : Hid (On w w5 { A with a := a5 } f5) := hO5
 clear hc4 H4 hO5 hD5 hZ5
 obtain ⟨mm, hmm⟩ : ∃ mm, f5.net.length = mm := ⟨_, rfl⟩
 rw [hmm] at hm5
 go_wp2_with fail
 refine hm5.mono ?_
 rintro e w5 ⟨rfl, rfl⟩
 clear hm5
 go_wp2_with fail
 refine hc5.mono ?_
 rintro e w6 ⟨rfl, hD6, hZ6⟩
 have hO6 : On w w6 { A with a := a5 } f6 := H5.out.next hD6 hZ6
 have hm6 := manyW_any { A with a := a5 } f6 w6 hD6
 rw [f6_many, hmm] at hm6
 change Calls _ _ #[tp A.Q] _ _ at hm6
 have hev := events_any { A with a := a5 } f6 w6 hD6
 change _ → Calls _ _ #[tp A.Q] _ _ at hev
 have H6 : Hid (On w w6 { A with a := a5 } f6) := hO6
 clear hc5 H5 hO6 hD6 hZ6 hmm
 go_wp2_with fail
 refine hm6.mono ?_
 rintro e w6 ⟨rfl, rfl⟩
 clear hm6
 obtain ⟨e0, e1, e2, he, a1, b1, b2, c1, c2, c3⟩ := f6_three
 have hev := hev (by rw [he]; simp)
 rw [he] at hev
 go_wp2_with fail
 refine hev.mono ?_
 rintro e w7 ⟨v, rfl, hrow, hb7⟩
 obtain ⟨ao, cc, rfl, hcell⟩ := HasE.shape (l := [e0, e1, e2]) hrow
 obtain ⟨g, rfl, hg1, hg2, hc⟩ := hcell (by simp)
 have x04 : w7.cell? ⟨g, 4, none⟩ = some (.int .i64 1) := by have := hc 0 (by simp) 4 _ rfl; simpa [ecell, a1] using this
 have x13 : w7.cell? ⟨g, 13, none⟩ = some (.string fA) := by have := hc 1 (by simp) 3 _ rfl; simpa [ecell, b1] using this
 have x14 : w7.cell? ⟨g, 14, none⟩ = some (.int .i64 1) := by have := hc 1 (by simp) 4 _ rfl; simpa [ecell, b2] using this
 have x26 : w7.cell? ⟨g, 26, none⟩ = some (.bool true) := by have := hc 2 (by simp) 6 _ rfl; simpa [ecell, c1] using this
 have x23 : w7.cell? ⟨g, 23, none⟩ = some (.string fA) := by have := hc 2 (by simp) 3 _ rfl; simpa [ecell, c2] using this
 have x24 : w7.cell? ⟨g, 24, none⟩ = some (.int .i64 1) := by have := hc 2 (by simp) 4 _ rfl; simpa [ecell, c3] using this
 have HB : Hid (Below w.heap.size w w7) := H6.out.b.trans (hb7.mono H6.out.b.size)
 unfold fA at x13 x23
 clear hcell hc hrow hb7 H6 hev he a1 b1 b2 c1 c2 c3
 simp only [List.length_cons, List.length_nil, Nat.zero_add, Nat.reduceAdd]
 go_upto_region 12 with fail
 go_quiet (fail)
 have HB2 : Hid (Below w.heap.size w (w7.drewN nq)) := ⟨HB.out.os, HB.out.tape, HB.out.output, HB.out.size, HB.out.block⟩
 clear HB
 go_wp2_with fail
 go_ret
 exact ⟨rfl, HB2.out⟩
end Wld
end
section
namespace Wld
open Go.RowKit Go.Maps Go.ChangeShapes Go.WideShapes Go.ChangeAt
open Cache (tp row_kept row_below)
structure Stp where
 wh : Int
 k : Int
 a : Int
 b : Int
def Stp.cells (x : Stp) : List Value := [.int .i64 x.wh, .int .i64 x.k, .int .i64 x.a, .int .i64 x.b]
def Steps (w : World) (ao : Option Addr) (xs : List Stp) : Prop :=
 0 < xs.length → ∃ b off, ao = some ⟨b, off, none⟩ ∧ b < w.heap.size ∧ ∀ j (hj : j < xs.length), ∀ i, i < 4 → w.cell? ⟨b, off + j * 4 + i, none⟩ = xs[j].cells[i]?
theorem laidOut : laidOutB Tryz.prog = true := by kernel_rfl
theorem cellsStep : Tryz.prog.cellsOf 28 = 4 := by kernel_rfl
theorem list4 {α : Type} {cs : List α} (h : cs.length = 4) : ∃ c0 c1 c2 c3, cs = [c0, c1, c2, c3] := by
 match cs, h with
 | [c0, c1, c2, c3], _ => exact ⟨c0, c1, c2, c3, rfl⟩
theorem there {α : Type} {xs : List α} {n i : Nat} (h : xs.length = n) (hi : i < n) : ∃ y, xs[i]? = some y := ⟨_, List.getElem?_eq_getElem (by omega)⟩
theorem list_of {α : Type} {n : Nat} {P : Nat → α → Prop} (h : ∀ i, i < n → ∃ x, P i x) : ∃ xs : List α, xs.length = n ∧ ∀ j (hj : j < xs.length), P j xs[j] := by
 induction n with
 | zero => exact ⟨[], rfl, fun j hj => by simp at hj⟩
 | succ n ih =>
   obtain ⟨xs, hl, hx⟩ := ih fun i hi => h i (by omega)
   obtain ⟨y, hy⟩ := h n (by omega)
   refine ⟨xs ++ [y], by simp [hl], fun j hj => ?_⟩
   by_cases hjl : j < xs.length
   · rw [List.getElem_append_left hjl]; exact hx j hjl
   · have e : j = xs.length := by simp at hj; omega
     subst e
     rw [List.getElem_append_right (by omega)]
     simpa [hl] using hy
section
variable {H : Type} {enc : TypeId × Value → H} {W : World} {base : Nat} {held : Bool}
theorem field_int {n : Nat} {c : Value} {xs : List (DataW H × List MemPlace)} {i k : Nat} (hl : xs.length = k) (hi : i < k) (h : DataW.trod enc Tryz.prog W base (fun _ => true) held n 3 [c] = xs[i]?) : ∃ x : Int, c = .int .i64 x := by
 obtain ⟨y, hy⟩ := there hl hi
 rw [hy] at h
 obtain ⟨x, hx, _, _⟩ := DataW.trod_int Tryz.underlying3 h
 exact ⟨x, by simpa using hx⟩
set_option maxRecDepth 100000 in
theorem open_step {fuel : Nat} {cs : List Value} {y : DataW H × List MemPlace} (hl : cs.length = 4) (h : DataW.trod enc Tryz.prog W base (fun _ => true) held fuel 28 cs = some y) :
   ∃ x : Stp, cs = x.cells := by
 obtain ⟨c0, c1, c2, c3, rfl⟩ := list4 hl
 obtain ⟨xs, n, _, _, _, hlen, hfs⟩ := DataW.trod_struct Tryz.underlying28 h
 have hl4 : xs.length = 4 := hlen
 have f0 : DataW.trod enc Tryz.prog W base (fun _ => true) held n 3 [c0] = xs[0]? := hfs 0 _ rfl
 have f1 : DataW.trod enc Tryz.prog W base (fun _ => true) held n 3 [c1] = xs[1]? := hfs 1 _ rfl
 have f2 : DataW.trod enc Tryz.prog W base (fun _ => true) held n 3 [c2] = xs[2]? := hfs 2 _ rfl
 have f3 : DataW.trod enc Tryz.prog W base (fun _ => true) held n 3 [c3] = xs[3]? := hfs 3 _ rfl
 obtain ⟨a, rfl⟩ := field_int hl4 (by omega) f0
 obtain ⟨b, rfl⟩ := field_int hl4 (by omega) f1
 obtain ⟨c, rfl⟩ := field_int hl4 (by omega) f2
 obtain ⟨d, rfl⟩ := field_int hl4 (by omega) f3
 exact ⟨⟨a, b, c, d⟩, rfl⟩
theorem open_steps {fuel : Nat} {ao : Option Addr} {len cap : Nat} {x : DataW H × List MemPlace} (h : DataW.trod enc Tryz.prog W base (fun _ => true) held fuel 22 [.slice ao len cap] = some x) :
   ∃ xs : List Stp, xs.length = len ∧ len ≤ 9223372036854775807 ∧ Steps W ao xs := by
 rcases DataW.trod_slice Tryz.underlying22 h with ⟨hcs, _⟩ | ⟨a, len', cap', elems, rest, n, _, hcs, _, hb, hl, hm, hlen, hel, _, _⟩
 · simp at hcs
   obtain ⟨rfl, rfl, rfl⟩ := hcs
   exact ⟨[], rfl, by omega, fun h => by simp at h⟩
 · simp at hcs
   obtain ⟨rfl, rfl, rfl⟩ := hcs
   have hm' : cap ≤ 9223372036854775807 := hm
   have each : ∀ i, i < len → ∃ s : Stp, ∀ j, j < 4 → W.cell? (a.add (i * 4 + j)) = s.cells[j]? := fun i hi => by
     have hi' := hel i hi
     rw [cellsStep, List.getElem?_eq_getElem (show i < elems.length by omega)] at hi'
     cases hc : W.cells? base (a.add (i * 4)) 4 with
     | none => rw [hc] at hi'; simp at hi'
     | some cs =>
       rw [hc] at hi'
       obtain ⟨_, hl4, hcell⟩ := World.cells?_some hc
       obtain ⟨s, rfl⟩ := open_step hl4 hi'
       refine ⟨s, fun j hj => ?_⟩
       rw [← Addr.add_add]
       exact hcell j hj
   obtain ⟨xs, hxl, hxs⟩ := list_of each
   refine ⟨xs, hxl, by omega, fun hp => ?_⟩
   obtain ⟨b, off, spot⟩ := a
   have hc0 := hxs 0 hp 0 (by omega)
   have hspot : spot = none := by simpa [Addr.add] using World.cell?_spot hc0
   subst hspot
   have hadd : ∀ i, (⟨b, off, none⟩ : Addr).add i = ⟨b, off + i, none⟩ := fun i => by unfold Addr.add; split <;> simp_all
   rw [hadd] at hc0
   refine ⟨b, off, rfl, World.block_lt_of_cell? _ _ hc0, fun j hj i hi => ?_⟩
   have q := (congrArg W.cell? (hadd (j * 4 + i))).symm.trans (hxs j hj i hi)
   rw [Nat.add_assoc]
   exact q
end
structure At (w wr : World) (T : Nat) (lies : Bool) (j : Nat) (A : Wa) (s : Wd) (wn : Nat) : Prop where
 t : TaleIs wr T A s wn lies
 g : Good s wn lies j
 b : Below w.heap.size w wr
 l : Low w.heap.size wr A s
 T0 : w.heap.size ≤ T
theorem Low.mono {N N' : Nat} {w : World} {A : Wa} {s : Wd} (h : Low N w A s) (hN : N' ≤ N) : Low N' w A s := fun k hk => Nat.le_trans hN (h k hk)
theorem At.done {w wr wr' : World} {T : Nat} {lies : Bool} {j : Nat} {A : Wa} {s : Wd} {wn : Nat} (h : At w wr T lies j A s wn) (d : Done wr wr' T A s lies (j + 1)) : ∃ A' s' wn', At w wr' T lies (j + 1) A' s' wn' := by
 obtain ⟨A', s', wn', t, g, f⟩ := d
 obtain ⟨f1, f2⟩ := f w.heap.size h.T0 h.b.size h.l
 exact ⟨A', s', wn', t, g, h.b.trans f1, f2, h.T0⟩
end Wld
end
section
namespace Wld
open Go.RowKit Go.Maps
open Lease (I64)
theorem At.facts {w wr : World} {T : Nat} {lies : Bool} {j : Nat} {A : Wa} {s : Wd} {wn : Nat} (h : At w wr T lies j A s wn) (hj : j ≤ 75) :
   ∃ H L B, Inv s H L B ∧ (lies = false → Fr s H L) ∧ s.events.length ≤ 76 ∧ (∀ e ∈ s.events, e.ended ≠ 0 → 0 ≤ e.ver ∧ I64 e.ver) ∧ ∀ e ∈ s.events, I64 e.obj ∧ I64 e.client ∧ I64 e.life := by
 obtain ⟨H, L, b, C, k1, k2, k3, k4, _⟩ := h.g.ex
 obtain ⟨B, kI, kB⟩ := k1.inv.inv
 refine ⟨H, L, B, kI, k1.fr, by rw [← kI.len]; omega, fun e he hn => ?_, fun e he => ?_⟩
 · have h0 := kI.verNN he hn
   refine ⟨h0, ?_⟩
   by_cases hv : 0 < e.ver
   · obtain ⟨r, hr, r0, r1, r2, r3⟩ := kI.recOf he hn hv
     have q := (k3.recs r hr).2.1
     have := k3.len
     rw [r2] at q
     exact ⟨by omega, by omega⟩
   · exact ⟨by omega, by omega⟩
 · obtain ⟨i, g, h1, h2, h3, h4⟩ := kI.callOf he
   obtain ⟨kk, hk⟩ : ∃ kk : Nat, e.client = (kk : Int) := ⟨e.client.toNat, by have := h4.c0; omega⟩
   have c0 := h4.c0
   have c4 := h4.c4
   have l0 := h4.l0
   have n4 := kI.n4
   have hkn : kk < s.n := by omega
   have hS := kI.st kk hkn
   have hc := h4.c
   have hseat : seatN g.c = kk := by rw [hc]; unfold seatN; omega
   have hle := hS.liv g h3 hseat
   rw [hS.id, hc] at hle
   have hl1 := (k3.st kk hkn).l1
   have o0 := h4.o0
   have o8 := h4.o8
   exact ⟨⟨by omega, by omega⟩, ⟨by omega, by omega⟩, ⟨by omega, by omega⟩⟩
end Wld
end
end Go.Proofs.YtbebfliimjjohaaGreatDoor
