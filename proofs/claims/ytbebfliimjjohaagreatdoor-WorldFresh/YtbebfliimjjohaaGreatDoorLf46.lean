/-
  Parts of the proof: WkpE WkpF.
-/
import Derived.Test.YtbebfliimjjohaaGreatDoorLf43
import Derived.Test.YtbebfliimjjohaaGreatDoorLf45
import Derived.Test.YtbebfliimjjohaaGreatDoorLf06
import Derived.BigQuiet
import Derived.Deep.CutRange
namespace Go.Proofs.YtbebfliimjjohaaGreatDoor
section
namespace Wld
open Go.RowKit Go.Maps
open Lease (Ob I64 upd TabIs hol dels objB HasI map_block map_ne mx)
open Cache (tp row_kept row_below)
open Num (M okB strOf ints)
theorem nil_empty : (⟨#[]⟩ : ByteArray).toList.isEmpty = true := by decide +kernel
def Mt (x r : Ev) : Prop := x.kind = 2 ∧ x.d = r.d ∧ 0 < r.ver
instance (x r : Ev) : Decidable (Mt x r) := by unfold Mt; infer_instance
set_option maxHeartbeats 4000000 in
set_option maxRecDepth 100000 in
theorem written_any (B : Nat) (v : Value) (l : List Ev) (w : World) (h : HasE w B v l) (hl : l.length ≤ 1000) (hok : ∀ r ∈ l, r.kind = 1 → r.ended ≠ 0 → WrittenOk l r) (hen : ∀ r ∈ l, 0 ≤ r.ended) :
   Calls Tryz.prog 10 #[v] w fun e w' => e = .returned (.bool true) ∧ Below w.heap.size w w' := by
 obtain ⟨ao, c, rfl, hcell⟩ := h.shape
 clear h
 go_enter Tryz.func10, Tryz.ntmps10
 go_wp2_with fail
 go_loopw [3] (fun i wr => ∃ k : Nat, k ≤ l.length ∧ i = .int .i64 k ∧ Below w.heap.size w wr) (fun i _ => l.length - (intOf i).toNat)
 case atStart => exact ⟨0, by omega, rfl, Below.refl _ _⟩
 case round =>
   obtain ⟨k, hk, rfl, hb⟩ := hrel
   by_cases hlt : k < l.length
   · obtain ⟨g, rfl, hg1, hg2, hc⟩ := hcell (by omega)
     have hkI : (k : Int) < (l.length : Int) := by omega
     have hkI0 : (0 : Int) ≤ (k : Int) := by omega
     obtain ⟨r, hr⟩ : ∃ r, l[k] = r := ⟨_, rfl⟩
     have hrm : r ∈ l := by rw [← hr]; exact List.getElem_mem hlt
     have q : ∀ j u, (ecell r)[j]? = some u → wr.cell? ⟨g, k * 10 + j, none⟩ = some u := fun j u hu => (hb.cell (p := ⟨g, k * 10 + j, none⟩) hg2).trans (hc k hlt j u (by rw [hr]; exact hu))
     have q0 : wr.cell? ⟨g, k * 10, none⟩ = some (.int .i64 r.client) := q 0 _ rfl
     have q1 := q 1 _ rfl
     have q2 := q 2 _ rfl
     have q3 := q 3 _ rfl
     have q4 := q 4 _ rfl
     have q5 := q 5 _ rfl
     have q6 := q 6 _ rfl
     have q7 := q 7 _ rfl
     have q8 := q 8 _ rfl
     have q9 := q 9 _ rfl
     clear q hr
     go_upto_region 5 with fail
     obtain ⟨R, hR⟩ : ∃ R, wr.heap.size = R := ⟨_, rfl⟩
     generalize hW : wr.alloc (.cells #[.int .i64 r.client, .int .i64 r.kind, .int .i64 r.obj, .string r.d, .int .i64 r.ver, .bool r.over, .bool r.hit, .int .i64 r.began, .int .i64 r.ended, .int .i64 r.life] 44) = w1
     have hb1 : Below w.heap.size w w1 := by rw [← hW]; exact hb.alloc (by have := hb.size; omega) _
     have eR : w1.heap[R]? = some (.cells #[.int .i64 r.client, .int .i64 r.kind, .int .i64 r.obj, .string r.d, .int .i64 r.ver, .bool r.over, .bool r.hit, .int .i64 r.began, .int .i64 r.ended, .int .i64 r.life] 44) := by rw [← hW, ← hR]; exact heap_alloc_new wr _
     rw [hR]
     have hRl : R < w1.heap.size := (Array.getElem?_eq_some_iff.1 eR).1
     have p1 : w1.cell? ⟨R, 1, none⟩ = some (.int .i64 r.kind) := cell_of_row _ _ _ _ _ _ eR
     have p2 : w1.cell? ⟨R, 2, none⟩ = some (.int .i64 r.obj) := cell_of_row _ _ _ _ _ _ eR
     have p3 : w1.cell? ⟨R, 3, none⟩ = some (.string r.d) := cell_of_row _ _ _ _ _ _ eR
     have p4 : w1.cell? ⟨R, 4, none⟩ = some (.int .i64 r.ver) := cell_of_row _ _ _ _ _ _ eR
     have p8 : w1.cell? ⟨R, 8, none⟩ = some (.int .i64 r.ended) := cell_of_row _ _ _ _ _ _ eR
     clear hW hR eR q0 q1 q2 q3 q4 q5 q6 q7 q8 q9 hb
     by_cases hsk : r.kind = 1 ∧ r.ended ≠ 0
     · obtain ⟨hk1, hk2⟩ := hsk
       have W := hok r hrm hk1 hk2
       have he0 : (r.ended == 0) = false := by simpa using hk2
       clear hk2
       have hok' : Hid (∀ r ∈ l, r.kind = 1 → r.ended ≠ 0 → WrittenOk l r) := hok
       clear hok
       go_upto_region 7 with fail
       obtain ⟨V, hV⟩ : ∃ V, w1.heap.size = V := ⟨_, rfl⟩
       generalize hW : w1.alloc (.cells #[.string r.d, .int .i64 r.ver] 40) = w2
       have hb2 : Below w1.heap.size w1 w2 := by rw [← hW]; exact (Below.refl _ _).alloc (Nat.le_refl _) _
       have eV : w2.heap[V]? = some (.cells #[.string r.d, .int .i64 r.ver] 40) := by rw [← hW, ← hV]; exact heap_alloc_new w1 _
       rw [hV]
       have hVl : V < w2.heap.size := (Array.getElem?_eq_some_iff.1 eV).1
       have v0 : w2.cell? ⟨V, 0, none⟩ = some (.string r.d) := cell_of_row _ _ _ _ _ _ eV
       have v1 : w2.cell? ⟨V, 1, none⟩ = some (.int .i64 r.ver) := cell_of_row _ _ _ _ _ _ eV
       have r2 := (hb2.cell (p := ⟨R, 2, none⟩) hRl).trans p2
       have r8 := (hb2.cell (p := ⟨R, 8, none⟩) hRl).trans p8
       have hRl2 : R < w2.heap.size := by have := hb2.size; omega
       have hbw : Below w.heap.size w w2 := hb1.trans (hb2.mono hb1.size)
       clear hW hV eV p1 p2 p3 p4 p8 hb1 hb2 hRl
       have HW : Hid (WrittenOk l r) := W
       have HC : Hid (∀ (k : Nat) (hk : k < l.length) (j : Nat) (u : Value), (ecell l[k])[j]? = some u → w.cell? ⟨g, k * 10 + j, none⟩ = some u) := hc
       have HEN : Hid (∀ r ∈ l, 0 ≤ r.ended) := hen
       clear W hc hen hcell hk1 he0
       go_cut [6] from 31 to 38 (fun u wx => (∃ fb : Bool, u = .bool fb ∧ (r.ver = 0 → r.d = ⟨#[]⟩ → fb = true)) ∧ wx = w2)
       case first =>
         by_cases hz : r.ver = 0
         · go_wp2_with fail
           go_meet
           case rel => exact ⟨⟨_, rfl, fun _ hd => by rw [hd]; exact nil_empty⟩, rfl⟩
         · go_wp2_with fail
           go_meet
           case rel => exact ⟨⟨false, rfl, fun q => absurd q hz⟩, rfl⟩
       case rest =>
         obtain ⟨⟨fb0, rfl, hfb0⟩, hwx⟩ := hcut
         have hwx' := hwx.symm
         subst hwx'
         clear hwx
         have HF0 : Hid (r.ver = 0 → r.d = ⟨#[]⟩ → fb0 = true) := hfb0
         clear hfb0
         have HI : Hid (∀ (j : Nat) (hj : j < l.length), j < 0 → l[j].obj = r.obj → Mt l[j] r → fb0 = true) := fun j _ h0 => absurd h0 (by omega)
         go_wp2_with fail
         go_loopw [6, 7] (fun f i wx => ∃ (k2 : Nat) (fb : Bool), f = .bool fb ∧ i = .int .i64 k2 ∧ k2 ≤ l.length ∧ Below w2.heap.size w2 wx ∧ (r.ver = 0 → r.d = ⟨#[]⟩ → fb = true) ∧ ∀ (j : Nat) (hj : j < l.length), j < k2 → l[j].obj = r.obj → Mt l[j] r → fb = true) (fun _ i _ => l.length - (intOf i).toNat)
         case atStart => exact ⟨0, fb0, rfl, rfl, by omega, Below.refl _ _, HF0.out, HI.out⟩
         case round =>
           obtain ⟨k2, fb, rfl, rfl, hk2, hbx, hf1, hf2⟩ := hrel
           by_cases hlt2 : k2 < l.length
           · have hkJ : (k2 : Int) < (l.length : Int) := by omega
             have hkJ0 : (0 : Int) ≤ (k2 : Int) := by omega
             obtain ⟨x, hx⟩ : ∃ x, l[k2] = x := ⟨_, rfl⟩
             have hxm : x ∈ l := by rw [← hx]; exact List.getElem_mem hlt2
             have hgx : g < w2.heap.size := by have := hbw.size; omega
             have q : ∀ j u, (ecell x)[j]? = some u → wr.cell? ⟨g, k2 * 10 + j, none⟩ = some u := fun j u hu => (hbx.cell (p := ⟨g, k2 * 10 + j, none⟩) hgx).trans ((hbw.cell (p := ⟨g, k2 * 10 + j, none⟩) hg2).trans (HC.out k2 hlt2 j u (by rw [hx]; exact hu)))
             have q0 : wr.cell? ⟨g, k2 * 10, none⟩ = some (.int .i64 x.client) := q 0 _ rfl
             have q1 := q 1 _ rfl
             have q2 := q 2 _ rfl
             have q3 := q 3 _ rfl
             have q4 := q 4 _ rfl
             have q5 := q 5 _ rfl
             have q6 := q 6 _ rfl
             have q7 := q 7 _ rfl
             have q8 := q 8 _ rfl
             have q9 := q 9 _ rfl
             have HFB : Hid ((r.ver = 0 → r.d = ⟨#[]⟩ → fb = true) ∧ ∀ (j : Nat) (hj : j < l.length), j < k2 → l[j].obj = r.obj → Mt l[j] r → fb = true) := ⟨hf1, hf2⟩
             have HX : Hid (l[k2] = x) := hx
             clear q hx hf1 hf2 HF0 HI
             go_upto_region 12 with fail
             obtain ⟨X, hX⟩ : ∃ X, wr.heap.size = X := ⟨_, rfl⟩
             generalize hW3 : wr.alloc (.cells #[.int .i64 x.client, .int .i64 x.kind, .int .i64 x.obj, .string x.d, .int .i64 x.ver, .bool x.over, .bool x.hit, .int .i64 x.began, .int .i64 x.ended, .int .i64 x.life] 44) = w3
             have hb3 : Below w2.heap.size w2 w3 := by rw [← hW3]; exact hbx.alloc (by have := hbx.size; omega) _
             have eX : w3.heap[X]? = some (.cells #[.int .i64 x.client, .int .i64 x.kind, .int .i64 x.obj, .string x.d, .int .i64 x.ver, .bool x.over, .bool x.hit, .int .i64 x.began, .int .i64 x.ended, .int .i64 x.life] 44) := by rw [← hW3, ← hX]; exact heap_alloc_new wr _
             rw [hX]
             generalize Value.agg #[.int .i64 x.client, .int .i64 x.kind, .int .i64 x.obj, .string x.d, .int .i64 x.ver, .bool x.over, .bool x.hit, .int .i64 x.began, .int .i64 x.ended, .int .i64 x.life] = sx
             have x1 : w3.cell? ⟨X, 1, none⟩ = some (.int .i64 x.kind) := cell_of_row _ _ _ _ _ _ eX
             have x2 : w3.cell? ⟨X, 2, none⟩ = some (.int .i64 x.obj) := cell_of_row _ _ _ _ _ _ eX
             have x3 : w3.cell? ⟨X, 3, none⟩ = some (.string x.d) := cell_of_row _ _ _ _ _ _ eX
             have x4 : w3.cell? ⟨X, 4, none⟩ = some (.int .i64 x.ver) := cell_of_row _ _ _ _ _ _ eX
             have x7 : w3.cell? ⟨X, 7, none⟩ = some (.int .i64 x.began) := cell_of_row _ _ _ _ _ _ eX
             have x8 : w3.cell? ⟨X, 8, none⟩ = some (.int .i64 x.ended) := cell_of_row _ _ _ _ _ _ eX
             have z2 := (hb3.cell (p := ⟨R, 2, none⟩) hRl2).trans r2
             have z8 := (hb3.cell (p := ⟨R, 8, none⟩) hRl2).trans r8
             have y0 := (hb3.cell (p := ⟨V, 0, none⟩) hVl).trans v0
             have y1 := (hb3.cell (p := ⟨V, 1, none⟩) hVl).trans v1
             clear hW3 hX eX q0 q1 q2 q3 q4 q5 q6 q7 q8 q9 hbx
             by_cases ho : x.obj = r.obj
             · have HO : Hid (x.obj = r.obj) := ho
               go_upto_region 13 with fail
               clear ho
               go_cut [73] from 56 to 72 (fun u wx => u = .bool (decide (Mt x r)) ∧ wx = w3)
               case first =>
                 by_cases hkd : x.kind = 2
                 · by_cases hd : x.d = r.d
                   · go_wp2_with fail
                     go_meet
                     case rel => exact ⟨by rw [show decide (Mt x r) = decide (0 < r.ver) from decide_eq_decide.2 ⟨fun q => q.2.2, fun q => ⟨hkd, hd, q⟩⟩], rfl⟩
                   · have hdl := Wire.bytes_ne hd
                     go_wp2_with fail
                     go_meet
                     case rel => exact ⟨by rw [decide_eq_false (fun q => hd q.2.1)], rfl⟩
                 · go_wp2_with fail
                   go_meet
                   case rel => exact ⟨by rw [decide_eq_false (fun q => hkd q.1)], rfl⟩
               case rest =>
                 obtain ⟨rfl, hwx⟩ := hcut
                 have hwx' := hwx.symm
                 subst hwx'
                 clear hwx
                 obtain ⟨dm, hdm⟩ : ∃ dm, decide (Mt x r) = dm := ⟨_, rfl⟩
                 rw [hdm]
                 have HM : Hid (decide (Mt x r) = dm) := hdm
                 clear hdm
                 cases dm with
                 | true =>
                   go_upto_region 14 with fail
                   go_cut [92] from 74 to 91 (fun u wx => u = .bool false ∧ wx = w3)
                   case first =>
                     obtain ⟨m1, m2, m3⟩ := of_decide_eq_true HM.out
                     obtain ⟨hb1, hb2⟩ := HW.out.wr x hxm HO.out m1 m2 m3
                     clear m1 m2 m3
                     have hbe : ¬ r.ended < x.began := by omega
                     by_cases he : 0 < x.ended
                     · have hv := hb2 he
                       clear hb2 hb1
                       go_wp2_with fail
                       go_meet
                       case rel => exact ⟨rfl, rfl⟩
                     · clear hb2 hb1
                       go_wp2_with fail
                       go_meet
                       case rel => exact ⟨rfl, rfl⟩
                   case rest =>
                     obtain ⟨rfl, hwx⟩ := hcut
                     have hwx' := hwx.symm
                     subst hwx'
                     clear hwx
                     go_upto_region 17 with fail
                     go_cut [119] from 93 to 118 (fun u wx => u = .bool false ∧ wx = w3)
                     case first =>
                       have hsm := HW.out.same x hxm HO.out
                       by_cases he : 0 < x.ended
                       · by_cases hvp : 0 < x.ver
                         · have hsm := hsm he hvp
                           by_cases hd : x.d = r.d
                           · have hv := hsm.2 hd
                             clear hsm
                             go_wp2_with fail
                             go_meet
                             case rel => exact ⟨rfl, rfl⟩
                           · have hdl := Wire.bytes_ne hd
                             have hv : ¬ x.ver = r.ver := fun q => hd (hsm.1 q)
                             clear hsm
                             go_wp2_with fail
                             go_meet
                             case rel => exact ⟨by rw [beq_false_of_ne hv], rfl⟩
                         · clear hsm
                           go_wp2_with fail
                           go_meet
                           case rel => exact ⟨rfl, rfl⟩
                       · clear hsm
                         go_wp2_with fail
                         go_meet
                         case rel => exact ⟨rfl, rfl⟩
                     case rest =>
                       obtain ⟨rfl, hwx⟩ := hcut
                       have hwx' := hwx.symm
                       subst hwx'
                       clear hwx
                       go_wp2_with fail
                       go_roundw
                       case rel =>
                         obtain ⟨hf1, hf2⟩ := HFB.out
                         have hx := HX.out
                         exact ⟨k2 + 1, true, rfl, by go_num, by omega, hb3, fun _ _ => rfl, fun _ _ _ _ _ => rfl⟩
                       case measure => simp [intOf]; omega
                 | false =>
                   go_upto_region 17 with fail
                   go_cut [119] from 93 to 118 (fun u wx => u = .bool false ∧ wx = w3)
                   case first =>
                     have hsm := HW.out.same x hxm HO.out
                     by_cases he : 0 < x.ended
                     · by_cases hvp : 0 < x.ver
                       · have hsm := hsm he hvp
                         by_cases hd : x.d = r.d
                         · have hv := hsm.2 hd
                           clear hsm
                           go_wp2_with fail
                           go_meet
                           case rel => exact ⟨rfl, rfl⟩
                         · have hdl := Wire.bytes_ne hd
                           have hv : ¬ x.ver = r.ver := fun q => hd (hsm.1 q)
                           clear hsm
                           go_wp2_with fail
                           go_meet
                           case rel => exact ⟨by rw [beq_false_of_ne hv], rfl⟩
                       · clear hsm
                         go_wp2_with fail
                         go_meet
                         case rel => exact ⟨rfl, rfl⟩
                     · clear hsm
                       go_wp2_with fail
                       go_meet
                       case rel => exact ⟨rfl, rfl⟩
                   case rest =>
                     obtain ⟨rfl, hwx⟩ := hcut
                     have hwx' := hwx.symm
                     subst hwx'
                     clear hwx
                     go_wp2_with fail
                     go_roundw
                     case rel =>
                       obtain ⟨hf1, hf2⟩ := HFB.out
                       have hx := HX.out
                       refine ⟨k2 + 1, fb, rfl, by go_num, by omega, hb3, hf1, fun j hj hlt' hoj hm => ?_⟩
                       rcases Nat.lt_or_ge j k2 with hjk | hjk
                       · exact hf2 j hj hjk hoj hm
                       · obtain rfl : j = k2 := by omega
                         rw [hx] at hm
                         exact absurd hm (of_decide_eq_false HM.out)
                     case measure => simp [intOf]; omega
             · go_wp2_with fail
               go_roundw
               case rel =>
                 obtain ⟨hf1, hf2⟩ := HFB.out
                 have hx := HX.out
                 refine ⟨k2 + 1, fb, rfl, by go_num, by omega, hb3, hf1, fun j hj hlt' hoj hm => ?_⟩
                 rcases Nat.lt_or_ge j k2 with hjk | hjk
                 · exact hf2 j hj hjk hoj hm
                 · obtain rfl : j = k2 := by omega
                   rw [hx] at hoj
                   exact absurd hoj ho
               case measure => simp [intOf]; omega
           · obtain rfl : k2 = l.length := by omega
             obtain rfl : fb = true := by
               rcases HW.out.found with ⟨f1, f2⟩ | ⟨f1, x, hx, f2, f3, f4⟩
               · exact hf1 f1 f2
               · obtain ⟨j, hj, rfl⟩ := List.mem_iff_getElem.1 hx
                 exact hf2 j hj hj f3 ⟨f2, f4, f1⟩
             clear hf1 hf2 HF0 HI
             go_wp2_with fail
             go_roundw
             case rel => exact ⟨k + 1, by omega, by go_num, hbw.trans (hbx.mono hbw.size)⟩
             case measure => simp [intOf]; omega
     · have hsk' : ¬ r.kind = 1 ∨ r.ended = 0 := by
         by_cases h1 : r.kind = 1
         · right
           by_cases h2 : r.ended = 0
           · exact h2
           · exact absurd ⟨h1, h2⟩ hsk
         · exact .inl h1
       clear hsk
       rcases hsk' with hsk | hsk
       · go_wp2_with fail
         go_roundw
         case rel => exact ⟨k + 1, by omega, by go_num, hb1⟩
         case measure => simp [intOf]; omega
       · by_cases hk1 : r.kind = 1
         · go_wp2_with fail
           go_roundw
           case rel => exact ⟨k + 1, by omega, by go_num, hb1⟩
           case measure => simp [intOf]; omega
         · go_wp2_with fail
           go_roundw
           case rel => exact ⟨k + 1, by omega, by go_num, hb1⟩
           case measure => simp [intOf]; omega
   · obtain rfl : k = l.length := by omega
     clear hok
     go_wp2_with fail
     go_ret
     exact ⟨rfl, hb⟩
end Wld
end
section
namespace Wld
open Go.RowKit Go.Maps
open Lease (Ob I64 upd TabIs hol dels objB HasI map_block map_ne mx)
open Cache (tp row_kept row_below)
open Num (M okB strOf ints)
set_option maxHeartbeats 4000000 in
set_option maxRecDepth 100000 in
theorem fresh_any (B : Nat) (v : Value) (l : List Ev) (w : World) (h : HasE w B v l) (hl : l.length ≤ 1000) (hok : ∀ a ∈ l, ∀ b ∈ l, a.ended ≠ 0 → b.ended ≠ 0 → a.obj = b.obj → a.ended < b.began → a.ver ≤ b.ver ∧ (b.kind = 2 → a.ver < b.ver)) :
   Calls Tryz.prog 11 #[v] w fun e w' => e = .returned (.bool true) ∧ Below w.heap.size w w' := by
 obtain ⟨ao, c, rfl, hcell⟩ := h.shape
 clear h
 have HOK : Hid (∀ a ∈ l, ∀ b ∈ l, a.ended ≠ 0 → b.ended ≠ 0 → a.obj = b.obj → a.ended < b.began → a.ver ≤ b.ver ∧ (b.kind = 2 → a.ver < b.ver)) := hok
 clear hok
 go_enter Tryz.func11, Tryz.ntmps11
 go_wp2_with fail
 go_loopw [3] (fun i wr => ∃ k : Nat, k ≤ l.length ∧ i = .int .i64 k ∧ Below w.heap.size w wr) (fun i _ => l.length - (intOf i).toNat)
 case atStart => exact ⟨0, by omega, rfl, Below.refl _ _⟩
 case round =>
   obtain ⟨k, hk, rfl, hb⟩ := hrel
   by_cases hlt : k < l.length
   · obtain ⟨g, rfl, hg1, hg2, hc⟩ := hcell (by omega)
     have hkI : (k : Int) < (l.length : Int) := by omega
     have hkI0 : (0 : Int) ≤ (k : Int) := by omega
     obtain ⟨r, hr⟩ : ∃ r, l[k] = r := ⟨_, rfl⟩
     have hrm : r ∈ l := by rw [← hr]; exact List.getElem_mem hlt
     have q : ∀ j u, (ecell r)[j]? = some u → wr.cell? ⟨g, k * 10 + j, none⟩ = some u := fun j u hu => (hb.cell (p := ⟨g, k * 10 + j, none⟩) hg2).trans (hc k hlt j u (by rw [hr]; exact hu))
     have q0 : wr.cell? ⟨g, k * 10, none⟩ = some (.int .i64 r.client) := q 0 _ rfl
     have q1 := q 1 _ rfl
     have q2 := q 2 _ rfl
     have q3 := q 3 _ rfl
     have q4 := q 4 _ rfl
     have q5 := q 5 _ rfl
     have q6 := q 6 _ rfl
     have q7 := q 7 _ rfl
     have q8 := q 8 _ rfl
     have q9 := q 9 _ rfl
     clear q hr
     go_upto_region 5 with fail
     obtain ⟨R, hR⟩ : ∃ R, wr.heap.size = R := ⟨_, rfl⟩
     generalize hW : wr.alloc (.cells #[.int .i64 r.client, .int .i64 r.kind, .int .i64 r.obj, .string r.d, .int .i64 r.ver, .bool r.over, .bool r.hit, .int .i64 r.began, .int .i64 r.ended, .int .i64 r.life] 44) = w1
     have hb1 : Below w.heap.size w w1 := by rw [← hW]; exact hb.alloc (by have := hb.size; omega) _
     have eR : w1.heap[R]? = some (.cells #[.int .i64 r.client, .int .i64 r.kind, .int .i64 r.obj, .string r.d, .int .i64 r.ver, .bool r.over, .bool r.hit, .int .i64 r.began, .int .i64 r.ended, .int .i64 r.life] 44) := by rw [← hW, ← hR]; exact heap_alloc_new wr _
     rw [hR]
     generalize Value.agg #[.int .i64 r.client, .int .i64 r.kind, .int .i64 r.obj, .string r.d, .int .i64 r.ver, .bool r.over, .bool r.hit, .int .i64 r.began, .int .i64 r.ended, .int .i64 r.life] = sr
     have hRl : R < w1.heap.size := (Array.getElem?_eq_some_iff.1 eR).1
     have p1 : w1.cell? ⟨R, 1, none⟩ = some (.int .i64 r.kind) := cell_of_row _ _ _ _ _ _ eR
     have p2 : w1.cell? ⟨R, 2, none⟩ = some (.int .i64 r.obj) := cell_of_row _ _ _ _ _ _ eR
     have p4 : w1.cell? ⟨R, 4, none⟩ = some (.int .i64 r.ver) := cell_of_row _ _ _ _ _ _ eR
     have p8 : w1.cell? ⟨R, 8, none⟩ = some (.int .i64 r.ended) := cell_of_row _ _ _ _ _ _ eR
     have HC : Hid (∀ (k : Nat) (hk : k < l.length) (j : Nat) (u : Value), (ecell l[k])[j]? = some u → w.cell? ⟨g, k * 10 + j, none⟩ = some u) := hc
     clear hW hR eR q0 q1 q2 q3 q4 q5 q6 q7 q8 q9 hb hc hcell
     go_cut [34] from 19 to 33 (fun u wx => (∃ b : Bool, u = .bool b ∧ (b = false → r.ended ≠ 0)) ∧ wx = w1)
     case first =>
       by_cases h1 : r.ended = 0
       · go_wp2_with fail
         go_meet
         case rel => exact ⟨⟨true, rfl, fun h => by cases h⟩, rfl⟩
       · by_cases h2 : r.kind = 2
         · go_wp2_with fail
           go_meet
           case rel => exact ⟨⟨_, rfl, fun _ => h1⟩, rfl⟩
         · go_wp2_with fail
           go_meet
           case rel => exact ⟨⟨_, rfl, fun _ => h1⟩, rfl⟩
     case rest =>
       obtain ⟨⟨b, rfl, hb0⟩, hwx⟩ := hcut
       have hwx' := hwx.symm
       subst hwx'
       clear hwx
       have HB : Hid (b = false → r.ended ≠ 0) := hb0
       clear hb0
       cases b with
       | true =>
         go_wp2_with fail
         go_roundw
         case rel => exact ⟨k + 1, by omega, by go_num, hb1⟩
         case measure => simp [intOf]; omega
       | false =>
         have HB1 : Hid (r.ended ≠ 0) := HB.out rfl
         clear HB
         go_wp2_with fail
         go_loopw [5] (fun i wx => ∃ k2 : Nat, i = .int .i64 k2 ∧ k2 ≤ l.length ∧ Below w1.heap.size w1 wx) (fun i _ => l.length - (intOf i).toNat)
         case atStart => exact ⟨0, rfl, by omega, Below.refl _ _⟩
         case round =>
           obtain ⟨k2, rfl, hk2, hbx⟩ := hrel
           by_cases hlt2 : k2 < l.length
           · have hkJ : (k2 : Int) < (l.length : Int) := by omega
             have hkJ0 : (0 : Int) ≤ (k2 : Int) := by omega
             obtain ⟨x, hx⟩ : ∃ x, l[k2] = x := ⟨_, rfl⟩
             have hxm : x ∈ l := by rw [← hx]; exact List.getElem_mem hlt2
             have hgx : g < w1.heap.size := by have := hb1.size; omega
             have q : ∀ j u, (ecell x)[j]? = some u → wr.cell? ⟨g, k2 * 10 + j, none⟩ = some u := fun j u hu => (hbx.cell (p := ⟨g, k2 * 10 + j, none⟩) hgx).trans ((hb1.cell (p := ⟨g, k2 * 10 + j, none⟩) hg2).trans (HC.out k2 hlt2 j u (by rw [hx]; exact hu)))
             have q0 : wr.cell? ⟨g, k2 * 10, none⟩ = some (.int .i64 x.client) := q 0 _ rfl
             have q1 := q 1 _ rfl
             have q2 := q 2 _ rfl
             have q3 := q 3 _ rfl
             have q4 := q 4 _ rfl
             have q5 := q 5 _ rfl
             have q6 := q 6 _ rfl
             have q7 := q 7 _ rfl
             have q8 := q 8 _ rfl
             have q9 := q 9 _ rfl
             clear q hx
             go_upto_region 10 with fail
             obtain ⟨X, hX⟩ : ∃ X, wr.heap.size = X := ⟨_, rfl⟩
             generalize hW3 : wr.alloc (.cells #[.int .i64 x.client, .int .i64 x.kind, .int .i64 x.obj, .string x.d, .int .i64 x.ver, .bool x.over, .bool x.hit, .int .i64 x.began, .int .i64 x.ended, .int .i64 x.life] 44) = w3
             have hb3 : Below w1.heap.size w1 w3 := by rw [← hW3]; exact hbx.alloc (by have := hbx.size; omega) _
             have eX : w3.heap[X]? = some (.cells #[.int .i64 x.client, .int .i64 x.kind, .int .i64 x.obj, .string x.d, .int .i64 x.ver, .bool x.over, .bool x.hit, .int .i64 x.began, .int .i64 x.ended, .int .i64 x.life] 44) := by rw [← hW3, ← hX]; exact heap_alloc_new wr _
             rw [hX]
             generalize Value.agg #[.int .i64 x.client, .int .i64 x.kind, .int .i64 x.obj, .string x.d, .int .i64 x.ver, .bool x.over, .bool x.hit, .int .i64 x.began, .int .i64 x.ended, .int .i64 x.life] = sx
             have x1 : w3.cell? ⟨X, 1, none⟩ = some (.int .i64 x.kind) := cell_of_row _ _ _ _ _ _ eX
             have x2 : w3.cell? ⟨X, 2, none⟩ = some (.int .i64 x.obj) := cell_of_row _ _ _ _ _ _ eX
             have x4 : w3.cell? ⟨X, 4, none⟩ = some (.int .i64 x.ver) := cell_of_row _ _ _ _ _ _ eX
             have x7 : w3.cell? ⟨X, 7, none⟩ = some (.int .i64 x.began) := cell_of_row _ _ _ _ _ _ eX
             have x8 : w3.cell? ⟨X, 8, none⟩ = some (.int .i64 x.ended) := cell_of_row _ _ _ _ _ _ eX
             have z2 := (hb3.cell (p := ⟨R, 2, none⟩) hRl).trans p2
             have z4 := (hb3.cell (p := ⟨R, 4, none⟩) hRl).trans p4
             have z8 := (hb3.cell (p := ⟨R, 8, none⟩) hRl).trans p8
             clear hW3 hX eX q0 q1 q2 q3 q4 q5 q6 q7 q8 q9 hbx
             go_cut [76] from 45 to 75 (fun u wx => (∃ b : Bool, u = .bool b ∧ (b = false → x.ended ≠ 0 ∧ x.obj = r.obj ∧ r.ended < x.began)) ∧ wx = w3)
             case first =>
               by_cases h1 : x.ended = 0
               · go_wp2_with fail
                 go_meet
                 case rel => exact ⟨⟨true, rfl, fun h => by cases h⟩, rfl⟩
               · by_cases h2 : x.obj = r.obj
                 · by_cases h3 : x.began ≤ r.ended
                   · go_wp2_with fail
                     go_meet
                     case rel => exact ⟨⟨true, rfl, fun h => by cases h⟩, rfl⟩
                   · by_cases h4 : x.kind = 2
                     · go_wp2_with fail
                       go_meet
                       case rel => exact ⟨⟨_, rfl, fun _ => ⟨h1, h2, by omega⟩⟩, rfl⟩
                     · go_wp2_with fail
                       go_meet
                       case rel => exact ⟨⟨_, rfl, fun _ => ⟨h1, h2, by omega⟩⟩, rfl⟩
                 · go_wp2_with fail
                   go_meet
                   case rel => exact ⟨⟨true, rfl, fun h => by cases h⟩, rfl⟩
             case rest =>
               obtain ⟨⟨b, rfl, hb0⟩, hwx⟩ := hcut
               have hwx' := hwx.symm
               subst hwx'
               clear hwx
               have HX : Hid (b = false → x.ended ≠ 0 ∧ x.obj = r.obj ∧ r.ended < x.began) := hb0
               clear hb0
               cases b with
               | true =>
                 go_wp2_with fail
                 go_roundw
                 case rel => exact ⟨k2 + 1, by go_num, by omega, hb3⟩
                 case measure => simp [intOf]; omega
               | false =>
                 have HX1 : Hid (x.ended ≠ 0 ∧ x.obj = r.obj ∧ r.ended < x.began) := HX.out rfl
                 clear HX
                 go_upto_region 11 with fail
                 go_quiet (fail)
                 go_upto_region 12 with fail
                 have hF := HOK.out r hrm x hxm HB1.out HX1.out.1 HX1.out.2.1.symm HX1.out.2.2
                 have hF1 : ¬ x.ver < r.ver := by have := hF.1; omega
                 by_cases hk2' : x.kind = 2
                 · have hF2 : ¬ x.ver ≤ r.ver := by have := hF.2 hk2'; omega
                   clear hF
                   go_wp2_with fail
                   go_roundw
                   case rel => exact ⟨k2 + 1, by go_num, by omega, Lease.below_drewN hb3 _⟩
                   case measure => simp [intOf]; omega
                 · clear hF
                   go_wp2_with fail
                   go_roundw
                   case rel => exact ⟨k2 + 1, by go_num, by omega, Lease.below_drewN hb3 _⟩
                   case measure => simp [intOf]; omega
           · obtain rfl : k2 = l.length := by omega
             go_wp2_with fail
             go_roundw
             case rel => exact ⟨k + 1, by omega, by go_num, hb1.trans (hbx.mono hb1.size)⟩
             case measure => simp [intOf]; omega
   · obtain rfl : k = l.length := by omega
     clear hcell
     go_wp2_with fail
     go_ret
     exact ⟨rfl, hb⟩
end Wld
end
end Go.Proofs.YtbebfliimjjohaaGreatDoor
