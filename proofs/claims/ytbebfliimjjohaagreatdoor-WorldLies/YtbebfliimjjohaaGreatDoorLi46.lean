/-
  Parts of the proof: WkpE WkpG.
-/
import Derived.Test.YtbebfliimjjohaaGreatDoorLi43
import Derived.Test.YtbebfliimjjohaaGreatDoorLi45
import Derived.Test.YtbebfliimjjohaaGreatDoorLi06
import Derived.BigQuiet
import Derived.Deep.CutRange
import Derived.Test.YtbebfliimjjohaaGreatDoorLi03
namespace Go.Proofs.YtbebfliimjjohaaGreatDoor
section
namespace Wld
open Go.RowKit Go.Maps
open Lease (Ob I64 upd TabIs hol dels objB HasI map_block map_ne mx)
open Cache (tp row_kept row_below)
open Num (M okB strOf ints)
theorem nil_empty : (⟨#[]⟩ : ByteArray).toList.isEmpty = true := by decide +kernel
def Mt (x r : Ev) : Prop := x.kind = 2 ∧ x.d = r.d ∧ 0 < r.ver
instance (x r : Ev) : Decidable (Mt x r) := by unfold Mt; infer_instance
set_option maxHeartbeats 4000000 in
set_option maxRecDepth 100000 in
theorem written_any (B : Nat) (v : Value) (l : List Ev) (w : World) (h : HasE w B v l) (hl : l.length ≤ 1000) (hok : ∀ r ∈ l, r.kind = 1 → r.ended ≠ 0 → WrittenOk l r) (hen : ∀ r ∈ l, 0 ≤ r.ended) :
   Calls Tryz.prog 10 #[v] w fun e w' => e = .returned (.bool true) ∧ Below w.heap.size w w' := by
 obtain ⟨ao, c, rfl, hcell⟩ := h.shape
 clear h
 go_enter Tryz.func10, Tryz.ntmps10
 go_wp2_with fail
 go_loopw [3] (fun i wr => ∃ k : Nat, k ≤ l.length ∧ i = .int .i64 k ∧ Below w.heap.size w wr) (fun i _ => l.length - (intOf i).toNat)
 case atStart => exact ⟨0, by omega, rfl, Below.refl _ _⟩
 case round =>
   obtain ⟨k, hk, rfl, hb⟩ := hrel
   by_cases hlt : k < l.length
   · obtain ⟨g, rfl, hg1, hg2, hc⟩ := hcell (by omega)
     have hkI : (k : Int) < (l.length : Int) := by omega
     have hkI0 : (0 : Int) ≤ (k : Int) := by omega
     obtain ⟨r, hr⟩ : ∃ r, l[k] = r := ⟨_, rfl⟩
     have hrm : r ∈ l := by rw [← hr]; exact List.getElem_mem hlt
     have q : ∀ j u, (ecell r)[j]? = some u → wr.cell? ⟨g, k * 10 + j, none⟩ = some u := fun j u hu => (hb.cell (p := ⟨g, k * 10 + j, none⟩) hg2).trans (hc k hlt j u (by rw [hr]; exact hu))
     have q0 : wr.cell? ⟨g, k * 10, none⟩ = some (.int .i64 r.client) := q 0 _ rfl
     have q1 := q 1 _ rfl
     have q2 := q 2 _ rfl
     have q3 := q 3 _ rfl
     have q4 := q 4 _ rfl
     have q5 := q 5 _ rfl
     have q6 := q 6 _ rfl
     have q7 := q 7 _ rfl
     have q8 := q 8 _ rfl
     have q9 := q 9 _ rfl
     clear q hr
     go_upto_region 5 with fail
     obtain ⟨R, hR⟩ : ∃ R, wr.heap.size = R := ⟨_, rfl⟩
     generalize hW : wr.alloc (.cells #[.int .i64 r.client, .int .i64 r.kind, .int .i64 r.obj, .string r.d, .int .i64 r.ver, .bool r.over, .bool r.hit, .int .i64 r.began, .int .i64 r.ended, .int .i64 r.life] 44) = w1
     have hb1 : Below w.heap.size w w1 := by rw [← hW]; exact hb.alloc (by have := hb.size; omega) _
     have eR : w1.heap[R]? = some (.cells #[.int .i64 r.client, .int .i64 r.kind, .int .i64 r.obj, .string r.d, .int .i64 r.ver, .bool r.over, .bool r.hit, .int .i64 r.began, .int .i64 r.ended, .int .i64 r.life] 44) := by rw [← hW, ← hR]; exact heap_alloc_new wr _
     rw [hR]
     have hRl : R < w1.heap.size := (Array.getElem?_eq_some_iff.1 eR).1
     have p1 : w1.cell? ⟨R, 1, none⟩ = some (.int .i64 r.kind) := cell_of_row _ _ _ _ _ _ eR
     have p2 : w1.cell? ⟨R, 2, none⟩ = some (.int .i64 r.obj) := cell_of_row _ _ _ _ _ _ eR
     have p3 : w1.cell? ⟨R, 3, none⟩ = some (.string r.d) := cell_of_row _ _ _ _ _ _ eR
     have p4 : w1.cell? ⟨R, 4, none⟩ = some (.int .i64 r.ver) := cell_of_row _ _ _ _ _ _ eR
     have p8 : w1.cell? ⟨R, 8, none⟩ = some (.int .i64 r.ended) := cell_of_row _ _ _ _ _ _ eR
     clear hW hR eR q0 q1 q2 q3 q4 q5 q6 q7 q8 q9 hb
     by_cases hsk : r.kind = 1 ∧ r.ended ≠ 0
     · obtain ⟨hk1, hk2⟩ := hsk
       have W := hok r hrm hk1 hk2
       have he0 : (r.ended == 0) = false := by simpa using hk2
       clear hk2
       have hok' : Hid (∀ r ∈ l, r.kind = 1 → r.ended ≠ 0 → WrittenOk l r) := hok
       clear hok
       go_upto_region 7 with fail
       obtain ⟨V, hV⟩ : ∃ V, w1.heap.size = V := ⟨_, rfl⟩
       generalize hW : w1.alloc (.cells #[.string r.d, .int .i64 r.ver] 40) = w2
       have hb2 : Below w1.heap.size w1 w2 := by rw [← hW]; exact (Below.refl _ _).alloc (Nat.le_refl _) _
       have eV : w2.heap[V]? = some (.cells #[.string r.d, .int .i64 r.ver] 40) := by rw [← hW, ← hV]; exact heap_alloc_new w1 _
       rw [hV]
       have hVl : V < w2.heap.size := (Array.getElem?_eq_some_iff.1 eV).1
       have v0 : w2.cell? ⟨V, 0, none⟩ = some (.string r.d) := cell_of_row _ _ _ _ _ _ eV
       have v1 : w2.cell? ⟨V, 1, none⟩ = some (.int .i64 r.ver) := cell_of_row _ _ _ _ _ _ eV
       have r2 := (hb2.cell (p := ⟨R, 2, none⟩) hRl).trans p2
       have r8 := (hb2.cell (p := ⟨R, 8, none⟩) hRl).trans p8
       have hRl2 : R < w2.heap.size := by have := hb2.size; omega
       have hbw : Below w.heap.size w w2 := hb1.trans (hb2.mono hb1.size)
       clear hW hV eV p1 p2 p3 p4 p8 hb1 hb2 hRl
       have HW : Hid (WrittenOk l r) := W
       have HC : Hid (∀ (k : Nat) (hk : k < l.length) (j : Nat) (u : Value), (ecell l[k])[j]? = some u → w.cell? ⟨g, k * 10 + j, none⟩ = some u) := hc
       have HEN : Hid (∀ r ∈ l, 0 ≤ r.ended) := hen
       clear W hc hen hcell hk1 he0
       go_cut [6] from 31 to 38 (fun u wx => (∃ fb : Bool, u = .bool fb ∧ (r.ver = 0 → r.d = ⟨#[]⟩ → fb = true)) ∧ wx = w2)
       case first =>
         by_cases hz : r.ver = 0
         · go_wp2_with fail
           go_meet
           case rel => exact ⟨⟨_, rfl, fun _ hd => by rw [hd]; exact nil_empty⟩, rfl⟩
         · go_wp2_with fail
           go_meet
           case rel => exact ⟨⟨false, rfl, fun q => absurd q hz⟩, rfl⟩
       case rest =>
         obtain ⟨⟨fb0, rfl, hfb0⟩, hwx⟩ := hcut
         have hwx' := hwx.symm
         subst hwx'
         clear hwx
         have HF0 : Hid (r.ver = 0 → r.d = ⟨#[]⟩ → fb0 = true) := hfb0
         clear hfb0
         have HI : Hid (∀ (j : Nat) (hj : j < l.length), j < 0 → l[j].obj = r.obj → Mt l[j] r → fb0 = true) := fun j _ h0 => absurd h0 (by omega)
         go_wp2_with fail
         go_loopw [6, 7] (fun f i wx => ∃ (k2 : Nat) (fb : Bool), f = .bool fb ∧ i = .int .i64 k2 ∧ k2 ≤ l.length ∧ Below w2.heap.size w2 wx ∧ (r.ver = 0 → r.d = ⟨#[]⟩ → fb = true) ∧ ∀ (j : Nat) (hj : j < l.length), j < k2 → l[j].obj = r.obj → Mt l[j] r → fb = true) (fun _ i _ => l.length - (intOf i).toNat)
         case atStart => exact ⟨0, fb0, rfl, rfl, by omega, Below.refl _ _, HF0.out, HI.out⟩
         case round =>
           obtain ⟨k2, fb, rfl, rfl, hk2, hbx, hf1, hf2⟩ := hrel
           by_cases hlt2 : k2 < l.length
           · have hkJ : (k2 : Int) < (l.length : Int) := by omega
             have hkJ0 : (0 : Int) ≤ (k2 : Int) := by omega
             obtain ⟨x, hx⟩ : ∃ x, l[k2] = x := ⟨_, rfl⟩
             have hxm : x ∈ l := by rw [← hx]; exact List.getElem_mem hlt2
             have hgx : g < w2.heap.size := by have := hbw.size; omega
             have q : ∀ j u, (ecell x)[j]? = some u → wr.cell? ⟨g, k2 * 10 + j, none⟩ = some u := fun j u hu => (hbx.cell (p := ⟨g, k2 * 10 + j, none⟩) hgx).trans ((hbw.cell (p := ⟨g, k2 * 10 + j, none⟩) hg2).trans (HC.out k2 hlt2 j u (by rw [hx]; exact hu)))
             have q0 : wr.cell? ⟨g, k2 * 10, none⟩ = some (.int .i64 x.client) := q 0 _ rfl
             have q1 := q 1 _ rfl
             have q2 := q 2 _ rfl
             have q3 := q 3 _ rfl
             have q4 := q 4 _ rfl
             have q5 := q 5 _ rfl
             have q6 := q 6 _ rfl
             have q7 := q 7 _ rfl
             have q8 := q 8 _ rfl
             have q9 := q 9 _ rfl
             have HFB : Hid ((r.ver = 0 → r.d = ⟨#[]⟩ → fb = true) ∧ ∀ (j : Nat) (hj : j < l.length), j < k2 → l[j].obj = r.obj → Mt l[j] r → fb = true) := ⟨hf1, hf2⟩
             have HX : Hid (l[k2] = x) := hx
             clear q hx hf1 hf2 HF0 HI
             go_upto_region 12 with fail
             obtain ⟨X, hX⟩ : ∃ X, wr.heap.size = X := ⟨_, rfl⟩
             generalize hW3 : wr.alloc (.cells #[.int .i64 x.client, .int .i64 x.kind, .int .i64 x.obj, .string x.d, .int .i64 x.ver, .bool x.over, .bool x.hit, .int .i64 x.began, .int .i64 x.ended, .int .i64 x.life] 44) = w3
             have hb3 : Below w2.heap.size w2 w3 := by rw [← hW3]; exact hbx.alloc (by have := hbx.size; omega) _
             have eX : w3.heap[X]? = some (.cells #[.int .i64 x.client, .int .i64 x.kind, .int .i64 x.obj, .string x.d, .int .i64 x.ver, .bool x.over, .bool x.hit, .int .i64 x.began, .int .i64 x.ended, .int .i64 x.life] 44) := by rw [← hW3, ← hX]; exact heap_alloc_new wr _
             rw [hX]
             generalize Value.agg #[.int .i64 x.client, .int .i64 x.kind, .int .i64 x.obj, .string x.d, .int .i64 x.ver, .bool x.over, .bool x.hit, .int .i64 x.began, .int .i64 x.ended, .int .i64 x.life] = sx
             have x1 : w3.cell? ⟨X, 1, none⟩ = some (.int .i64 x.kind) := cell_of_row _ _ _ _ _ _ eX
             have x2 : w3.cell? ⟨X, 2, none⟩ = some (.int .i64 x.obj) := cell_of_row _ _ _ _ _ _ eX
             have x3 : w3.cell? ⟨X, 3, none⟩ = some (.string x.d) := cell_of_row _ _ _ _ _ _ eX
             have x4 : w3.cell? ⟨X, 4, none⟩ = some (.int .i64 x.ver) := cell_of_row _ _ _ _ _ _ eX
             have x7 : w3.cell? ⟨X, 7, none⟩ = some (.int .i64 x.began) := cell_of_row _ _ _ _ _ _ eX
             have x8 : w3.cell? ⟨X, 8, none⟩ = some (.int .i64 x.ended) := cell_of_row _ _ _ _ _ _ eX
             have z2 := (hb3.cell (p := ⟨R, 2, none⟩) hRl2).trans r2
             have z8 := (hb3.cell (p := ⟨R, 8, none⟩) hRl2).trans r8
             have y0 := (hb3.cell (p := ⟨V, 0, none⟩) hVl).trans v0
             have y1 := (hb3.cell (p := ⟨V, 1, none⟩) hVl).trans v1
             clear hW3 hX eX q0 q1 q2 q3 q4 q5 q6 q7 q8 q9 hbx
             by_cases ho : x.obj = r.obj
             · have HO : Hid (x.obj = r.obj) := ho
               go_upto_region 13 with fail
               clear ho
               go_cut [73] from 56 to 72 (fun u wx => u = .bool (decide (Mt x r)) ∧ wx = w3)
               case first =>
                 by_cases hkd : x.kind = 2
                 · by_cases hd : x.d = r.d
                   · go_wp2_with fail
                     go_meet
                     case rel => exact ⟨by rw [show decide (Mt x r) = decide (0 < r.ver) from decide_eq_decide.2 ⟨fun q => q.2.2, fun q => ⟨hkd, hd, q⟩⟩], rfl⟩
                   · have hdl := Wire.bytes_ne hd
                     go_wp2_with fail
                     go_meet
                     case rel => exact ⟨by rw [decide_eq_false (fun q => hd q.2.1)], rfl⟩
                 · go_wp2_with fail
                   go_meet
                   case rel => exact ⟨by rw [decide_eq_false (fun q => hkd q.1)], rfl⟩
               case rest =>
                 obtain ⟨rfl, hwx⟩ := hcut
                 have hwx' := hwx.symm
                 subst hwx'
                 clear hwx
                 obtain ⟨dm, hdm⟩ : ∃ dm, decide (Mt x r) = dm := ⟨_, rfl⟩
                 rw [hdm]
                 have HM : Hid (decide (Mt x r) = dm) := hdm
                 clear hdm
                 cases dm with
                 | true =>
                   go_upto_region 14 with fail
                   go_cut [92] from 74 to 91 (fun u wx => u = .bool false ∧ wx = w3)
                   case first =>
                     obtain ⟨m1, m2, m3⟩ := of_decide_eq_true HM.out
                     obtain ⟨hb1, hb2⟩ := HW.out.wr x hxm HO.out m1 m2 m3
                     clear m1 m2 m3
                     have hbe : ¬ r.ended < x.began := by omega
                     by_cases he : 0 < x.ended
                     · have hv := hb2 he
                       clear hb2 hb1
                       go_wp2_with fail
                       go_meet
                       case rel => exact ⟨rfl, rfl⟩
                     · clear hb2 hb1
                       go_wp2_with fail
                       go_meet
                       case rel => exact ⟨rfl, rfl⟩
                   case rest =>
                     obtain ⟨rfl, hwx⟩ := hcut
                     have hwx' := hwx.symm
                     subst hwx'
                     clear hwx
                     go_upto_region 17 with fail
                     go_cut [119] from 93 to 118 (fun u wx => u = .bool false ∧ wx = w3)
                     case first =>
                       have hsm := HW.out.same x hxm HO.out
                       by_cases he : 0 < x.ended
                       · by_cases hvp : 0 < x.ver
                         · have hsm := hsm he hvp
                           by_cases hd : x.d = r.d
                           · have hv := hsm.2 hd
                             clear hsm
                             go_wp2_with fail
                             go_meet
                             case rel => exact ⟨rfl, rfl⟩
                           · have hdl := Wire.bytes_ne hd
                             have hv : ¬ x.ver = r.ver := fun q => hd (hsm.1 q)
                             clear hsm
                             go_wp2_with fail
                             go_meet
                             case rel => exact ⟨by rw [beq_false_of_ne hv], rfl⟩
                         · clear hsm
                           go_wp2_with fail
                           go_meet
                           case rel => exact ⟨rfl, rfl⟩
                       · clear hsm
                         go_wp2_with fail
                         go_meet
                         case rel => exact ⟨rfl, rfl⟩
                     case rest =>
                       obtain ⟨rfl, hwx⟩ := hcut
                       have hwx' := hwx.symm
                       subst hwx'
                       clear hwx
                       go_wp2_with fail
                       go_roundw
                       case rel =>
                         obtain ⟨hf1, hf2⟩ := HFB.out
                         have hx := HX.out
                         exact ⟨k2 + 1, true, rfl, by go_num, by omega, hb3, fun _ _ => rfl, fun _ _ _ _ _ => rfl⟩
                       case measure => simp [intOf]; omega
                 | false =>
                   go_upto_region 17 with fail
                   go_cut [119] from 93 to 118 (fun u wx => u = .bool false ∧ wx = w3)
                   case first =>
                     have hsm := HW.out.same x hxm HO.out
                     by_cases he : 0 < x.ended
                     · by_cases hvp : 0 < x.ver
                       · have hsm := hsm he hvp
                         by_cases hd : x.d = r.d
                         · have hv := hsm.2 hd
                           clear hsm
                           go_wp2_with fail
                           go_meet
                           case rel => exact ⟨rfl, rfl⟩
                         · have hdl := Wire.bytes_ne hd
                           have hv : ¬ x.ver = r.ver := fun q => hd (hsm.1 q)
                           clear hsm
                           go_wp2_with fail
                           go_meet
                           case rel => exact ⟨by rw [beq_false_of_ne hv], rfl⟩
                       · clear hsm
                         go_wp2_with fail
                         go_meet
                         case rel => exact ⟨rfl, rfl⟩
                     · clear hsm
                       go_wp2_with fail
                       go_meet
                       case rel => exact ⟨rfl, rfl⟩
                   case rest =>
                     obtain ⟨rfl, hwx⟩ := hcut
                     have hwx' := hwx.symm
                     subst hwx'
                     clear hwx
                     go_wp2_with fail
                     go_roundw
                     case rel =>
                       obtain ⟨hf1, hf2⟩ := HFB.out
                       have hx := HX.out
                       refine ⟨k2 + 1, fb, rfl, by go_num, by omega, hb3, hf1, fun j hj hlt' hoj hm => ?_⟩
                       rcases Nat.lt_or_ge j k2 with hjk | hjk
                       · exact hf2 j hj hjk hoj hm
                       · obtain rfl : j = k2 := by omega
                         rw [hx] at hm
                         exact absurd hm (of_decide_eq_false HM.out)
                     case measure => simp [intOf]; omega
             · go_wp2_with fail
               go_roundw
               case rel =>
                 obtain ⟨hf1, hf2⟩ := HFB.out
                 have hx := HX.out
                 refine ⟨k2 + 1, fb, rfl, by go_num, by omega, hb3, hf1, fun j hj hlt' hoj hm => ?_⟩
                 rcases Nat.lt_or_ge j k2 with hjk | hjk
                 · exact hf2 j hj hjk hoj hm
                 · obtain rfl : j = k2 := by omega
                   rw [hx] at hoj
                   exact absurd hoj ho
               case measure => simp [intOf]; omega
           · obtain rfl : k2 = l.length := by omega
             obtain rfl : fb = true := by
               rcases HW.out.found with ⟨f1, f2⟩ | ⟨f1, x, hx, f2, f3, f4⟩
               · exact hf1 f1 f2
               · obtain ⟨j, hj, rfl⟩ := List.mem_iff_getElem.1 hx
                 exact hf2 j hj hj f3 ⟨f2, f4, f1⟩
             clear hf1 hf2 HF0 HI
             go_wp2_with fail
             go_roundw
             case rel => exact ⟨k + 1, by omega, by go_num, hbw.trans (hbx.mono hbw.size)⟩
             case measure => simp [intOf]; omega
     · have hsk' : ¬ r.kind = 1 ∨ r.ended = 0 := by
         by_cases h1 : r.kind = 1
         · right
           by_cases h2 : r.ended = 0
           · exact h2
           · exact absurd ⟨h1, h2⟩ hsk
         · exact .inl h1
       clear hsk
       rcases hsk' with hsk | hsk
       · go_wp2_with fail
         go_roundw
         case rel => exact ⟨k + 1, by omega, by go_num, hb1⟩
         case measure => simp [intOf]; omega
       · by_cases hk1 : r.kind = 1
         · go_wp2_with fail
           go_roundw
           case rel => exact ⟨k + 1, by omega, by go_num, hb1⟩
           case measure => simp [intOf]; omega
         · go_wp2_with fail
           go_roundw
           case rel => exact ⟨k + 1, by omega, by go_num, hb1⟩
           case measure => simp [intOf]; omega
   · obtain rfl : k = l.length := by omega
     clear hok
     go_wp2_with fail
     go_ret
     exact ⟨rfl, hb⟩
end Wld
end
section
namespace Wld
open Go.RowKit Go.Maps
open Lease (Ob I64 upd TabIs hol dels objB HasI map_block map_ne mx I64.wf kk kk_key keyA keyedA lits1 cellsI sizeT laidOut Dat)
open Cache (tp row_kept row_below)
open Num (M okB strOf ints)
theorem kk_inj {a b c d : Int} (ha : I64 a) (hb : I64 b) (hc : I64 c) (hd : I64 d) (h : kk a b = kk c d) : a = c ∧ b = d := by
 unfold kk at h
 injection h with h
 have e := keyBytes_inj (l := [.int .i64 a, .int .i64 b]) (l' := [.int .i64 c, .int .i64 d]) ⟨rfl, rfl, trivial⟩ (by simp [Lit.keyWf, ha.wf, hb.wf]) (by simp [Lit.keyWf, hc.wf, hd.wf]) h
 simpa using e
def k3 (a b c : Int) : Lit := .string (keyBytes [.int .i64 a, .int .i64 b, .int .i64 c])
theorem k3_key (a b c : Int) : WideAt.IsKeyLit (k3 a b c) := trivial
theorem k3_inj {a b c x y z : Int} (ha : I64 a) (hb : I64 b) (hc : I64 c) (hx : I64 x) (hy : I64 y) (hz : I64 z) (h : k3 a b c = k3 x y z) : a = x ∧ b = y ∧ c = z := by
 unfold k3 at h
 injection h with h
 have e := keyBytes_inj (l := [.int .i64 a, .int .i64 b, .int .i64 c]) (l' := [.int .i64 x, .int .i64 y, .int .i64 z]) ⟨rfl, rfl, rfl, trivial⟩ (by simp [Lit.keyWf, ha.wf, hb.wf, hc.wf]) (by simp [Lit.keyWf, hx.wf, hy.wf, hz.wf]) h
 simpa using e
theorem wide3 : (match Tryz.prog.underlying 45 with | some (.array _ _) | some (.struct _) => true | _ => false) = true := by kernel_rfl
theorem row3 : (45 : TypeId) < Tryz.prog.types.size := of_decide_eq_true (by kernel_rfl)
theorem typ33 : Tryz.prog.keyTypeAt 3 45 = true := by kernel_rfl
theorem typ3 : Tryz.prog.keyType 45 = true := by kernel_rfl
theorem cells3 : Tryz.prog.cellsOf 45 = 3 := by kernel_rfl
set_option maxRecDepth 100000 in
theorem law3 : WideMaps.KeyLaw Tryz.prog 45 := deep_law_laid laidOut (m := 3) (by omega) row3 typ33 wide3
theorem keyed3 : Keyed Tryz.prog 45 := Keyed.of_law law3
theorem key3 {a b c : Int} (ha : I64 a) (hb : I64 b) (hc : I64 c) : keyOf Tryz.prog 45 (.agg #[.int .i64 a, .int .i64 b, .int .i64 c]) = some (k3 a b c) := by
 have hl : Tryz.prog.keyLits (Tryz.prog.types.size + 1) 45 (Value.agg #[.int .i64 a, .int .i64 b, .int .i64 c]).cells.toList = some [.int .i64 a, .int .i64 b, .int .i64 c] := by
   rw [sizeT]
   unfold Program.keyLits
   simp [Tryz.underlying45, Value.cells, cells3, cellsI, lits1 _ ha, lits1 _ hb, lits1 _ hc, List.range_succ]
 have hf : (Value.agg #[.int .i64 a, .int .i64 b, .int .i64 c]).formed Tryz.prog 45 = true := by simp [Value.formed, Tryz.underlying45, cells3]
 unfold keyOf
 rw [Tryz.underlying45]
 simp only [typ3, hf, Bool.and_self, if_true, hl, Option.map_some]
 rfl
theorem zeroB (w : World) : (zeroValue 4).run Tryz.prog w = .ok (.bool false) w := by kernel_rfl
theorem plainElem_bool_inv {P : Program} {e : TypeId} (he : P.underlying e = some .bool) {v : Value} {z : Dat × List MemPlace} (h : plainElem P e v = some z) : ∃ a, v = .bool a ∧ z = (.lit (.bool a), []) := by
 unfold plainElem at h
 rw [he] at h
 cases v <;> simp at h
 subst h
 exact ⟨_, rfl, rfl⟩
theorem own_bool {w : World} {k t : TypeId} {b n : Nat} {D : Dat} {key : Value} {kl : Lit} {x : Bool} (h : w.ownsMap Tryz.prog k (plainElem Tryz.prog 4) b n D) (K : Keyed Tryz.prog k) (ht : Tryz.prog.underlying t = some (.map k 4)) (hk : keyOf Tryz.prog k key = some kl) (hx : D.atKey kl (.lit (.bool false)) = .lit (.bool x)) :
   (Instr.lookup t (.map (some b)) key false).run Tryz.prog w = .ok (.bool x) w := by
 obtain ⟨v, ps, hrun, hv⟩ := h.lookup K ht (zeroB _) (plainElem_bool Tryz.underlying4 false) hk
 rw [hx] at hv
 obtain ⟨a, rfl, e⟩ := plainElem_bool_inv Tryz.underlying4 hv
 obtain rfl : x = a := by simpa using congrArg Prod.fst e
 exact hrun
theorem Below.turned {B m : Nat} {w x y : World} (h : Below B w x) (hB : B ≤ m) (ht : x.mapTurned y m) (hx : B ≤ x.heap.size) : Below B w y :=
 h.trans ⟨ht.grown.os, ht.grown.tape, ht.grown.output, ht.grown.size, fun k hk => ht.grown.block k (by omega) (fun e => by injection e; omega)⟩
def dn (e : Ev) : Bool := e.kind == 2 && e.ended != 0 && e.ver != 0
def seenB (l : List Ev) (k : Nat) (o v : Int) : Bool := (l.take k).any fun e => dn e && e.obj == o && e.ver == v
theorem seenB_succ {l : List Ev} {k : Nat} {r : Ev} (hk : l[k]? = some r) (o v : Int) : seenB l (k + 1) o v = (seenB l k o v || (dn r && r.obj == o && r.ver == v)) := by
 unfold seenB
 rw [List.take_add_one, hk]
 simp [List.any_append]
theorem seenB_skip {l : List Ev} {k : Nat} {r : Ev} (hk : l[k]? = some r) (hd : dn r = false) (o v : Int) : seenB l (k + 1) o v = seenB l k o v := by
 rw [seenB_succ hk, hd]; simp
def SnIs (l : List Ev) (k : Nat) (D : Dat) : Prop := IsMap D ∧ ∀ o v, I64 o → I64 v → D.atKey (kk o v) (.lit (.bool false)) = .lit (.bool (seenB l k o v))
theorem SnIs.put {l : List Ev} {k : Nat} {D : Dat} {r : Ev} (h : SnIs l k D) (hk : l[k]? = some r) (hd : dn r = true) (ho : I64 r.obj) (hv : I64 r.ver) (hm : IsMap (D.put (kk r.obj r.ver) (.lit (.bool true)))) : SnIs l (k + 1) (D.put (kk r.obj r.ver) (.lit (.bool true))) := by
 refine ⟨hm, fun o v io iv => ?_⟩
 rw [seenB_succ hk, hd]
 by_cases e : kk o v = kk r.obj r.ver
 · obtain ⟨rfl, rfl⟩ := kk_inj io iv ho hv e
   rw [atKey_put_same h.1 (kk_key _ _)]
   simp
 · rw [atKey_put_other e, h.2 o v io iv]
   have : (r.obj == o && r.ver == v) = false := by
     by_cases e1 : r.obj = o
     · by_cases e2 : r.ver = v
       · subst e1 e2; exact absurd rfl e
       · simp [e2]
     · simp [e1]
   rw [Bool.true_and, this, Bool.or_false]
def AloneOk (l : List Ev) : Prop := ∀ (i j : Nat) (x y : Ev), i < j → l[i]? = some x → l[j]? = some y → x.kind = 2 → y.kind = 2 → x.ended ≠ 0 → y.ended ≠ 0 → x.obj = y.obj → x.ver ≠ y.ver
theorem AloneOk.no {l : List Ev} (h : AloneOk l) {k : Nat} {r : Ev} (hk : l[k]? = some r) (hd : dn r = true) : seenB l k r.obj r.ver = false := by
 cases hs : seenB l k r.obj r.ver with
 | false => rfl
 | true =>
   obtain ⟨x, hx, hp⟩ := List.any_eq_true.1 hs
   obtain ⟨i, hi⟩ := List.mem_iff_getElem?.1 hx
   rw [List.getElem?_take] at hi
   split at hi
   · simp [dn] at hp hd
     exact absurd hp.2 (h i k x r (by assumption) hi hk hp.1.1.1.1 hd.1.1 hp.1.1.1.2 hd.1.2 hp.1.2)
   · cases hi
set_option maxHeartbeats 4000000 in
set_option maxRecDepth 100000 in
theorem alone_any (B : Nat) (v : Value) (l : List Ev) (w : World) (h : HasE w B v l) (hl : l.length ≤ 1000) (hok : AloneOk l) (hi6 : ∀ e ∈ l, dn e = true → I64 e.obj ∧ I64 e.ver) :
   Calls Tryz.prog 12 #[v] w fun e w' => e = .returned (.bool true) ∧ Below w.heap.size w w' := by
 obtain ⟨ao, c, rfl, hcell⟩ := h.shape
 clear h
 have HOK : Hid (AloneOk l) := hok
 have HI6 : Hid (∀ e ∈ l, dn e = true → I64 e.obj ∧ I64 e.ver) := hi6
 clear hok hi6
 have hm := fun (t : TypeId) (w : World) => run_makeMap (P := Tryz.prog) t w
 go_enter Tryz.func12, Tryz.ntmps12
 go_wp2_with fail
 clear hm
 go_loopw [4] (fun i wr => ∃ (k : Nat) (D : Dat), k ≤ l.length ∧ i = .int .i64 k ∧ Below w.heap.size w wr ∧ wr.ownsMap Tryz.prog 77 (plainElem Tryz.prog 4) w.heap.size k D ∧ SnIs l k D) (fun i _ => l.length - (intOf i).toNat)
 case atStart => exact ⟨0, .map [], by omega, rfl, (Below.refl _ _).alloc (Nat.le_refl _) _, World.ownsMap_made w _ _ _, ⟨_, rfl⟩, fun o v _ _ => rfl⟩
 case round =>
   obtain ⟨k, D, hk, rfl, hb, hown, hsn⟩ := hrel
   by_cases hlt : k < l.length
   · obtain ⟨g, rfl, hg1, hg2, hc⟩ := hcell (by omega)
     have hkI : (k : Int) < (l.length : Int) := by omega
     have hkI0 : (0 : Int) ≤ (k : Int) := by omega
     obtain ⟨r, hr⟩ : ∃ r, l[k] = r := ⟨_, rfl⟩
     have hrk : l[k]? = some r := by rw [← hr]; exact List.getElem?_eq_getElem hlt
     have hrm : r ∈ l := by rw [← hr]; exact List.getElem_mem hlt
     have q : ∀ j u, (ecell r)[j]? = some u → wr.cell? ⟨g, k * 10 + j, none⟩ = some u := fun j u hu => (hb.cell (p := ⟨g, k * 10 + j, none⟩) hg2).trans (hc k hlt j u (by rw [hr]; exact hu))
     have q1 := q 1 _ rfl
     have q2 := q 2 _ rfl
     have q3 := q 3 _ rfl
     have q4 := q 4 _ rfl
     have q5 := q 5 _ rfl
     have q6 := q 6 _ rfl
     have q8 := q 8 _ rfl
     have HRK : Hid (l[k]? = some r) := hrk
     have HSN : Hid (SnIs l k D) := hsn
     clear q hr hcell hc hrk hsn
     go_upto_region 6 with fail
     obtain ⟨R, hR⟩ : ∃ R, wr.heap.size = R := ⟨_, rfl⟩
     generalize hW : wr.alloc (.cells #[.int .i64 r.kind, .int .i64 r.obj, .string r.d, .int .i64 r.ver, .bool r.over, .bool r.hit] 42) = w1
     have hb1 : Below w.heap.size w w1 := by rw [← hW]; exact hb.alloc (by have := hb.size; omega) _
     have hown1 : w1.ownsMap Tryz.prog 77 (plainElem Tryz.prog 4) w.heap.size k D := by rw [← hW]; exact hown.alloc _
     have eR : w1.heap[R]? = some (.cells #[.int .i64 r.kind, .int .i64 r.obj, .string r.d, .int .i64 r.ver, .bool r.over, .bool r.hit] 42) := by rw [← hW, ← hR]; exact heap_alloc_new wr _
     have u8 : w1.cell? ⟨g, k * 10 + 8, none⟩ = some (.int .i64 r.ended) := by rw [← hW]; exact (((Below.refl _ wr).alloc (Nat.le_refl _) _).cell (p := ⟨g, k * 10 + 8, none⟩) (Nat.lt_of_lt_of_le hg2 hb.size)).trans q8
     rw [hR]
     generalize Value.agg #[.int .i64 r.kind, .int .i64 r.obj, .string r.d, .int .i64 r.ver, .bool r.over, .bool r.hit] = sr
     have p0 : w1.cell? ⟨R, 0, none⟩ = some (.int .i64 r.kind) := cell_of_row _ _ _ _ _ _ eR
     have p1 : w1.cell? ⟨R, 1, none⟩ = some (.int .i64 r.obj) := cell_of_row _ _ _ _ _ _ eR
     have p3 : w1.cell? ⟨R, 3, none⟩ = some (.int .i64 r.ver) := cell_of_row _ _ _ _ _ _ eR
     clear hW hR eR q1 q2 q3 q4 q5 q6 q8 hb hown
     go_cut [35] from 19 to 34 (fun u wx => u = .bool (!dn r) ∧ wx = w1)
     case first =>
       by_cases h1 : r.kind = 2
       · by_cases h2 : r.ended = 0
         · go_wp2_with fail
           go_meet
           case rel => exact ⟨by simp [dn, bne, h1, h2], rfl⟩
         · by_cases h3 : r.ver = 0
           · go_wp2_with fail
             go_meet
             case rel => exact ⟨by simp [dn, bne, h1, h3], rfl⟩
           · go_wp2_with fail
             go_meet
             case rel => exact ⟨by simp [dn, bne, h1], rfl⟩
       · go_wp2_with fail
         go_meet
         case rel => exact ⟨by simp [dn, bne, h1], rfl⟩
     case rest =>
       obtain ⟨rfl, hwx⟩ := hcut
       have hwx' := hwx.symm
       subst hwx'
       clear hwx
       obtain ⟨b, hb0⟩ : ∃ b, dn r = b := ⟨_, rfl⟩
       rw [hb0]
       have HB : Hid (dn r = b) := hb0
       clear hb0
       cases b with
       | false =>
         go_wp2_with fail
         go_roundw
         case rel => exact ⟨k + 1, D, by omega, by go_num, hb1, hown1.mono (by omega), HSN.out.1, fun o v io iv => by rw [seenB_skip HRK.out HB.out]; exact HSN.out.2 o v io iv⟩
         case measure => simp [intOf]; omega
       | true =>
         go_upto_region 8 with fail
         obtain ⟨Y, hY⟩ : ∃ Y, w1.heap.size = Y := ⟨_, rfl⟩
         generalize hW2 : w1.alloc (.cells #[.int .i64 r.obj, .int .i64 r.ver] 77) = w2
         have hb2 : Below w.heap.size w w2 := by rw [← hW2]; exact hb1.alloc (by have := hb1.size; omega) _
         have hown2 : w2.ownsMap Tryz.prog 77 (plainElem Tryz.prog 4) w.heap.size k D := by rw [← hW2]; exact hown1.alloc _
         have eY : w2.heap[Y]? = some (.cells #[.int .i64 r.obj, .int .i64 r.ver] 77) := by rw [← hW2, ← hY]; exact heap_alloc_new w1 _
         rw [hY]
         have y0 : w2.cell? ⟨Y, 0, none⟩ = some (.int .i64 r.obj) := cell_of_row _ _ _ _ _ _ eY
         have y1 : w2.cell? ⟨Y, 1, none⟩ = some (.int .i64 r.ver) := cell_of_row _ _ _ _ _ _ eY
         clear hW2 hY eY p0 p1 p3 u8 hb1 hown1
         obtain ⟨io, iv⟩ := HI6.out r hrm HB.out
         have hno := HOK.out.no HRK.out HB.out
         have hrun := own_bool (t := 76) hown2 keyedA Tryz.underlying76 (keyA io iv) ((HSN.out.2 _ _ io iv).trans (by rw [hno]))
         clear hno
         go_upto_region 10 with fail
         clear hrun
         go_wp2_with (refine wpList_mapUpdate_in _ rfl _ _ _ 76 rfl 77 4 keyedA Tryz.underlying76 (plainElem Tryz.prog 4) w.heap.size k D rfl hown2 (by unfold maxLen; omega) _ _ _ rfl rfl (keyA io iv) _ _ (plainElem_bool Tryz.underlying4 true) ?_; intro w3 hown3 hturn; have hb3 := Below.turned hb2 (Nat.le_refl _) hturn hb2.size; clear hturn hown2)
         go_roundw
         case rel => exact ⟨k + 1, _, by omega, by go_num, hb3, hown3, HSN.out.put HRK.out HB.out io iv (by obtain ⟨_, _, _, _, _, e⟩ := hown3; exact ⟨_, e⟩)⟩
         case measure => simp [intOf]; omega
   · obtain rfl : k = l.length := by omega
     clear hcell hown hsn
     go_wp2_with fail
     go_ret
     exact ⟨rfl, hb⟩
end Wld
end
end Go.Proofs.YtbebfliimjjohaaGreatDoor
