/-
  Parts of the proof: WrmI WrmJ WldQ.
-/
import Derived.Test.YtbebfliimjjohaaGreatDoorLi33
import Derived.Laws.CopyOwn
import Derived.Maps.RangeWalk
import Derived.Test.YtbebfliimjjohaaGreatDoorLi30
import Derived.Test.YtbebfliimjjohaaGreatDoorLi29
namespace Go.Proofs.YtbebfliimjjohaaGreatDoor
section
namespace Wld
open Go.RowKit Go.Maps
open Lease (HasI)
set_option maxHeartbeats 4000000 in
set_option maxRecDepth 100000 in
theorem mul64_any (c : Int) (hc : c = 2 ∨ c = 3 ∨ c = 4 ∨ c = 5) (w : World) :
   Calls Tryz.prog 87 #[.int .u64 1, .int .u64 c] w fun e w' => e = .returned (.tuple #[.int .u64 0, .int .u64 c]) ∧ w' = w := by
 rcases hc with rfl | rfl | rfl | rfl
 all_goals
   go_enter Tryz.func87, Tryz.ntmps87
   go_wp2_with fail
   exact bodyPost_ret (v := .tuple #[_, _]) (by simp [results, Tryz.results87, go_sem]; kernel_rfl) rfl ⟨rfl, rfl⟩
set_option maxHeartbeats 4000000 in
set_option maxRecDepth 100000 in
theorem mul_any (c : Int) (hc : c = 2 ∨ c = 3 ∨ c = 4 ∨ c = 5) (w : World) :
   Calls Tryz.prog 60 #[.int .u64 1, .int .u64 c] w fun e w' => e = .returned (.tuple #[.int .u64 0, .int .u64 c]) ∧ w' = w := by
 have hm := mul64_any c hc w
 have hw : IntKind.u64.wrap c = c := by rcases hc with rfl | rfl | rfl | rfl <;> rfl
 clear hc
 go_enter Tryz.func60, Tryz.ntmps60
 go_wp2_with fail
 refine hm.mono ?_
 rintro e w2 ⟨rfl, rfl⟩
 go_wp2_with fail
 exact bodyPost_ret (v := .tuple #[_, _]) (by simp [results, Tryz.results60, go_sem]) rfl ⟨rfl, rfl⟩
theorem info_int1 : (Tryz.prog.info? 3).map (·.size) = some 1 := by kernel_rfl
def onesC (c k : Nat) : List Value := List.replicate k (.int .i64 1) ++ List.replicate (c - k) (.int .i64 0)
structure Rp (w wr : World) (c k : Nat) : Prop where
 row : wr.heap[w.heap.size]? = some (.cells (onesC c k).toArray 3 (0, 0))
 below : Below w.heap.size w wr
theorem Rp.copy {w wr : World} {c k : Nat} (h : Rp w wr c k) (hk : k ≤ c) :
   (Builtin.copy_ #[87, 87] 3 #[.slice (some ⟨w.heap.size, k, none⟩) (c - k) (c - k), .slice (some ⟨w.heap.size, 0, none⟩) k c]).run Tryz.prog wr = .ok (.int .i64 (min k (c - k) : Nat)) (wr.setRow w.heap.size (onesC c (k + min k (c - k))).toArray) ∧ Rp w (wr.setRow w.heap.size (onesC c (k + min k (c - k))).toArray) c (k + min k (c - k)) := by
 refine ⟨?_, ⟨setRow_heap _ _ _ _ _ _ h.row, below_setRow h.below (Nat.le_refl _) _⟩⟩
 have hsrc : ∀ j v, (List.replicate (min k (c - k)) (Value.int .i64 1))[j]? = some v → wr.cell? ((⟨w.heap.size, 0, none⟩ : Addr).add j) = some v := by
   intro j v hj
   rw [List.getElem?_replicate] at hj
   split at hj
   · cases hj
     have : (onesC c k)[j]? = some (.int .i64 1) := by
       unfold onesC
       rw [List.getElem?_append_left (by simp; omega), List.getElem?_replicate, if_pos (by omega)]
     have q : (⟨w.heap.size, 0, none⟩ : Addr).add j = ⟨w.heap.size, j, none⟩ := by
       simp only [Addr.add]
       split <;> simp_all
     rw [q]
     simp [World.cell?, h.row, this]
   · cases hj
 have e := run_copy_row Tryz.prog wr 87 87 3 3 w.heap.size k (c - k) (c - k) ⟨w.heap.size, 0, none⟩ k c (onesC c k).toArray 3 (List.replicate (min k (c - k)) (.int .i64 1)) Tryz.underlying87 info_int1 h.row (by simp [Nat.min_def]) hsrc (by simp [onesC]; omega) (by intro v hv; rw [(List.mem_replicate.1 hv).2]; rfl)
 have e2 : (onesC c k).toArray.toList.take k ++ List.replicate (min k (c - k)) (.int .i64 1) ++ (onesC c k).toArray.toList.drop (k + (List.replicate (min k (c - k)) (Value.int .i64 1)).length) = onesC c (k + min k (c - k)) := by
   unfold onesC
   rw [List.length_replicate, List.take_append_of_le_length (by simp), List.take_of_length_le (by simp), List.replicate_append_replicate, List.drop_append, List.drop_eq_nil_of_le (by simp), List.drop_replicate]
   simp
   omega
 rw [e2] at e
 rw [e]
 simp [goInt]
set_option maxHeartbeats 4000000 in
set_option maxRecDepth 100000 in
theorem repeat_any (g c : Nat) (hc : c = 2 ∨ c = 3 ∨ c = 4 ∨ c = 5) (w : World) (h0 : w.cell? ⟨g, 0, none⟩ = some (.int .i64 1)) (hg : g < w.heap.size) :
   Calls Tryz.prog 39 #[.slice (some ⟨g, 0, none⟩) 1 1, .int .i64 c] w fun e w' => ∃ v, e = .returned v ∧ HasI w' w.heap.size v (List.replicate c 1) ∧ Below w.heap.size w w' := by
 obtain ⟨Z, hZ⟩ : ∃ Z, List.replicate c (Value.int .i64 0) = Z := ⟨_, rfl⟩
 have hZl : Z.length = c := by rw [← hZ]; simp
 have hmk : ∀ w, (Instr.makeSlice 87 (.int .i64 c) (.int .i64 c)).run Tryz.prog w = .ok (.slice (some ⟨w.heap.size, 0, none⟩) c c) (w.alloc (.cells Z.toArray 3)) := fun _ => by rw [← hZ]; rcases hc with rfl | rfl | rfl | rfl <;> kernel_rfl
 have hrw : (w.alloc (.cells Z.toArray 3)).heap[w.heap.size]? = some (.cells Z.toArray 3 (0, 0)) := by show (w.heap.push _)[w.heap.size]? = _; exact Array.getElem?_push_size ..
 have hcp := run_copy_row Tryz.prog (w.alloc (.cells Z.toArray 3)) 87 87 3 3 w.heap.size 0 c c ⟨g, 0, none⟩ 1 1 Z.toArray 3 [.int .i64 1] Tryz.underlying87 info_int1 hrw (by simp [Nat.min_def]; omega) (by
   intro j v hj
   match j, hj with
   | 0, hj =>
     cases hj
     exact (World.cell?_alloc_lt _ _ _ hg).trans h0) (by simp; omega) (by intro v hv; rw [List.mem_singleton.1 hv]; rfl)
 have hS : Rp w ((w.alloc (.cells Z.toArray 3)).setRow w.heap.size (Z.toArray.toList.take 0 ++ [Value.int .i64 1] ++ Z.toArray.toList.drop (0 + [Value.int .i64 1].length)).toArray) c 1 := by
   refine ⟨?_, below_setRow ((Below.refl _ _).alloc (Nat.le_refl _) _) (Nat.le_refl _) _⟩
   rw [setRow_heap _ _ Z.toArray _ 3 (0, 0) hrw, ← hZ]
   simp [onesC]
 generalize (w.alloc (.cells Z.toArray 3)).setRow w.heap.size (Z.toArray.toList.take 0 ++ [Value.int .i64 1] ++ Z.toArray.toList.drop (0 + [Value.int .i64 1].length)).toArray = w1 at hcp hS
 have HS0 : Hid (Rp w w1 c 1) := hS
 have hcp2 : (Builtin.copy_ #[87, 87] 3 #[.slice (some ⟨w.heap.size, 0, none⟩) c c, .slice (some ⟨g, 0, none⟩) 1 1]).run Tryz.prog (w.alloc (.cells Z.toArray 3)) = .ok (.int .i64 1) w1 := hcp
 clear hcp hS hrw hZ hZl
 have hm := mul_any c (by omega) w
 have hw1 : IntKind.u64.wrap (c : Int) = c := by rcases hc with rfl | rfl | rfl | rfl <;> rfl
 have hw2 : IntKind.i64.wrap (c : Int) = c := wrapI (by omega) (by omega)
 have hc0 : decide ((c : Int) < 0) = false := decide_eq_false (by omega)
 have hc1 : decide ((9223372036854775807 : Int) < (c : Int)) = false := decide_eq_false (by omega)
 go_enter Tryz.func39, Tryz.ntmps39
 go_wp2_with fail
 refine hm.mono ?_
 rintro e w2 ⟨rfl, rfl⟩
 go_wp2_with fail
 go_loopw [8] (fun i wr => ∃ k : Nat, 1 ≤ k ∧ k ≤ c ∧ i = .int .i64 k ∧ Rp w2 wr c k) (fun i _ => c - (intOf i).toNat)
 case atStart => exact ⟨1, by omega, by omega, rfl, HS0.out⟩
 case round =>
   obtain ⟨k, hk1, hk, rfl, D⟩ := hrel
   by_cases hlt : k < c
   · have hkI : (k : Int) < (c : Int) := by omega
     have hkI0 : (0 : Int) ≤ (k : Int) := by omega
     have hkI1 : (k : Int) ≤ (c : Int) := by omega
     have hck : ¬ c = k := by omega
     have hkw : IntKind.i64.wrap ((k : Int) + ((min k (c - k) : Nat) : Int)) = (k : Int) + ((min k (c - k) : Nat) : Int) := wrapI (by omega) (by omega)
     go_upto_region 9 with fail
     have RC := Rp.copy (wr := wr.drew) ⟨D.row, D.below.drew⟩ hk
     refine Gen.start (S := fun _ => True) (by kernel_rfl) trivial (fun hHeld => ?_)
     refine Gen.tk 0 8 ?_ rfl rfl (Or.inl ⟨by rfl, ?_⟩) hHeld ?_
     rotate_left
     · intro w' hSw
       go_simp
       try with_reducible rfl
     go_frame
     refine Gen.tk 1 3 ?_ rfl rfl (Or.inl ⟨by rfl, ?_⟩) hHeld ?_
     rotate_left
     · intro w' hSw
       go_simp
       try with_reducible rfl
     go_frame
     refine Gen.tk 2 3 ?_ rfl rfl (Or.inl ⟨by rfl, ?_⟩) hHeld ?_
     rotate_left
     · intro w' hSw
       go_simp
       try with_reducible rfl
     go_frame
     refine Gen.tk 3 7 ?_ rfl rfl (Or.inl ⟨by rfl, ?_⟩) hHeld ?_
     rotate_left
     · intro w' hSw
       go_simp
       try with_reducible rfl
     go_frame
     refine Gen.tk 4 6 ?_ rfl rfl (Or.inl ⟨by rfl, ?_⟩) hHeld ?_
     rotate_left
     · intro w' hSw
       go_simp
       try with_reducible rfl
     go_frame
     refine Gen.tk 5 6 ?_ rfl rfl (Or.inl ⟨by rfl, ?_⟩) hHeld ?_
     rotate_left
     · intro w' hSw
       go_simp
       try with_reducible rfl
     go_frame
     refine Gen.tk 6 7 ?_ rfl rfl (Or.inl ⟨by rfl, ?_⟩) hHeld ?_
     rotate_left
     · intro w' hSw
       go_simp
       try with_reducible rfl
     go_frame
     refine Gen.one (i := 7) (by kernel_rfl) rfl rfl (fun K hK => ?_)
     go_simp
     refine hK.out _ _ trivial (fun hHeld => ?_)
     clear hK K
     try go_frame
     have HN : Hid (Rp w2 (wr.drew.setRow w2.heap.size (onesC c (k + min k (c - k))).toArray) c (k + min k (c - k))) := RC.2
     have hpos : 0 < min k (c - k) := by omega
     have hle : k + min k (c - k) ≤ c := by omega
     clear RC
     generalize wr.drew.setRow w2.heap.size (onesC c (k + min k (c - k))).toArray = w5 at *
     generalize min k (c - k) = j at *
     refine Gen.tk 8 9 ?_ rfl rfl (Or.inl ⟨by rfl, ?_⟩) hHeld ?_
     rotate_left
     · intro w' hSw
       go_simp
       try with_reducible rfl
     go_frame
     refine Gen.last (i := 9) (by kernel_rfl) rfl rfl (by kernel_rfl) (by kernel_rfl) (fun K hK => ?_)
     go_simp
     refine hK.out _ _ ?_
     clear hK K hHeld D HS0 hcp2
     go_wp2_with fail
     go_roundw
     case rel => exact ⟨k + j, by omega, by omega, by go_num, HN.out⟩
     case measure => simp [intOf]; omega
   · obtain rfl : k = c := by omega
     have HD : Hid (HasI wr w2.heap.size (.slice (some ⟨w2.heap.size, 0, none⟩) k k) (List.replicate k 1) ∧ Below w2.heap.size w2 wr) := by
       refine ⟨?_, D.below⟩
       unfold Lease.HasI
       rw [List.length_replicate, List.map_replicate]
       exact ⟨by simp, .inr ⟨w2.heap.size, k, (onesC k k).toArray, rfl, Nat.le_refl _, D.row, Nat.le_refl _, by unfold maxLen; omega, by simp [onesC], by simp [onesC]⟩⟩
     clear D HS0 hcp2
     go_wp2_with fail
     go_ret
     exact ⟨_, rfl, HD.out⟩
end Wld
end
section
namespace Wld
open Go.RowKit Go.Maps
open Lease (HasI)
open Cache (tp)
def CalmOk (t : Wd) : Prop := (t.sv = none → t.rs.length < 200) ∧ ∀ r ∈ t.rs, 0 ≤ r.c ∧ r.o < 8
theorem WdB.restart' {w : Wd} {C : Nat} (h : WdB w C) (hl : w.sv = none → w.rs.length < 200) : WdB w.restart (C + 1) := by
 cases hs : w.sv with
 | none => exact h.restart (hl hs)
 | some v =>
   unfold Wd.restart
   rw [hs]
   exact h.mono (by omega)
theorem WdB.calmed {s : Wd} {C : Nat} (h : WdB s C) (n4 : s.n ≤ 4) (hok : CalmOk s) : WdB s.calm1 (C + 18000) := by
 have h1 := (h.restart' hok.1).calmK s.n (by rw [restart_n]; exact Nat.le_refl _)
 have h2 := h1.goes (b := 1) (f := fun k => if k < s.n then 1 else 0) (by omega) (fun i _ => by split <;> omega)
 exact h2.drained.mono (by omega)
theorem WdB.calm {s : Wd} {C : Nat} (h : WdB s C) (n4 : s.n ≤ 4) : ∀ r, (∀ j, j < r → CalmOk (s.calm j)) → WdB (s.calm r) (C + 18000 * r)
 | 0, _ => h
 | r + 1, hok => ((WdB.calm h n4 r fun j hj => hok j (by omega)).calmed (by rw [calm_n]; exact n4) (hok r (by omega))).mono (by omega)
structure Ca (w wr : World) (A : Wa) (s t : Wd) (B : Nat) (v : Value) (a : Ad) : Prop where
 wd : WdIs wr { A with a := a } t
 fz : Fz A s w { A with a := a } t wr
 row : HasI wr B v (List.replicate (s.n + 1) 1)
theorem Ca.next {w wr w' : World} {A : Wa} {s t t' : Wd} {B : Nat} {v : Value} {a a' : Ad} (h : Ca w wr A s t B v a) (hw : WdIs w' { A with a := a' } t') (hz : Fz { A with a := a } t wr { A with a := a' } t' w') : Ca w w' A s t' B v a' :=
 ⟨hw, h.fz.trans hz, int_row h.wd h.row hz⟩
set_option maxHeartbeats 4000000 in
set_option maxRecDepth 100000 in
theorem calm_any (A : Wa) (s : Wd) (C rounds : Nat) (w : World) (h : WdIs w A s) (hB : WdB s C) (hC : C + 18000 * rounds ≤ 800000000) (hok : ∀ j, j < rounds → CalmOk (s.calm j)) :
   Calls Tryz.prog 17 #[tp A.Q, .int .i64 rounds] w fun e w' => e = .returned (.tuple #[]) ∧ ∃ a, WdIs w' { A with a := a } (s.calm rounds) ∧ Fz A s w { A with a := a } (s.calm rounds) w' := by
 have n4 := h.n4
 have n1 := h.n1
 have hb1 : Below w.heap.size w (w.alloc (.cells #[.int .i64 1] 3)) := (Below.refl _ _).alloc (Nat.le_refl _) _
 have hc1 : (w.alloc (.cells #[.int .i64 1] 3)).cell? ⟨w.heap.size, 0, none⟩ = some (.int .i64 1) := by simp
 have hg1 : w.heap.size < (w.alloc (.cells #[.int .i64 1] 3)).heap.size := by simp
 have hre := repeat_any w.heap.size (s.n + 1) (by omega) _ hc1 hg1
 have hcast : ((s.n + 1 : Nat) : Int) = 1 + (s.n : Int) := by omega
 rw [hcast] at hre
 have hw1 : IntKind.i64.wrap (1 + (s.n : Int)) = 1 + (s.n : Int) := wrapI (by omega) (by omega)
 obtain ⟨x1, x2⟩ := h.below hb1
 have sts := x1.core.sts
 have sts0 := h.core.sts
 have HB : Hid (∀ r, r ≤ rounds → WdB (s.calm r) (C + 18000 * r)) := fun r hr => hB.calm n4 r fun j hj => hok j (by omega)
 have HX : Hid (WdIs (w.alloc (.cells #[.int .i64 1] 3)) A s ∧ Fz A s w A s (w.alloc (.cells #[.int .i64 1] 3))) := ⟨x1, x2⟩
 clear x1 x2 hc1 hg1 hb1 hB h hcast
 go_enter Tryz.func17, Tryz.ntmps17
 go_wp2_with fail
 refine hre.mono ?_
 rintro e w2 ⟨v, rfl, hrow, hb2⟩
 have HS0 : Hid (Ca w w2 A s s (w.alloc (.cells #[.int .i64 1] 3)).heap.size v A.a) := by
   obtain ⟨x1, x2⟩ := HX.out
   obtain ⟨y1, y2⟩ := x1.below hb2
   exact ⟨y1, x2.trans y2, hrow⟩
 generalize (w.alloc (.cells #[.int .i64 1] 3)).heap.size = B at *
 clear hre hrow hb2 HX sts sts0
 go_wp2_with fail
 go_loopw [15] (fun i wr => ∃ (r : Nat) (a : Ad), r ≤ rounds ∧ i = .int .i64 r ∧ Ca w wr A s (s.calm r) B v a) (fun i _ => rounds - (intOf i).toNat)
 case atStart => exact ⟨0, A.a, by omega, rfl, HS0.out⟩
 case round =>
   obtain ⟨r, a, hr, rfl, D⟩ := hrel
   by_cases hlt : r < rounds
   · have hrI : (r : Int) < (rounds : Int) := by omega
     have HE : Hid (s.calm (r + 1) = (((s.calm r).restart.calmK s.n).goes 1 fun k => if k < s.n then 1 else 0).drained) := by
       unfold Hid
       show (s.calm r).calm1 = _
       unfold Wd.calm1
       rw [calm_n]
     have hBr := HB.out r (by omega)
     have hokr := hok r hlt
     have hnr := calm_n s r
     generalize s.calm r = t at *
     have hre := restart_any { A with a := a } t _ wr D.wd hBr (by omega) hokr.1 hokr.2
     have HBK : Hid (∀ k, k ≤ s.n → WdB (t.restart.calmK k) (C + 18000 * r + 1 + 3562 * k)) := fun k hk => (hBr.restart' hokr.1).calmK k (by rw [restart_n, hnr]; exact hk)
     have HNK : Hid (∀ k, (t.restart.calmK k).n = s.n) := fun k => by rw [calmK_n, restart_n, hnr]
     have HD : Hid (Ca w wr A s t B v a) := D
     clear D hBr hokr hnr
     go_wp2_with fail
     refine hre.mono ?_
     rintro e w3 ⟨he, a3, W3, Z3⟩
     generalize eV (if t.sv.isSome = true then 6 else 0) = ev at he
     subst he
     have HD3 : Hid (Ca w w3 A s (t.restart.calmK 0) B v a3) := HD.out.next W3 Z3
     have sts := W3.core.sts
     rw [show t.restart.n = s.n from HNK.out 0] at sts
     clear hre W3 Z3 HD
     go_wp2_with fail
     go_loopw [24] (fun i wr => ∃ k : Nat, k ≤ s.n ∧ i = .int .i64 k ∧ Ca w wr A s (t.restart.calmK k) B v a3) (fun i _ => s.n - (intOf i).toNat)
     case atStart => exact ⟨0, by omega, rfl, HD3.out⟩
     case round =>
       obtain ⟨k, hk, rfl, D⟩ := hrel
       by_cases hkn : k < s.n
       · have hkI : (k : Int) < (s.n : Int) := by omega
         have hBk := HBK.out k (by omega)
         have hnk := HNK.out k
         have HEK : Hid (t.restart.calmK (k + 1) = ((t.restart.calmK k).again k).drained) := rfl
         generalize t.restart.calmK k = u at *
         have hag := againW_any { A with a := a3 } u k _ _ D.wd (by omega) hBk (by omega)
         have hBa := hBk.again (i := k) (by omega)
         clear hBk hnk
         have HD : Hid (Ca w wr A s u B v a3) := D
         clear D HD3
         go_wp2_with fail
         refine hag.mono ?_
         rintro e w4 ⟨rfl, W4, Z4⟩
         have HD4 : Hid (Ca w w4 A s (u.again k) B v a3) := HD.out.next W4 Z4
         have hda := deliverAll_any { A with a := a3 } (u.again k) _ w4 W4 hBa (by omega)
         clear hag W4 Z4 HD
         go_wp2_with fail
         refine hda.mono ?_
         rintro e w5 ⟨rfl, W5, Z5⟩
         have HD5 : Hid (Ca w w5 A s (u.again k).drained B v a3) := HD4.out.next W5 Z5
         clear hda W5 Z5 HD4 hBa
         go_wp2_with fail
         go_roundw
         case rel =>
           refine ⟨k + 1, by omega, by go_num, ?_⟩
           rw [HEK.out]
           exact HD5.out
         case measure => simp [intOf]; omega
       · obtain rfl : k = s.n := by omega
         have hBk := HBK.out s.n (by omega)
         have hnk := HNK.out s.n
         generalize t.restart.calmK s.n = u at *
         have hgo := goesW_any { A with a := a3 } u _ B v (List.replicate (s.n + 1) 1) _ D.wd hBk (by omega) D.row (by rw [List.length_replicate]; omega) (fun x hx => by rw [(List.mem_replicate.1 hx).2]; omega) 1 (by simp) (fun k => if k < s.n then 1 else 0) (fun k => by
           rw [List.getD_eq_getElem?_getD, List.getElem?_replicate]
           by_cases q : k < s.n
           · rw [if_pos (by omega), if_pos q]; rfl
           · rw [if_neg (by omega), if_neg q]; rfl)
         have hBa := hBk.goes (b := 1) (f := fun k => if k < s.n then 1 else 0) (by omega) (fun i _ => by split <;> omega)
         have HD : Hid (Ca w wr A s u B v a3) := D
         clear D HD3 hBk hnk
         generalize (u.goes 1 fun k => if k < s.n then 1 else 0) = u2 at *
         go_wp2_with fail
         refine hgo.mono ?_
         rintro e w4 ⟨rfl, W4, Z4⟩
         have HD4 : Hid (Ca w w4 A s u2 B v a3) := HD.out.next W4 Z4
         have hda := deliverAll_any { A with a := a3 } u2 _ w4 W4 hBa (by omega)
         clear hgo W4 Z4 HD
         go_wp2_with fail
         refine hda.mono ?_
         rintro e w5 ⟨rfl, W5, Z5⟩
         have HD5 : Hid (Ca w w5 A s u2.drained B v a3) := HD4.out.next W5 Z5
         clear hda W5 Z5 HD4 hBa
         go_wp2_with fail
         go_roundw
         case rel =>
           refine ⟨r + 1, a3, by omega, by go_num, ?_⟩
           rw [HE.out]
           exact HD5.out
         case measure => simp [intOf]; omega
   · obtain rfl : r = rounds := by omega
     have HD : Hid (Ca w wr A s (s.calm r) B v a) := D
     clear D HS0
     go_wp2_with fail
     go_end0
     exact ⟨rfl, a, HD.out.wd, HD.out.fz⟩
end Wld
end
section
namespace Wld
open Go.RowKit Go.Maps
open Lease (upd upd_same upd_other hol dels mx kk)
open Wal (R mayB timeB)
open Num (M okB)
structure Hc where
 c : Int
 n : Int
 kd : Int
 o : Int
 d : ByteArray
 lo : Int
structure L4 where
 vv : Nat → Int
 vd : Nat → ByteArray
 last : Nat → R
 ep : Int
def L4.zero : L4 := ⟨fun _ => 0, fun _ => ⟨#[]⟩, fun _ => ⟨0, 0, 0, 0, ⟨#[]⟩, 0⟩, 0⟩
def L4.app (x : L4) (r : R) : L4 :=
 if r.o < 0 then { x with ep := r.e } else
 if later r.c r.n (x.last (seatN r.c)) = true then { x with vd := updN x.vd r.o.toNat r.d, vv := updN x.vv r.o.toNat r.v, last := updN x.last (seatN r.c) r }
 else { x with vd := updN x.vd r.o.toNat r.d, vv := updN x.vv r.o.toNat r.v }
def logL (rs : List R) : L4 := rs.foldl L4.app L4.zero
def Sv.l4 (s : Sv) : L4 := ⟨s.vv, s.vd, s.last, s.epoch⟩
theorem applied_l4 (s : Sv) (r : R) : (s.applied r).l4 = s.l4.app r := by
 unfold Sv.applied L4.app
 by_cases h : r.o < 0
 · rw [if_pos h, if_pos h]; rfl
 · rw [if_neg h, if_neg h]
   by_cases k : later r.c r.n (s.last (seatN r.c)) = true
   · rw [if_pos k, if_pos (show later r.c r.n (s.l4.last (seatN r.c)) = true from k)]; rfl
   · rw [if_neg k, if_neg (show ¬ later r.c r.n (s.l4.last (seatN r.c)) = true from k)]; rfl
theorem foldl_l4 : ∀ (l : List R) (s : Sv), (l.foldl Sv.applied s).l4 = l.foldl L4.app s.l4
 | [], _ => rfl
 | r :: l, s => by rw [List.foldl_cons, List.foldl_cons, foldl_l4 l, applied_l4]
theorem logL_app (rs : List R) (r : R) : logL (rs ++ [r]) = (logL rs).app r := by simp [logL, List.foldl_append]
structure LogIs (H : List Hc) (rs : List R) (x : L4) : Prop where
 wr : ∀ r ∈ rs, 0 ≤ r.o → r.o < 8 ∧ ∃ h ∈ H, h.c = r.c ∧ h.n = r.n ∧ h.kd = 2 ∧ h.o = r.o ∧ h.d = r.d ∧ h.lo < r.v
 ver : ∀ r ∈ rs, 0 ≤ r.o → 1 ≤ r.v ∧ r.v ≤ x.vv r.o.toNat
 uv : ∀ r ∈ rs, ∀ r' ∈ rs, 0 ≤ r.o → r.o = r'.o → r.v = r'.v → r = r'
 uc : rs.Pairwise fun a b => 0 ≤ a.o → 0 ≤ b.o → ¬ (a.c = b.c ∧ a.n = b.n)
 cur : ∀ o : Nat, (x.vv o = 0 ∧ x.vd o = ⟨#[]⟩) ∨ ∃ r ∈ rs, r.o = o ∧ r.v = x.vv o ∧ r.d = x.vd o
 las : ∀ r ∈ rs, 0 ≤ r.o → later r.c r.n (x.last (seatN r.c)) = false
 lin : ∀ k, (x.last k) = ⟨0, 0, 0, 0, ⟨#[]⟩, 0⟩ ∨ ((x.last k) ∈ rs ∧ 0 ≤ (x.last k).o)
 eps : ∀ r ∈ rs, r.o < 0 → r.e ≤ x.ep ∧ 0 ≤ r.c
 ep0 : 0 ≤ x.ep
theorem LogIs.zero (H : List Hc) : LogIs H [] L4.zero := ⟨by simp, by simp, by simp, by simp, fun _ => .inl ⟨rfl, rfl⟩, by simp, fun _ => .inl rfl, by simp, Int.le_refl 0⟩
theorem later_irr (r : R) : later r.c r.n r = false := by simp [later]
theorem later_trans {c n : Int} {a b : R} (h : later c n a = false) (k : later b.c b.n a = true) : later c n b = false := by
 simp only [later, Bool.or_eq_false_iff, Bool.or_eq_true, decide_eq_true_eq, decide_eq_false_iff_not, Bool.and_eq_true, Bool.and_eq_false_iff] at *
 omega
theorem LogIs.more {H : List Hc} {rs : List R} {x : L4} (h : LogIs H rs x) {r : R} (h0 : 0 ≤ r.o) (h8 : r.o < 8) (hv : r.v = x.vv r.o.toNat + 1) (hv0 : 0 ≤ x.vv r.o.toNat) {g : Hc} (hg : g ∈ H) (g1 : g.c = r.c) (g2 : g.n = r.n) (g3 : g.kd = 2) (g4 : g.o = r.o) (g5 : g.d = r.d) (g6 : g.lo ≤ x.vv r.o.toNat)
   (hn : ∀ a ∈ rs, 0 ≤ a.o → ¬ (a.c = r.c ∧ a.n = r.n)) : LogIs H (rs ++ [r]) (x.app r) := by
 have hneg : ¬ r.o < 0 := by omega
 have evv : (x.app r).vv = updN x.vv r.o.toNat r.v := by
   unfold L4.app; rw [if_neg hneg]; split <;> rfl
 have evd : (x.app r).vd = updN x.vd r.o.toNat r.d := by
   unfold L4.app; rw [if_neg hneg]; split <;> rfl
 have eep : (x.app r).ep = x.ep := by
   unfold L4.app; rw [if_neg hneg]; split <;> rfl
 have ela : (x.app r).last = if later r.c r.n (x.last (seatN r.c)) = true then updN x.last (seatN r.c) r else x.last := by
   unfold L4.app; rw [if_neg hneg]; split <;> rfl
 have old : ∀ a ∈ rs, 0 ≤ a.o → a.o = r.o → a.v < r.v := fun a ha a0 e => by
   have := (h.ver a ha a0).2
   rw [e] at this
   omega
 refine ⟨?_, ?_, ?_, ?_, ?_, ?_, ?_, ?_, by rw [eep]; exact h.ep0⟩
 · intro a ha a0
   rcases List.mem_append.1 ha with q | q
   · exact h.wr a q a0
   · rw [List.mem_singleton.1 q]; exact ⟨h8, g, hg, g1, g2, g3, g4, g5, by omega⟩
 · intro a ha a0
   rw [evv]
   rcases List.mem_append.1 ha with q | q
   · have := h.ver a q a0
     unfold updN
     split
     · rename_i e
       have : a.v < r.v := old a q a0 (by omega)
       omega
     · exact this
   · rw [List.mem_singleton.1 q, updN_same]; omega
 · intro a ha b hb a0 e1 e2
   rcases List.mem_append.1 ha with q | q <;> rcases List.mem_append.1 hb with p | p
   · exact h.uv a q b p a0 e1 e2
   · rw [List.mem_singleton.1 p] at e1 e2
     have := old a q a0 e1
     omega
   · rw [List.mem_singleton.1 q] at e1 e2
     have := old b p (by omega) e1.symm
     omega
   · rw [List.mem_singleton.1 p, List.mem_singleton.1 q]
 · rw [List.pairwise_append]
   refine ⟨h.uc, by simp, fun a ha b hb a0 _ => ?_⟩
   rw [List.mem_singleton.1 hb]
   exact hn a ha a0
 · intro o
   rw [evv, evd]
   by_cases e : o = r.o.toNat
   · subst e
     rw [updN_same, updN_same]
     exact .inr ⟨r, by simp, by omega, rfl, rfl⟩
   · rw [updN_other _ _ e, updN_other _ _ e]
     exact (h.cur o).imp id fun ⟨a, ha, k⟩ => ⟨a, List.mem_append_left _ ha, k⟩
 · intro a ha a0
   rw [ela]
   rcases List.mem_append.1 ha with q | q
   · have k := h.las a q a0
     split
     · rename_i hl
       by_cases e : seatN a.c = seatN r.c
       · rw [e, updN_same]; rw [e] at k; exact later_trans k hl
       · rw [updN_other _ _ e]; exact k
     · exact k
   · rw [List.mem_singleton.1 q]
     split
     · rw [updN_same]; exact later_irr r
     · rename_i hl; simpa using hl
 · intro k
   rw [ela]
   split
   · by_cases e : k = seatN r.c
     · subst e; rw [updN_same]; exact .inr ⟨by simp, h0⟩
     · rw [updN_other _ _ e]; exact (h.lin k).imp id fun p => ⟨List.mem_append_left _ p.1, p.2⟩
   · exact (h.lin k).imp id fun p => ⟨List.mem_append_left _ p.1, p.2⟩
 · intro a ha a0
   rw [eep]
   rcases List.mem_append.1 ha with q | q
   · exact h.eps a q a0
   · rw [List.mem_singleton.1 q] at a0; omega
theorem LogIs.epoch {H : List Hc} {rs : List R} {x : L4} (h : LogIs H rs x) (e : Int) (he : x.ep ≤ e) : LogIs H (rs ++ [epochR e]) (x.app (epochR e)) := by
 have ex : x.app (epochR e) = { x with ep := e } := rfl
 have eo : (epochR e).o = -1 := rfl
 rw [ex]
 refine ⟨?_, ?_, ?_, ?_, ?_, ?_, ?_, ?_, Int.le_trans h.ep0 he⟩
 · intro a ha a0
   rcases List.mem_append.1 ha with q | q
   · exact h.wr a q a0
   · rw [List.mem_singleton.1 q, eo] at a0; omega
 · intro a ha a0
   rcases List.mem_append.1 ha with q | q
   · exact h.ver a q a0
   · rw [List.mem_singleton.1 q, eo] at a0; omega
 · intro a ha b hb a0 e1 e2
   rcases List.mem_append.1 ha with q | q <;> rcases List.mem_append.1 hb with p | p
   · exact h.uv a q b p a0 e1 e2
   · rw [List.mem_singleton.1 p, eo] at e1; omega
   · rw [List.mem_singleton.1 q, eo] at a0; omega
   · rw [List.mem_singleton.1 q, eo] at a0; omega
 · rw [List.pairwise_append]
   refine ⟨h.uc, by simp, fun a ha b hb _ b0 => ?_⟩
   rw [List.mem_singleton.1 hb, eo] at b0; omega
 · intro o
   exact (h.cur o).imp id fun ⟨a, ha, k⟩ => ⟨a, List.mem_append_left _ ha, k⟩
 · intro a ha a0
   rcases List.mem_append.1 ha with q | q
   · exact h.las a q a0
   · rw [List.mem_singleton.1 q, eo] at a0; omega
 · intro k
   exact (h.lin k).imp id fun p => ⟨List.mem_append_left _ p.1, p.2⟩
 · intro a ha a0
   rcases List.mem_append.1 ha with q | q
   · have := h.eps a q a0
     show a.e ≤ e ∧ 0 ≤ a.c
     omega
   · rw [List.mem_singleton.1 q]; exact ⟨Int.le_refl _, Int.le_refl 0⟩
theorem LogIs.mono {H H' : List Hc} {rs : List R} {x : L4} (h : LogIs H rs x) (hH : ∀ g ∈ H, g ∈ H') : LogIs H' rs x :=
 ⟨fun r hr r0 => ⟨(h.wr r hr r0).1, (h.wr r hr r0).2.imp fun g k => ⟨hH g k.1, k.2⟩⟩, h.ver, h.uv, h.uc, h.cur, h.las, h.lin, h.eps, h.ep0⟩
theorem LogIs.vv0 {H : List Hc} {rs : List R} {x : L4} (h : LogIs H rs x) (o : Nat) : 0 ≤ x.vv o := by
 rcases h.cur o with k | ⟨r, hr, e1, e2, _⟩
 · omega
 · have := (h.ver r hr (by omega)).1; omega
theorem nodup_le : ∀ (n : Nat) (l : List Nat), l.Nodup → (∀ x ∈ l, x < n) → l.length ≤ n
 | 0, l, _, h => by
   cases l with
   | nil => simp
   | cons a l => exact absurd (h a (by simp)) (by omega)
 | n + 1, l, hn, h => by
   have h1 : (l.filter (fun x => decide (x ≠ n))).length ≤ n := nodup_le n _ (hn.filter _) fun x hx => by
     have h2 := List.mem_filter.1 hx
     have h3 := h x h2.1
     have h4 : x ≠ n := by simpa using h2.2
     omega
   have h5 : ∀ (l : List Nat), l.Nodup → l.length ≤ (l.filter (fun x => decide (x ≠ n))).length + 1 := by
     intro l
     induction l with
     | nil => simp
     | cons a l ih =>
       intro hd
       have hd' := List.nodup_cons.1 hd
       by_cases e : a = n
       · have e2 : l.filter (fun x => decide (x ≠ n)) = l := List.filter_eq_self.2 fun x hx => by
           have : x ≠ n := by rintro rfl; subst e; exact hd'.1 hx
           simpa using this
         rw [List.filter_cons, if_neg (by simp [e]), e2]
         simp
       · rw [List.filter_cons, if_pos (by simpa using e)]
         have := ih hd'.2
         simp only [List.length_cons]
         omega
   have := h5 l hn
   omega
theorem exists_idx {H : List Hc} {g : Hc} (h : g ∈ H) : ∃ i : Nat, H[i]? = some g := List.getElem?_of_mem h
theorem LogIs.count {H : List Hc} {rs : List R} {x : L4} (h : LogIs H rs x) : (rs.filter fun r => decide (0 ≤ r.o)).length ≤ H.length := by
 have key : ∀ (l : List R), (∀ r ∈ l, r ∈ rs ∧ 0 ≤ r.o) → (l.Pairwise fun a b => 0 ≤ a.o → 0 ≤ b.o → ¬ (a.c = b.c ∧ a.n = b.n)) → ∃ is : List Nat, is.length = l.length ∧ is.Nodup ∧ (∀ i ∈ is, i < H.length) ∧ ∀ i ∈ is, ∃ g, H[i]? = some g ∧ ∃ r ∈ l, g.c = r.c ∧ g.n = r.n := by
   intro l
   induction l with
   | nil => exact fun _ _ => ⟨[], rfl, by simp, by simp, by simp⟩
   | cons r l ih =>
     intro hl hp
     obtain ⟨is, h1, h2, h3, h4⟩ := ih (fun r hr => hl r (List.mem_cons_of_mem _ hr)) (List.pairwise_cons.1 hp).2
     obtain ⟨_, g, hg, g1, g2, _⟩ := h.wr r (hl r (by simp)).1 (hl r (by simp)).2
     obtain ⟨i, hi⟩ := exists_idx hg
     have hlt : i < H.length := (List.getElem?_eq_some_iff.1 hi).1
     refine ⟨i :: is, by simp [h1], List.nodup_cons.2 ⟨fun hm => ?_, h2⟩, ?_, ?_⟩
     · obtain ⟨g', hg', r', hr', e1, e2⟩ := h4 i hm
       rw [hi] at hg'
       injection hg' with hg'
       subst hg'
       exact (List.pairwise_cons.1 hp).1 r' hr' (hl r (by simp)).2 (hl r' (List.mem_cons_of_mem _ hr')).2 ⟨by omega, by omega⟩
     · intro j hj
       rcases List.mem_cons.1 hj with e | e
       · omega
       · exact h3 j e
     · intro j hj
       rcases List.mem_cons.1 hj with e | e
       · subst e; exact ⟨g, hi, r, by simp, g1, g2⟩
       · obtain ⟨g', hg', r', hr', e'⟩ := h4 j e
         exact ⟨g', hg', r', List.mem_cons_of_mem _ hr', e'⟩
 obtain ⟨is, h1, h2, h3, _⟩ := key (rs.filter fun r => decide (0 ≤ r.o)) (fun r hr => by have := List.mem_filter.1 hr; exact ⟨this.1, by simpa using this.2⟩) (h.uc.filter _)
 have := nodup_le H.length is h2 h3
 omega
end Wld
end
end Go.Proofs.YtbebfliimjjohaaGreatDoor
