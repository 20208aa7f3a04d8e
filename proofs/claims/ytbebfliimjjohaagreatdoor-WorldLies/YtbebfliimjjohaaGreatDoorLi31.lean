/-
  Parts of the proof: WrmD.
-/
import Derived.Test.YtbebfliimjjohaaGreatDoorLi30
import Derived.Maps.RangeWalk
namespace Go.Proofs.YtbebfliimjjohaaGreatDoor
section
namespace Wld
open Go.RowKit Go.Maps
open Lease (Ob I64 upd TabIs hol dels objB HasI map_block map_ne mx)
open Cache (tp row_kept row_below)
open Wal (R WalIs DiskIs Oq Fw rcells)
open Num (M okB strOf ints)
open Net (NetIs Only pcells)
theorem freeE_range {k : K} {o : Int} (h : k.freeE o = 0) : 0 ≤ o ∧ o ≤ 7 := by
 unfold K.freeE at h
 split at h
 · cases h
 · split at h
   · rename_i hb
     simp [Lease.objB, Num.inB] at hb
     omega
   · cases h
structure Begun (w w' : World) (A : Wa) (s : Wd) (k : Nat) (c : K) : Prop where
 wd : WdIs w' A (s.setK k c)
 fz : Fz A s w A (s.setK k c) w'
theorem setK_same (s : Wd) (k : Nat) : s.setK k (s.seat k).k = s := by
 unfold Wd.setK
 have : updN s.seat k { s.seat k with k := (s.seat k).k } = s.seat := by
   funext j
   unfold updN
   split
   · rename_i e; rw [e]
   · rfl
 rw [this]
def K.readK (k : K) (o now : Int) : K := if k.freeE o = 0 then k.reads o now else k
def K.writeK (k : K) (o : Int) (d : ByteArray) (now : Int) : K := if k.writeE o d = 0 then k.begin 2 o d 0 false false now else k
theorem readK_any (c m : Nat) (k : K) (o now : Int) (C : Nat) (w : World) (h : CliIs w c m k) (hB : KB k C) (hC : C ≤ 100000000000) :
   Calls Tryz.prog 43 #[tp c, .int .i64 o, .int .i64 now] w fun e w' => e = .returned (eV (k.freeE o)) ∧ CliIs w' c m (k.readK o now) ∧ Ob [c, m] w w' := by
 unfold K.readK
 by_cases he : k.freeE o = 0
 · rw [if_pos he, he]
   obtain ⟨h0, h7⟩ := freeE_range he
   exact Read_ok c m k o now w h he hB.num0 (by have := hB.num; omega) h0 h7 (by have := hB.n; omega) (fun x hx => (hB.kv x hx).1) _ rfl
 · rw [if_neg he]
   refine (Read_bad c m k o now w h he).mono ?_
   rintro e w' ⟨rfl, rfl⟩
   exact ⟨rfl, h, Ob.refl _ _⟩
theorem writeK_any (c m : Nat) (k : K) (o : Int) (d : ByteArray) (now : Int) (C : Nat) (w : World) (h : CliIs w c m k) (hB : KB k C) (hC : C ≤ 100000000000) (hd : d.size ≤ 1000000) :
   Calls Tryz.prog 38 #[tp c, .int .i64 o, .string d, .int .i64 now] w fun e w' => e = .returned (eV (k.writeE o d)) ∧ CliIs w' c m (k.writeK o d now) ∧ Ob [c, m] w w' := by
 unfold K.writeK
 by_cases he : k.writeE o d = 0
 · rw [if_pos he, he]
   exact Write_ok c m k o d now w h he hB.num0 (by have := hB.num; omega)
 · rw [if_neg he]
   refine (Write_bad c m k o d now w h hd he).mono ?_
   rintro e w' ⟨rfl, rfl⟩
   exact ⟨rfl, h, Ob.refl _ _⟩
set_option maxHeartbeats 4000000 in
set_option maxRecDepth 100000 in
theorem readC_any (A : Wa) (s : Wd) (k p C : Nat) (o : Int) (w : World) (h : WdIs w A s) (hk : k < s.n) (hB : WdB s C) (hC : C ≤ 100000000000) (hp : w.cell? ⟨p, 0, none⟩ = some (.int .i64 o)) (hpc : p ≠ A.c k ∧ p ≠ A.m k) :
   Calls Tryz.prog 42 #[.pointer (some ⟨A.G, k * 4, none⟩), tp p] w fun e w' => e = .returned (eV ((s.seat k).k.freeE o)) ∧ Begun w w' A s k ((s.seat k).k.readK o (s.seat k).clock) := by
 obtain ⟨z1, z2⟩ := h.below (Below.refl w.heap.size w).drew
 have hrd := readK_any (A.c k) (A.m k) (s.seat k).k o (s.seat k).clock C w.drew (z1.cli k hk) (hB.st k hk).k hC
 have c0 := (h.seats k hk).c0
 have c1 := (h.seats k hk).c1
 have HX : Hid (∀ w2, CliIs w2 (A.c k) (A.m k) ((s.seat k).k.readK o (s.seat k).clock) → Ob [A.c k, A.m k] w.drew w2 → Begun w w2 A s k ((s.seat k).k.readK o (s.seat k).clock)) := fun w2 h1 h2 => by
   obtain ⟨y1, y2⟩ := z1.client hk h1 h2
   exact ⟨y1, z2.trans y2⟩
 have hpp : ∀ w2, Ob [A.c k, A.m k] w.drew w2 → w2.cell? ⟨p, 0, none⟩ = some (.int .i64 o) := fun w2 h2 => (World.cell?_of_block (a := ⟨p, 0, none⟩) (h2.block p (World.block_lt_of_cell? _ _ hp) (by simp [hpc.1, hpc.2]))).trans hp
 clear h z1 z2 hB
 go_enter Tryz.func42, Tryz.ntmps42
 go_upto_region 1 with fail
 refine Gen.start (S := fun w' => w'.cell? ⟨A.G, k * 4, none⟩ = some (tp (A.c k)) ∧ w'.cell? ⟨A.G, k * 4 + 1, none⟩ = some (.int .i64 (s.seat k).clock) ∧ w'.cell? ⟨p, 0, none⟩ = some (.int .i64 o)) (by kernel_rfl) ⟨c0, c1, hp⟩ (fun hHeld => ?_)
 refine Gen.tk 0 1 ?_ rfl rfl (Or.inl ⟨by rfl, ?_⟩) hHeld ?_
 rotate_left
 · intro w' hSw
   obtain ⟨s0, s1, s2⟩ := hSw
   go_simp
   try with_reducible rfl
 go_frame
 refine Gen.tk 1 2 ?_ rfl rfl (Or.inl ⟨by rfl, ?_⟩) hHeld ?_
 rotate_left
 · intro w' hSw
   obtain ⟨s0, s1, s2⟩ := hSw
   go_simp
   try with_reducible rfl
 go_frame
 refine Gen.tk 2 3 ?_ rfl rfl (Or.inl ⟨by rfl, ?_⟩) hHeld ?_
 rotate_left
 · intro w' hSw
   obtain ⟨s0, s1, s2⟩ := hSw
   go_simp
   try with_reducible rfl
 go_frame
 refine Gen.tk 3 9 ?_ rfl rfl (Or.inl ⟨by rfl, ?_⟩) hHeld ?_
 rotate_left
 · intro w' hSw
   obtain ⟨s0, s1, s2⟩ := hSw
   go_simp
   try with_reducible rfl
 go_frame
 refine Gen.tk 4 9 ?_ rfl rfl (Or.inl ⟨by rfl, ?_⟩) hHeld ?_
 rotate_left
 · intro w' hSw
   obtain ⟨s0, s1, s2⟩ := hSw
   go_simp
   try with_reducible rfl
 go_frame
 refine Gen.tk 5 6 ?_ rfl rfl (Or.inl ⟨by rfl, ?_⟩) hHeld ?_
 rotate_left
 · intro w' hSw
   obtain ⟨s0, s1, s2⟩ := hSw
   go_simp
   try with_reducible rfl
 go_frame
 refine Gen.tk 6 7 ?_ rfl rfl (Or.inl ⟨by rfl, ?_⟩) hHeld ?_
 rotate_left
 · intro w' hSw
   obtain ⟨s0, s1, s2⟩ := hSw
   go_simp
   try with_reducible rfl
 go_frame
 refine Gen.tk 7 8 ?_ rfl rfl (Or.inl ⟨by rfl, ?_⟩) hHeld ?_
 rotate_left
 · intro w' hSw
   obtain ⟨s0, s1, s2⟩ := hSw
   go_simp
   try with_reducible rfl
 go_frame
 refine Gen.tk 8 9 ?_ rfl rfl (Or.inl ⟨by rfl, ?_⟩) hHeld ?_
 rotate_left
 · intro w' hSw
   obtain ⟨s0, s1, s2⟩ := hSw
   go_simp
   try with_reducible rfl
 go_frame
 refine Gen.one (i := 9) (by kernel_rfl) rfl rfl (fun K hK => ?_)
 go_simp
 refine hrd.mono ?_
 rintro e w2 ⟨rfl, h1, h2⟩
 have HF := HX.out w2 h1 h2
 have d0 := (HF.wd.seats k hk).c0
 have d1 := (HF.wd.seats k hk).c1
 have hsi : ∀ c : Wld.K, ((s.setK k c).seat k).clock = (s.seat k).clock := fun c => by unfold Wd.setK; dsimp only; rw [updN_same]
 rw [hsi] at d1
 dsimp only
 refine hK.out _ _ ⟨d0, d1, hpp w2 h2⟩ (fun hHeld => ?_)
 clear hK K
 try go_frame
 refine Gen.last (i := 10) (by kernel_rfl) rfl rfl (by kernel_rfl) (by kernel_rfl) (fun K hK => ?_)
 go_simp
 refine hK.out _ _ ?_
 clear hK K hHeld
 go_wp2_with fail
 go_ret
 exact ⟨rfl, HF⟩
set_option maxHeartbeats 4000000 in
set_option maxRecDepth 100000 in
theorem writeC_any (A : Wa) (s : Wd) (k p q C : Nat) (o : Int) (d : ByteArray) (w : World) (h : WdIs w A s) (hk : k < s.n) (hB : WdB s C) (hC : C ≤ 100000000000) (hp : w.cell? ⟨p, 0, none⟩ = some (.int .i64 o)) (hq : w.cell? ⟨q, 0, none⟩ = some (.string d)) (hd : d.size ≤ 1000000) (hpc : p ≠ A.c k ∧ p ≠ A.m k) (hqc : q ≠ A.c k ∧ q ≠ A.m k) :
   Calls Tryz.prog 37 #[.pointer (some ⟨A.G, k * 4, none⟩), tp p, tp q] w fun e w' => e = .returned (eV ((s.seat k).k.writeE o d)) ∧ Begun w w' A s k ((s.seat k).k.writeK o d (s.seat k).clock) := by
 obtain ⟨z1, z2⟩ := h.below (Below.refl w.heap.size w).drew
 have hrd := writeK_any (A.c k) (A.m k) (s.seat k).k o d (s.seat k).clock C w.drew (z1.cli k hk) (hB.st k hk).k hC hd
 have c0 := (h.seats k hk).c0
 have c1 := (h.seats k hk).c1
 have HX : Hid (∀ w2, CliIs w2 (A.c k) (A.m k) ((s.seat k).k.writeK o d (s.seat k).clock) → Ob [A.c k, A.m k] w.drew w2 → Begun w w2 A s k ((s.seat k).k.writeK o d (s.seat k).clock)) := fun w2 h1 h2 => by
   obtain ⟨y1, y2⟩ := z1.client hk h1 h2
   exact ⟨y1, z2.trans y2⟩
 have hpp : ∀ w2, Ob [A.c k, A.m k] w.drew w2 → w2.cell? ⟨p, 0, none⟩ = some (.int .i64 o) := fun w2 h2 => (World.cell?_of_block (a := ⟨p, 0, none⟩) (h2.block p (World.block_lt_of_cell? _ _ hp) (by simp [hpc.1, hpc.2]))).trans hp
 have hqq : ∀ w2, Ob [A.c k, A.m k] w.drew w2 → w2.cell? ⟨q, 0, none⟩ = some (.string d) := fun w2 h2 => (World.cell?_of_block (a := ⟨q, 0, none⟩) (h2.block q (World.block_lt_of_cell? _ _ hq) (by simp [hqc.1, hqc.2]))).trans hq
 clear h z1 z2 hB
 go_enter Tryz.func37, Tryz.ntmps37
 go_upto_region 1 with fail
 refine Gen.start (S := fun w' => w'.cell? ⟨A.G, k * 4, none⟩ = some (tp (A.c k)) ∧ w'.cell? ⟨A.G, k * 4 + 1, none⟩ = some (.int .i64 (s.seat k).clock) ∧ w'.cell? ⟨p, 0, none⟩ = some (.int .i64 o) ∧ w'.cell? ⟨q, 0, none⟩ = some (.string d)) (by kernel_rfl) ⟨c0, c1, hp, hq⟩ (fun hHeld => ?_)
 refine Gen.tk 0 1 ?_ rfl rfl (Or.inl ⟨by rfl, ?_⟩) hHeld ?_
 rotate_left
 · intro w' hSw
   obtain ⟨s0, s1, s2, s3⟩ := hSw
   go_simp
   try with_reducible rfl
 go_frame
 refine Gen.tk 1 2 ?_ rfl rfl (Or.inl ⟨by rfl, ?_⟩) hHeld ?_
 rotate_left
 · intro w' hSw
   obtain ⟨s0, s1, s2, s3⟩ := hSw
   go_simp
   try with_reducible rfl
 go_frame
 refine Gen.tk 2 3 ?_ rfl rfl (Or.inl ⟨by rfl, ?_⟩) hHeld ?_
 rotate_left
 · intro w' hSw
   obtain ⟨s0, s1, s2, s3⟩ := hSw
   go_simp
   try with_reducible rfl
 go_frame
 refine Gen.tk 3 10 ?_ rfl rfl (Or.inl ⟨by rfl, ?_⟩) hHeld ?_
 rotate_left
 · intro w' hSw
   obtain ⟨s0, s1, s2, s3⟩ := hSw
   go_simp
   try with_reducible rfl
 go_frame
 refine Gen.tk 4 10 ?_ rfl rfl (Or.inl ⟨by rfl, ?_⟩) hHeld ?_
 rotate_left
 · intro w' hSw
   obtain ⟨s0, s1, s2, s3⟩ := hSw
   go_simp
   try with_reducible rfl
 go_frame
 refine Gen.tk 5 10 ?_ rfl rfl (Or.inl ⟨by rfl, ?_⟩) hHeld ?_
 rotate_left
 · intro w' hSw
   obtain ⟨s0, s1, s2, s3⟩ := hSw
   go_simp
   try with_reducible rfl
 go_frame
 refine Gen.tk 6 7 ?_ rfl rfl (Or.inl ⟨by rfl, ?_⟩) hHeld ?_
 rotate_left
 · intro w' hSw
   obtain ⟨s0, s1, s2, s3⟩ := hSw
   go_simp
   try with_reducible rfl
 go_frame
 refine Gen.tk 7 8 ?_ rfl rfl (Or.inl ⟨by rfl, ?_⟩) hHeld ?_
 rotate_left
 · intro w' hSw
   obtain ⟨s0, s1, s2, s3⟩ := hSw
   go_simp
   try with_reducible rfl
 go_frame
 refine Gen.tk 8 9 ?_ rfl rfl (Or.inl ⟨by rfl, ?_⟩) hHeld ?_
 rotate_left
 · intro w' hSw
   obtain ⟨s0, s1, s2, s3⟩ := hSw
   go_simp
   try with_reducible rfl
 go_frame
 refine Gen.tk 9 10 ?_ rfl rfl (Or.inl ⟨by rfl, ?_⟩) hHeld ?_
 rotate_left
 · intro w' hSw
   obtain ⟨s0, s1, s2, s3⟩ := hSw
   go_simp
   try with_reducible rfl
 go_frame
 refine Gen.one (i := 10) (by kernel_rfl) rfl rfl (fun K hK => ?_)
 go_simp
 refine hrd.mono ?_
 rintro e w2 ⟨rfl, h1, h2⟩
 have HF := HX.out w2 h1 h2
 have d0 := (HF.wd.seats k hk).c0
 have d1 := (HF.wd.seats k hk).c1
 have hsi : ∀ c : Wld.K, ((s.setK k c).seat k).clock = (s.seat k).clock := fun c => by unfold Wd.setK; dsimp only; rw [updN_same]
 rw [hsi] at d1
 dsimp only
 refine hK.out _ _ ⟨d0, d1, hpp w2 h2, hqq w2 h2⟩ (fun hHeld => ?_)
 clear hK K
 try go_frame
 refine Gen.last (i := 11) (by kernel_rfl) rfl rfl (by kernel_rfl) (by kernel_rfl) (fun K hK => ?_)
 go_simp
 refine hK.out _ _ ?_
 clear hK K hHeld
 go_wp2_with fail
 go_ret
 exact ⟨rfl, HF⟩
end Wld
end
end Go.Proofs.YtbebfliimjjohaaGreatDoor
