/-
  Parts of the proof: WkpC.
-/
import Derived.Test.YtbebfliimjjohaaGreatDoorLi39
import Derived.Test.YtbebfliimjjohaaGreatDoorLi43
import Derived.Test.YtbebfliimjjohaaGreatDoorLi25
import Derived.Test.YtbebfliimjjohaaGreatDoorLi04
import Derived.Maps.RangeWalk
namespace Go.Proofs.YtbebfliimjjohaaGreatDoor
section
namespace Wld
open Go.RowKit Go.Maps
open Lease (Ob I64 upd TabIs hol dels objB HasI map_block map_ne mx)
open Cache (tp row_kept row_below)
open Num (M okB strOf ints)
open Clock (pick_any)
open Wal (R WalIs DiskIs Oq Fw rcells)
open Net (NetIs Only pcells hasB)
theorem WdIs.notFoot {w : World} {A : Wa} {s : Wd} (h : WdIs w A s) {T : Nat} {t : TypeId} (hT : isC w T t) (h1 : t ≠ 75) (h2 : t ≠ 84) (h3 : t ≠ 44) (h4 : t ≠ 132) (h5 : t ≠ 110 ∧ t ≠ 184 ∧ t ≠ 189 ∧ t ≠ 104 ∧ t ≠ 96) : ¬ wfoot w A s T := fun f => by
 rcases f with f | f | ⟨v, f1, f2⟩ | ⟨i, hi, f⟩ | ⟨i, hi, f⟩ | ⟨f1, f2⟩
 · exact hT.ne h.core.typ h1 f
 · exact hT.ne h.gt h2 f
 · obtain ⟨v', hv', hr⟩ := h.evs
   rw [f1] at hv'
   injection hv' with hv'
   subst hv'
   exact (row_isC hr f2).2.ne hT (Ne.symm h3) rfl
 · exact hT.ne (h.cli i hi).isC h4 f
 · exact (h.cli i hi).isM.ne hT f.symm
 · obtain ⟨v, hv⟩ := Option.isSome_iff_exists.1 f1
   have u := h.up v hv
   by_cases hq : T = A.a.q
   · rw [u.q] at hq; exact hT.ne h.core.typ h1 hq
   · exact u.sv.notFoot hT hq h5 f2
theorem Good.calm {s : Wd} {wr i : Nat} (h : Good s wr false i) (hi : i ≤ 75) (n4 : s.n ≤ 4) {r : Nat} (hr : r ≤ 3) (hok : ∀ j, j < r → CalmOk (s.calm j)) : Good (s.calm r) wr false (i + 1) := by
 obtain ⟨H, L, b, C, k1, k2, k3, k4, k5⟩ := h.ex
 obtain ⟨L', k6⟩ := k1.calm (by omega) (by omega) r (by omega)
 exact ⟨⟨H, L', b, C + 60000, k6.mono (Nat.le_refl _) (by omega), by omega, (k3.calm n4 r hok).mono (by omega), by omega, k5⟩, by have := h.wr; omega⟩
theorem TaleIs.below {w w' : World} {T : Nat} {A : Wa} {s : Wd} {wr : Int} {lies : Bool} (h : TaleIs w T A s wr lies) (hb : Below w.heap.size w w') : TaleIs w' T A s wr lies := by
 have hl := h.typ.lt
 have e : ∀ i, w'.cell? ⟨T, i, none⟩ = w.cell? ⟨T, i, none⟩ := fun i => hb.cell (p := ⟨T, i, none⟩) hl
 exact ⟨h.typ.same (hb.block T hl), fun i => (hb.frozen (p := ⟨T, i, none⟩) hl).trans (h.fro i), (e 0).trans h.c0, (e 1).trans h.c1, (e 2).trans h.c2, (e 3).trans h.c3, (e 4).trans h.c4, (e 5).trans h.c5, (e 6).trans h.c6, (h.wd.below hb).1⟩
theorem TaleIs.moved {w w' : World} {T : Nat} {A A' : Wa} {s s' : Wd} {wr : Int} {lies : Bool} (h : TaleIs w T A s wr lies) (d : WdIs w' A' s') (f : Fz A s w A' s' w') (t : Tm s s') : TaleIs w' T A' s' wr lies := by
 have eT : w'.heap[T]? = w.heap[T]? := f.block T h.typ.lt (h.wd.notFoot h.typ (by decide) (by decide) (by decide) (by decide) (by decide)) (fun q => h.typ.ne q (by decide) rfl)
 have e : ∀ i, w'.cell? ⟨T, i, none⟩ = w.cell? ⟨T, i, none⟩ := fun i => World.cell?_of_block eT
 exact ⟨h.typ.same eT, fun i => (World.frozen?_of_block (a := ⟨T, i, none⟩) eT).trans (h.fro i), by rw [f.Q]; exact (e 0).trans h.c0, by rw [t.ob]; exact (e 1).trans h.c1, by rw [t.tv]; exact (e 2).trans h.c2, by rw [t.td]; exact (e 3).trans h.c3, by rw [t.n]; exact (e 4).trans h.c4, (e 5).trans h.c5, (e 6).trans h.c6, d⟩
theorem TaleIs.wrote {w : World} {T : Nat} {A : Wa} {s : Wd} {wr : Int} {lies : Bool} (h : TaleIs w T A s wr lies) (x : Int) : TaleIs (w.setCell ⟨T, 5, none⟩ (.int .i64 x)) T A s x lies ∧ ∀ k, wfoot (w.setCell ⟨T, 5, none⟩ (.int .i64 x)) A s k → wfoot w A s k := by
 have o : ∀ y, y ≠ T → (w.setCell ⟨T, 5, none⟩ (.int .i64 x)).heap[y]? = w.heap[y]? := fun y hy => Below.heap_setCell w ⟨T, 5, none⟩ _ y hy
 obtain ⟨k1, k2⟩ := h.wd.apart h.typ (by simp) o
 have e : ∀ i, i ≠ 5 → (w.setCell ⟨T, 5, none⟩ (.int .i64 x)).cell? ⟨T, i, none⟩ = w.cell? ⟨T, i, none⟩ := fun i hi => World.cell?_setCell_other _ _ _ _ (by intro q; injection q with _ q; exact hi q.symm)
 exact ⟨⟨Wal.typ_setCell h.typ, fun i => by rw [World.frozen?_setCell]; exact h.fro i, (e 0 (by omega)).trans h.c0, (e 1 (by omega)).trans h.c1, (e 2 (by omega)).trans h.c2, (e 3 (by omega)).trans h.c3, (e 4 (by omega)).trans h.c4, World.cell?_setCell_same _ _ _ h.c5, (e 6 (by omega)).trans h.c6, k1⟩, k2⟩
theorem txt_is {j : Nat} (h : j < 255) : TxtIs (strOf [119, (j : Int) + 1, 0]) (j + 1) := by
 refine ⟨rfl, ?_⟩
 have e : (strOf [119, (j : Int) + 1, 0]).data[1]? = some (UInt8.ofNat ((j : Int) + 1).toNat) := rfl
 rw [e, show ((j : Int) + 1).toNat = j + 1 by omega]
 simp
 omega
def Done (w w' : World) (T : Nat) (A : Wa) (s : Wd) (lies : Bool) (i : Nat) : Prop := ∃ A' s', ∃ wr : Nat, TaleIs w' T A' s' wr lies ∧ Good s' wr lies i ∧ ∀ N, N ≤ T → N ≤ w.heap.size → Low N w A s → Below N w w' ∧ Low N w' A' s'
theorem Done.mk {w w2 w' : World} {T : Nat} {A A' : Wa} {s s' : Wd} {wr : Nat} {lies : Bool} {i : Nat} (h : TaleIs w T A s wr lies) (hb : Below w.heap.size w w2) (d : WdIs w' A' s') (f : Fz A s w2 A' s' w') (t : Tm s s') (g : Good s' wr lies i) : Done w w' T A s lies i := by
 have h2 := h.below hb
 refine ⟨A', s', wr, h2.moved d f t, g, fun N _ hN hL => ?_⟩
 have hL2 := hL.step (h.wd.below hb).2 hN
 have hs := hb.size
 exact ⟨(hb.mono hN).trans (f.below hL2 h2.wd.lt), hL2.step f (by omega)⟩
theorem Done.still {w w2 : World} {T : Nat} {A : Wa} {s : Wd} {wr : Nat} {lies : Bool} {i : Nat} (h : TaleIs w T A s wr lies) (hb : Below w.heap.size w w2) (g : Good s wr lies i) : Done w w2 T A s lies i :=
 Done.mk h hb (h.wd.below hb).1 (Fz.refl A s w2) (Tm.refl s) g
set_option maxHeartbeats 8000000 in
set_option maxRecDepth 100000 in
theorem does_any (T i wr : Nat) (A : Wa) (s : Wd) (lies : Bool) (xw xk xa xb : Int) (w : World) (h : TaleIs w T A s wr lies) (hG : Good s wr lies i) (hi : i ≤ 75) :
   Calls Tryz.prog 8 #[tp T, .agg #[.int .i64 xw, .int .i64 xk, .int .i64 xa, .int .i64 xb]] w fun e w' => e = .returned (.tuple #[]) ∧ Done w w' T A s lies (i + 1) := by
 go_enter Tryz.func8, Tryz.ntmps8
 go_upto_region 1 with fail
 obtain ⟨X, hX⟩ : ∃ X, w.heap.size = X := ⟨_, rfl⟩
 generalize hW : w.alloc (.cells #[.int .i64 xw, .int .i64 xk, .int .i64 xa, .int .i64 xb] 28) = w1
 have hb1 : Below w.heap.size w w1 := by rw [← hW]; exact (Below.refl _ _).alloc (Nat.le_refl _) _
 have eX : w1.heap[X]? = some (.cells #[.int .i64 xw, .int .i64 xk, .int .i64 xa, .int .i64 xb] 28) := by rw [← hW, ← hX]; exact heap_alloc_new w _
 have hXc : isC w1 X 28 := ⟨_, _, eX⟩
 have hXl : X < w1.heap.size := (Array.getElem?_eq_some_iff.1 eX).1
 rw [hX]
 have x0 : w1.cell? ⟨X, 0, none⟩ = some (.int .i64 xw) := cell_of_row _ _ _ _ _ _ eX
 have x1 : w1.cell? ⟨X, 1, none⟩ = some (.int .i64 xk) := cell_of_row _ _ _ _ _ _ eX
 have x2 : w1.cell? ⟨X, 2, none⟩ = some (.int .i64 xa) := cell_of_row _ _ _ _ _ _ eX
 have x3 : w1.cell? ⟨X, 3, none⟩ = some (.int .i64 xb) := cell_of_row _ _ _ _ _ _ eX
 have h1 := h.below hb1
 have t0 := h1.c0
 have t4 := h1.c4
 have t5 := h1.c5
 have t6 := h1.c6
 have hTl := h1.typ.lt
 have n1 := h.wd.n1
 have n4 := h.wd.n4
 obtain ⟨n, hn⟩ : ∃ n, s.n = n := ⟨_, rfl⟩
 rw [hn] at t4 n1 n4
 have HH : Hid (TaleIs w T A s wr lies ∧ Good s wr lies i ∧ Below w.heap.size w w1 ∧ TaleIs w1 T A s wr lies ∧ s.n = n) := ⟨h, hG, hb1, h1, hn⟩
 clear hW eX h hG hb1 h1 hX hn
 have hpk := pick_any xk n w1.drew (by omega) (by omega)
 go_region_held3 (fun w' => w'.cell? ⟨T, 0, none⟩ = some (tp A.Q) ∧ w'.cell? ⟨T, 4, none⟩ = some (.int .i64 n) ∧ w'.cell? ⟨X, 1, none⟩ = some (.int .i64 xk)) (exact ⟨t0, t4, x1⟩) (first | (go_at_call 21; refine hpk.mono ?_; rintro e w2 ⟨k, k0, k1, rfl, rfl⟩))
 obtain ⟨kn, rfl⟩ : ∃ kn : Nat, k = (kn : Int) := ⟨k.toNat, by omega⟩
 have hkn : kn < n := by omega
 have HH2 : Hid (TaleIs w T A s wr lies ∧ Good s wr lies i ∧ Below w.heap.size w w1.drew ∧ TaleIs w1.drew T A s wr lies ∧ s.n = n) := ⟨HH.out.1, HH.out.2.1, HH.out.2.2.1.drew, HH.out.2.2.2.1.below (Below.refl _ _).drew, HH.out.2.2.2.2⟩
 have y0 : w1.drew.cell? ⟨X, 0, none⟩ = some (.int .i64 xw) := x0
 have y2 : w1.drew.cell? ⟨X, 2, none⟩ = some (.int .i64 xa) := x2
 have y3 : w1.drew.cell? ⟨X, 3, none⟩ = some (.int .i64 xb) := x3
 have z5 : w1.drew.cell? ⟨T, 5, none⟩ = some (.int .i64 wr) := t5
 have z6 : w1.drew.cell? ⟨T, 6, none⟩ = some (.bool lies) := t6
 have hXl2 : X < w1.drew.heap.size := hXl
 have HXc : Hid (isC w1.drew X 28) := hXc
 clear HH x0 x1 x2 x3 t0 t4 t5 t6 hXl hTl hpk hXc
 generalize w1.drew = w2 at *
 have HH := HH2
 clear HH2
 have hmany := manyW_any A s w2 HH.out.2.2.2.1.wd
 go_wp2_with fail
 refine hmany.mono ?_
 rintro e w2 ⟨rfl, rfl⟩
 clear hmany
 have hnl : s.net.length ≤ 200 := by
   obtain ⟨_, hG, _⟩ := HH.out
   obtain ⟨_, _, _, _, _, _, g3, _⟩ := hG.ex
   exact g3.netl
 by_cases hm0 : s.net.length = 0
 · have hmz : ¬ (0 : Int) < (s.net.length : Int) := by omega
   go_upto_region 7 with fail
   by_cases q0 : xw = 0
   · subst q0
     obtain ⟨h, hG, hb, h2, hn⟩ := HH.out
     obtain ⟨H, L, b, C, g1, g2, g3, g4, g5⟩ := hG.ex
     have hcall := fun o => readW_any A s kn C o w2 h2.wd (by omega) g3 (by omega)
     clear h hG hb h2 g1 g2 g3 g5
     go_wp2_with fail
     refine (pick_any xa 3 _ (by omega) (by omega)).mono ?_
     rintro e w2 ⟨o, o0, o1, rfl, rfl⟩
     go_wp2_with fail
     refine (hcall o).mono ?_
     rintro e w4 ⟨rfl, d, f⟩
     have HF : Hid (Done w w4 T A s lies (i + 1)) := by
       obtain ⟨h, hG, hb, h2, hn⟩ := HH.out
       by_cases hf : (s.seat kn).k.freeE o = 0
       · rw [if_pos hf] at d f
         exact Done.mk h hb d f (begin_tm _ _ _) (hG.read (by omega) hf)
       · rw [if_neg hf] at d f
         exact Done.mk h hb d f (Tm.refl s) (hG.idle (Nat.le_refl _) (by have := hG.wr; omega))
     clear hcall d f
     clear HH
     go_wp2_with fail
     go_end0
     exact ⟨rfl, HF.out⟩
   by_cases q1 : xw = 1
   · subst q1
     obtain ⟨h, hG, hb, h2, hn⟩ := HH.out
     have hwr := hG.wr
     have f5 := h2.fro 5
     have hw1 : IntKind.i64.wrap ((wr : Int) + 1) = (wr : Int) + 1 := wrapI (by omega) (by omega)
     obtain ⟨k1, k2⟩ := h2.wrote ((wr : Int) + 1)
     have hTX : T ≠ X := fun e => h2.typ.ne HXc.out (by decide) e
     have v2 : (w2.setCell ⟨T, 5, none⟩ (.int .i64 ((wr : Int) + 1))).cell? ⟨X, 2, none⟩ = some (.int .i64 xa) := (World.cell?_setCell_other _ _ _ _ (by intro q; injection q with q _; exact hTX q)).trans y2
     have v5 := k1.c5
     have HK : Hid (TaleIs w T A s wr lies ∧ Good s wr lies i ∧ TaleIs (w2.setCell ⟨T, 5, none⟩ (.int .i64 ((wr : Int) + 1))) T A s ((wr + 1 : Nat) : Int) lies ∧ (∀ N, N ≤ T → N ≤ w.heap.size → Low N w A s → Below N w (w2.setCell ⟨T, 5, none⟩ (.int .i64 ((wr : Int) + 1))) ∧ Low N (w2.setCell ⟨T, 5, none⟩ (.int .i64 ((wr : Int) + 1))) A s) ∧ s.n = n) := by
       refine ⟨h, hG, by rw [show ((wr + 1 : Nat) : Int) = (wr : Int) + 1 by omega]; exact k1, fun N hT hN hL => ?_, hn⟩
       have hL2 := hL.step (h.wd.below hb).2 hN
       exact ⟨Below.setCell (hb.mono hN) (show N ≤ (⟨T, 5, none⟩ : Addr).block from hT) _, fun k hk => hL2 k (k2 k hk)⟩
     clear h hG hb h2 hn k1 k2 HH y2 y3 z6 HXc hXl2
     go_upto_region 11 with fail
     generalize w2.setCell ⟨T, 5, none⟩ (.int .i64 ((wr : Int) + 1)) = w3 at *
     have hu : IntKind.u8.wrap ((wr : Int) + 1) = (wr : Int) + 1 := by unfold IntKind.wrap; simp [IntKind.bits, IntKind.signed]; omega
     have hsh : ((wr : Int) + 1) / 256 = 0 := by omega
     have hu0 : IntKind.u8.wrap 0 = 0 := by decide
     obtain ⟨d, hd⟩ : ∃ d, strOf [119, (wr : Int) + 1, 0] = d := ⟨_, rfl⟩
     have hlT : T < w3.heap.size := HK.out.2.2.1.typ.lt
     have hlX : X < w3.heap.size := World.block_lt_of_cell? _ _ v2
     have b6 : Below w3.heap.size w3 (w3.alloc (.cells #[.int .u8 119, .int .u8 ((wr : Int) + 1), .int .u8 0] 5)).drew := ((Below.refl _ _).alloc (Nat.le_refl _) _).drew
     have e2 := (b6.cell (p := ⟨X, 2, none⟩) hlX).trans v2
     have e5 := (b6.cell (p := ⟨T, 5, none⟩) hlT).trans v5
     have hcv : (convert 59 9 (.slice (some ⟨w3.heap.size, 0, none⟩) 3 3)).run Tryz.prog (w3.alloc (.cells #[.int .u8 119, .int .u8 ((wr : Int) + 1), .int .u8 0] 5)).drew = .ok (.string d) (w3.alloc (.cells #[.int .u8 119, .int .u8 ((wr : Int) + 1), .int .u8 0] 5)).drew := by
       rw [← hd]
       refine Wire.conv_cells ⟨w3.heap.size, 0, none⟩ [119, (wr : Int) + 1, 0] 3 fun j v hj => ?_
       have hc := cell_of_row (w3.alloc (.cells #[.int .u8 119, .int .u8 ((wr : Int) + 1), .int .u8 0] 5)).drew w3.heap.size j _ _ _ (heap_alloc_new w3 _)
       have hz : (⟨w3.heap.size, 0, none⟩ : Addr).add j = ⟨w3.heap.size, j, none⟩ := by
         simp [Addr.add]
         exact fun q => q.symm
       rw [hz, hc, ← hj]
       simp
     have hwd := HK.out.2.2.1.below b6
     have hgd := HK.out.2.1
     obtain ⟨H, L, b, C, g1, g2, g3, g4, g5⟩ := hgd.ex
     have htx : TxtIs d (wr + 1) := by rw [← hd]; exact txt_is (by omega)
     have hcall := fun o => writeW_any A s kn C o d _ hwd.wd (by have := HK.out.2.2.2.2; omega) g3 (by omega) (by rw [htx.1]; omega)
     have HQ : Hid (∀ o w4, WdIs w4 A (if (s.seat kn).k.writeE o d = 0 then s.write kn o d else s) → Fz A s (w3.alloc (.cells #[.int .u8 119, .int .u8 ((wr : Int) + 1), .int .u8 0] 5)).drew A (if (s.seat kn).k.writeE o d = 0 then s.write kn o d else s) w4 → Hid (Done w w4 T A s lies (i + 1))) := fun o w4 dd ff => by
       have hnn := HK.out.2.2.2.2
       have hfin : ∀ s', WdIs w4 A s' → Fz A s (w3.alloc (.cells #[.int .u8 119, .int .u8 ((wr : Int) + 1), .int .u8 0] 5)).drew A s' w4 → Tm s s' → Good s' (wr + 1) lies (i + 1) → Done w w4 T A s lies (i + 1) := fun s' a1 a2 a3 a4 => ⟨A, s', wr + 1, hwd.moved a1 a2 a3, a4, fun N hT hN hL => by
         obtain ⟨u1, u2⟩ := HK.out.2.2.2.1 N hT hN hL
         have u3 := u2.step (HK.out.2.2.1.wd.below b6).2 (by omega)
         exact ⟨(u1.trans (b6.mono (by omega))).trans (a2.below u3 hwd.wd.lt), u3.step a2 (by have := b6.size; omega)⟩⟩
       by_cases hf : (s.seat kn).k.writeE o d = 0
       · rw [if_pos hf] at dd ff
         exact hfin _ dd ff (begin_tm _ _ _) (hgd.write (by omega) htx hf)
       · rw [if_neg hf] at dd ff
         exact hfin _ dd ff (Tm.refl s) (hgd.idle (by omega) (by omega))
     clear hwd hgd g1 g2 g3 g5 htx hd b6
     have hS0 : w3.drew.cell? ⟨X, 2, none⟩ = some (.int .i64 xa) ∧ w3.drew.cell? ⟨T, 5, none⟩ = some (.int .i64 ((wr : Int) + 1)) := ⟨v2, v5⟩
     refine Gen.start (S := fun w' => w'.cell? ⟨X, 2, none⟩ = some (.int .i64 xa) ∧ w'.cell? ⟨T, 5, none⟩ = some (.int .i64 ((wr : Int) + 1))) (by kernel_rfl) hS0 (fun hHeld => ?_)
     refine Gen.tk 0 18 ?_ rfl rfl (Or.inl ⟨by rfl, ?_⟩) hHeld ?_
     rotate_left
     · intro w' hSw
       obtain ⟨s0, s1⟩ := hSw
       go_simp
       try with_reducible rfl
     go_frame
     refine Gen.tk 1 18 ?_ rfl rfl (Or.inl ⟨by rfl, ?_⟩) hHeld ?_
     rotate_left
     · intro w' hSw
       obtain ⟨s0, s1⟩ := hSw
       go_simp
       try with_reducible rfl
     go_frame
     refine Gen.tk 2 3 ?_ rfl rfl (Or.inl ⟨by rfl, ?_⟩) hHeld ?_
     rotate_left
     · intro w' hSw
       obtain ⟨s0, s1⟩ := hSw
       go_simp
       try with_reducible rfl
     go_frame
     refine Gen.tk 3 4 ?_ rfl rfl (Or.inl ⟨by rfl, ?_⟩) hHeld ?_
     rotate_left
     · intro w' hSw
       obtain ⟨s0, s1⟩ := hSw
       go_simp
       try with_reducible rfl
     go_frame
     refine Gen.tk 5 6 ?_ rfl rfl (Or.inl ⟨by rfl, ?_⟩) hHeld ?_
     rotate_left
     · intro w' hSw
       obtain ⟨s0, s1⟩ := hSw
       go_simp
       try with_reducible rfl
     go_frame
     refine Gen.tk 6 7 ?_ rfl rfl (Or.inl ⟨by rfl, ?_⟩) hHeld ?_
     rotate_left
     · intro w' hSw
       obtain ⟨s0, s1⟩ := hSw
       go_simp
       try with_reducible rfl
     go_frame
     refine Gen.tk 7 8 ?_ rfl rfl (Or.inl ⟨by rfl, ?_⟩) hHeld ?_
     rotate_left
     · intro w' hSw
       obtain ⟨s0, s1⟩ := hSw
       go_simp
       try with_reducible rfl
     go_frame
     refine Gen.tk 8 9 ?_ rfl rfl (Or.inl ⟨by rfl, ?_⟩) hHeld ?_
     rotate_left
     · intro w' hSw
       obtain ⟨s0, s1⟩ := hSw
       go_simp
       try with_reducible rfl
     go_frame
     refine Gen.tk 9 16 ?_ rfl rfl (Or.inl ⟨by rfl, ?_⟩) hHeld ?_
     rotate_left
     · intro w' hSw
       obtain ⟨s0, s1⟩ := hSw
       go_simp
       try with_reducible rfl
     go_frame
     refine Gen.tk 10 11 ?_ rfl rfl (Or.inl ⟨by rfl, ?_⟩) hHeld ?_
     rotate_left
     · intro w' hSw
       obtain ⟨s0, s1⟩ := hSw
       go_simp
       try with_reducible rfl
     go_frame
     refine Gen.tk 11 12 ?_ rfl rfl (Or.inl ⟨by rfl, ?_⟩) hHeld ?_
     rotate_left
     · intro w' hSw
       obtain ⟨s0, s1⟩ := hSw
       go_simp
       try with_reducible rfl
     go_frame
     refine Gen.tk 12 13 ?_ rfl rfl (Or.inl ⟨by rfl, ?_⟩) hHeld ?_
     rotate_left
     · intro w' hSw
       obtain ⟨s0, s1⟩ := hSw
       go_simp
       try with_reducible rfl
     go_frame
     refine Gen.tk 13 14 ?_ rfl rfl (Or.inl ⟨by rfl, ?_⟩) hHeld ?_
     rotate_left
     · intro w' hSw
       obtain ⟨s0, s1⟩ := hSw
       go_simp
       try with_reducible rfl
     go_frame
     refine Gen.tk 14 15 ?_ rfl rfl (Or.inl ⟨by rfl, ?_⟩) hHeld ?_
     rotate_left
     · intro w' hSw
       obtain ⟨s0, s1⟩ := hSw
       go_simp
       try with_reducible rfl
     go_frame
     refine Gen.tk 15 16 ?_ rfl rfl (Or.inl ⟨by rfl, ?_⟩) hHeld ?_
     rotate_left
     · intro w' hSw
       obtain ⟨s0, s1⟩ := hSw
       go_simp
       try with_reducible rfl
     go_frame
     refine Gen.two (i := 4) (j := 16) (by kernel_rfl) rfl rfl rfl rfl (fun K hK => ?_) (fun K hK => ?_)
     · go_simp
       refine (pick_any xa 3 _ (by omega) (by omega)).mono ?_
       rintro e w5 ⟨o, o0, o1, rfl, rfl⟩
       dsimp only
       refine hK.out _ _ hHeld (fun hHeld => ?_)
       clear hK K
       try go_frame
       refine Gen.one (i := 16) (by kernel_rfl) rfl rfl (fun K hK => ?_)
       go_simp
       refine hK.out _ _ ⟨e2, e5⟩ (fun hHeld => ?_)
       clear hK K
       try go_frame
       refine Gen.one (i := 17) (by kernel_rfl) rfl rfl (fun K hK => ?_)
       go_simp
       refine hK.out _ _ ⟨e2, e5⟩ (fun hHeld => ?_)
       clear hK K
       try go_frame
       refine Gen.last (i := 18) (by kernel_rfl) rfl rfl (by kernel_rfl) (by kernel_rfl) (fun K hK => ?_)
       go_simp
       refine (hcall o).mono ?_
       rintro e w4 ⟨rfl, dd, ff⟩
       have HF : Hid (Done w w4 T A s lies (i + 1)) := HQ.out o w4 dd ff
       dsimp only
       refine hK.out _ _ ?_
       clear hK K hHeld dd ff hcall HQ HK
       go_wp2_with fail
       go_end0
       exact ⟨rfl, HF.out⟩
     · go_simp
       refine hK.out _ _ ⟨e2, e5⟩ (fun hHeld => ?_)
       clear hK K
       try go_frame
       refine Gen.two (i := 4) (j := 17) (by kernel_rfl) rfl rfl rfl rfl (fun K hK => ?_) (fun K hK => ?_)
       · go_simp
         refine (pick_any xa 3 _ (by omega) (by omega)).mono ?_
         rintro e w5 ⟨o, o0, o1, rfl, rfl⟩
         dsimp only
         refine hK.out _ _ ⟨e2, e5⟩ (fun hHeld => ?_)
         clear hK K
         try go_frame
         refine Gen.one (i := 17) (by kernel_rfl) rfl rfl (fun K hK => ?_)
         go_simp
         refine hK.out _ _ ⟨e2, e5⟩ (fun hHeld => ?_)
         clear hK K
         try go_frame
         refine Gen.last (i := 18) (by kernel_rfl) rfl rfl (by kernel_rfl) (by kernel_rfl) (fun K hK => ?_)
         go_simp
         refine (hcall o).mono ?_
         rintro e w4 ⟨rfl, dd, ff⟩
         have HF : Hid (Done w w4 T A s lies (i + 1)) := HQ.out o w4 dd ff
         dsimp only
         refine hK.out _ _ ?_
         clear hK K hHeld dd ff hcall HQ HK
         go_wp2_with fail
         go_end0
         exact ⟨rfl, HF.out⟩
       · go_simp
         refine hK.out _ _ ⟨e2, e5⟩ (fun hHeld => ?_)
         clear hK K
         try go_frame
         refine Gen.one (i := 4) (by kernel_rfl) rfl rfl (fun K hK => ?_)
         go_simp
         refine (pick_any xa 3 _ (by omega) (by omega)).mono ?_
         rintro e w5 ⟨o, o0, o1, rfl, rfl⟩
         dsimp only
         refine hK.out _ _ ⟨e2, e5⟩ (fun hHeld => ?_)
         clear hK K
         try go_frame
         refine Gen.last (i := 18) (by kernel_rfl) rfl rfl (by kernel_rfl) (by kernel_rfl) (fun K hK => ?_)
         go_simp
         refine (hcall o).mono ?_
         rintro e w4 ⟨rfl, dd, ff⟩
         have HF : Hid (Done w w4 T A s lies (i + 1)) := HQ.out o w4 dd ff
         dsimp only
         refine hK.out _ _ ?_
         clear hK K hHeld dd ff hcall HQ HK
         go_wp2_with fail
         go_end0
         exact ⟨rfl, HF.out⟩
   by_cases q2 : xw = 2
   · subst q2
     obtain ⟨h, hG, hb, h2, hn⟩ := HH.out
     obtain ⟨H, L, b, C, g1, g2, g3, g4, g5⟩ := hG.ex
     have hcall := againW_any A s kn C w2 h2.wd (by omega) g3 (by omega)
     clear h hG hb h2 g1 g2 g3 g5
     go_wp2_with fail
     refine hcall.mono ?_
     rintro e w4 ⟨rfl, d, f⟩
     have HF : Hid (Done w w4 T A s lies (i + 1)) := by
       obtain ⟨h, hG, hb, h2, hn⟩ := HH.out
       exact Done.mk h hb d f (Tm.trans (b := { s with step := s.step + 1 }) ⟨rfl, rfl, rfl, rfl⟩ (ask_tm _ kn)) (hG.keep (fun H L b cb k _ => k.again (by omega)) (fun C k => (k.again (by omega)).mono (by omega)) (by omega))
     clear hcall d f
     clear HH
     go_wp2_with fail
     go_end0
     exact ⟨rfl, HF.out⟩
   by_cases q3 : xw = 3
   · subst q3
     obtain ⟨h, hG, hb, h2, hn⟩ := HH.out
     obtain ⟨H, L, b, C, g1, g2, g3, g4, g5⟩ := hG.ex
     have hcall := deliver_no A s 0 w2 h2.wd (by rw [hm0]; rfl)
     clear h hG hb h2 g1 g2 g3 g5
     go_wp2_with fail
     refine hcall.mono ?_
     rintro e w4 ⟨⟨v, rfl⟩, b4⟩
     have HF : Hid (Done w w4 T A s lies (i + 1)) := by
       obtain ⟨h, hG, hb, h2, hn⟩ := HH.out
       exact Done.still h (hb.trans (b4.mono hb.size)) (hG.idle (Nat.le_refl _) (by have := hG.wr; omega))
     clear hcall b4
     clear HH
     go_wp2_with fail
     go_end0
     exact ⟨rfl, HF.out⟩
   by_cases q4 : xw = 4
   · subst q4
     obtain ⟨h, hG, hb, h2, hn⟩ := HH.out
     obtain ⟨H, L, b, C, g1, g2, g3, g4, g5⟩ := hG.ex
     have hcall := lose_no A s 0 w2 h2.wd (by rw [hm0]; rfl)
     clear h hG hb h2 g1 g2 g3 g5
     go_wp2_with fail
     refine hcall.mono ?_
     rintro e w4 ⟨⟨v, rfl⟩, b4⟩
     have HF : Hid (Done w w4 T A s lies (i + 1)) := by
       obtain ⟨h, hG, hb, h2, hn⟩ := HH.out
       exact Done.still h (hb.trans (b4.mono hb.size)) (hG.idle (Nat.le_refl _) (by have := hG.wr; omega))
     clear hcall b4
     clear HH
     go_wp2_with fail
     go_end0
     exact ⟨rfl, HF.out⟩
   by_cases q5 : xw = 5
   · subst q5
     obtain ⟨h, hG, hb, h2, hn⟩ := HH.out
     obtain ⟨H, L, b, C, g1, g2, g3, g4, g5⟩ := hG.ex
     have hcall := twice_no A s 0 w2 h2.wd (by rw [hm0]; rfl)
     clear h hG hb h2 g1 g2 g3 g5
     go_wp2_with fail
     refine hcall.mono ?_
     rintro e w4 ⟨⟨v, rfl⟩, b4⟩
     have HF : Hid (Done w w4 T A s lies (i + 1)) := by
       obtain ⟨h, hG, hb, h2, hn⟩ := HH.out
       exact Done.still h (hb.trans (b4.mono hb.size)) (hG.idle (Nat.le_refl _) (by have := hG.wr; omega))
     clear hcall b4
     clear HH
     go_wp2_with fail
     go_end0
     exact ⟨rfl, HF.out⟩
   by_cases q6 : xw = 6
   · subst q6
     obtain ⟨h, hG, hb, h2, hn⟩ := HH.out
     obtain ⟨H, L, b, C, g1, g2, g3, g4, g5⟩ := hG.ex
     have hcall := goesT_any T C A s wr xa xb lies w2 h2 g3 (by omega)
     clear h hG hb h2 g1 g2 g3 g5
     go_wp2_with fail
     refine hcall.mono ?_
     rintro e w4 ⟨rfl, g, b0, ff, q0, q1, q2, q3, d, f⟩
     have HF : Hid (Done w w4 T A s lies (i + 1)) := by
       obtain ⟨h, hG, hb, h2, hn⟩ := HH.out
       unfold GoOk at q2 q3
       exact Done.mk h hb d f (goes_tm _ _ _) (hG.goes (g := g) (by omega) ⟨q2.1, q2.2.1⟩ (fun k hk => ⟨(q3 k hk).1, (q3 k hk).2.1⟩) fun q => ⟨(q2.2.2 q).2, fun k hk => ((q3 k hk).2.2 q).1⟩)
     clear hcall d f q2 q3
     clear HH
     go_wp2_with fail
     go_end0
     exact ⟨rfl, HF.out⟩
   by_cases q7 : xw = 7
   · subst q7
     obtain ⟨h, hG, hb, h2, hn⟩ := HH.out
     have h2d := (h2.below (Below.refl w2.heap.size w2).drew).wd
     have hfl := fun a b => fails_any A s a b w2.drew h2d
     have hS0 : w2.drew.cell? ⟨X, 2, none⟩ = some (.int .i64 xa) ∧ w2.drew.cell? ⟨X, 3, none⟩ = some (.int .i64 xb) := ⟨y2, y3⟩
     clear h hG hb h2 h2d
     go_upto_region 23 with fail
     refine Gen.start (S := fun w' => w'.cell? ⟨X, 2, none⟩ = some (.int .i64 xa) ∧ w'.cell? ⟨X, 3, none⟩ = some (.int .i64 xb)) (by kernel_rfl) hS0 (fun hHeld => ?_)
     refine Gen.tk 0 8 ?_ rfl rfl (Or.inl ⟨by rfl, ?_⟩) hHeld ?_
     rotate_left
     · intro w' hSw
       obtain ⟨s0, s1⟩ := hSw
       go_simp
       try with_reducible rfl
     go_frame
     refine Gen.tk 1 2 ?_ rfl rfl (Or.inl ⟨by rfl, ?_⟩) hHeld ?_
     rotate_left
     · intro w' hSw
       obtain ⟨s0, s1⟩ := hSw
       go_simp
       try with_reducible rfl
     go_frame
     refine Gen.tk 2 3 ?_ rfl rfl (Or.inl ⟨by rfl, ?_⟩) hHeld ?_
     rotate_left
     · intro w' hSw
       obtain ⟨s0, s1⟩ := hSw
       go_simp
       try with_reducible rfl
     go_frame
     refine Gen.tk 4 5 ?_ rfl rfl (Or.inl ⟨by rfl, ?_⟩) hHeld ?_
     rotate_left
     · intro w' hSw
       obtain ⟨s0, s1⟩ := hSw
       go_simp
       try with_reducible rfl
     go_frame
     refine Gen.tk 5 6 ?_ rfl rfl (Or.inl ⟨by rfl, ?_⟩) hHeld ?_
     rotate_left
     · intro w' hSw
       obtain ⟨s0, s1⟩ := hSw
       go_simp
       try with_reducible rfl
     go_frame
     refine Gen.one (i := 3) (by kernel_rfl) rfl rfl (fun K hK => ?_)
     go_simp
     refine (pick_any xa 3 _ (by omega) (by omega)).mono ?_
     rintro e w5 ⟨pa, pa0, pa1, rfl, rfl⟩
     dsimp only
     refine hK.out _ _ hHeld (fun hHeld => ?_)
     clear hK K
     try go_frame
     refine Gen.one (i := 6) (by kernel_rfl) rfl rfl (fun K hK => ?_)
     go_simp
     refine (pick_any xb 60 _ (by omega) (by omega)).mono ?_
     rintro e w5 ⟨pb, pb0, pb1, rfl, rfl⟩
     have hwq : IntKind.i64.wrap (pb - 1) = pb - 1 := wrapI (by omega) (by omega)
     dsimp only
     refine hK.out _ _ hHeld (fun hHeld => ?_)
     clear hK K
     try go_frame
     refine Gen.tk 7 8 ?_ rfl rfl (Or.inl ⟨by rfl, ?_⟩) hHeld ?_
     rotate_left
     · intro w' hSw
       obtain ⟨s0, s1⟩ := hSw
       go_simp
       try with_reducible rfl
     go_frame
     refine Gen.last (i := 8) (by kernel_rfl) rfl rfl (by kernel_rfl) (by kernel_rfl) (fun K hK => ?_)
     go_simp
     refine (hfl pa (pb - 1)).mono ?_
     rintro e w4 ⟨rfl, d, f⟩
     have HF : Hid (Done w w4 T A s lies (i + 1)) := by
       obtain ⟨h, hG, hb, h2, hn⟩ := HH.out
       exact Done.mk h hb.drew d f (failing_tm _ _ _) (hG.failing (by omega) _)
     dsimp only
     refine hK.out _ _ ?_
     clear hK K hHeld d f hfl
     clear HH
     go_wp2_with fail
     go_end0
     exact ⟨rfl, HF.out⟩
   by_cases q8 : xw = 8
   · subst q8
     obtain ⟨h, hG, hb, h2, hn⟩ := HH.out
     obtain ⟨H, L, b, C, g1, g2, g3, g4, g5⟩ := hG.ex
     have hcall := crash_any A s C w2 h2.wd g3 (by omega)
     clear h hG hb h2 g1 g2 g3 g5
     go_wp2_with fail
     refine hcall.mono ?_
     rintro e w4 ⟨rfl, d, f⟩
     have HF : Hid (Done w w4 T A s lies (i + 1)) := by
       obtain ⟨h, hG, hb, h2, hn⟩ := HH.out
       exact Done.mk h hb d f ⟨rfl, rfl, rfl, rfl⟩ hG.crash
     clear hcall d f
     clear HH
     go_wp2_with fail
     go_end0
     exact ⟨rfl, HF.out⟩
   by_cases q9 : xw = 9
   · subst q9
     obtain ⟨h, hG, hb, h2, hn⟩ := HH.out
     obtain ⟨H, L, b, C, g1, g2, g3, g4, g5⟩ := hG.ex
     have hok := g1.calmOk (by omega)
     have hcall := restart_any A s C w2 h2.wd g3 (by omega) hok.1 hok.2
     clear hok
     have hnf : s.sv = none → s.rs.length < 200 := (g1.calmOk (by omega)).1
     clear h hG hb h2 g1 g2 g3 g5
     go_wp2_with fail
     refine hcall.mono ?_
     rintro e w4 ⟨he, a, d, f⟩
     generalize eV (if s.sv.isSome = true then 6 else 0) = ev at he
     subst he
     have HF : Hid (Done w w4 T A s lies (i + 1)) := by
       obtain ⟨h, hG, hb, h2, hn⟩ := HH.out
       exact Done.mk h hb d f (restart_tm s) (hG.keep (fun H L b cb k q => ⟨L, k.restart q⟩) (fun C k => (k.restart' (fun q => hnf q)).mono (by omega)) (by omega))
     clear hcall d f
     clear HH
     go_wp2_with fail
     go_end0
     exact ⟨rfl, HF.out⟩
   by_cases q10 : xw = 10
   · subst q10
     obtain ⟨h, hG, hb, h2, hn⟩ := HH.out
     obtain ⟨H, L, b, C, g1, g2, g3, g4, g5⟩ := hG.ex
     have hcall := reborn_any A s kn C w2 h2.wd (by omega) g3 (by omega)
     clear h hG hb h2 g1 g2 g3 g5
     go_wp2_with fail
     refine hcall.mono ?_
     rintro e w4 ⟨rfl, A', d, f⟩
     have HF : Hid (Done w w4 T A s lies (i + 1)) := by
       obtain ⟨h, hG, hb, h2, hn⟩ := HH.out
       exact Done.mk h hb d f ⟨rfl, rfl, rfl, rfl⟩ (hG.keep (fun H L b cb k _ => ⟨L, k.reborn (by omega)⟩) (fun C k => (k.reborn (by omega)).mono (by omega)) (by omega))
     clear hcall d f
     clear HH
     go_wp2_with fail
     go_end0
     exact ⟨rfl, HF.out⟩
   by_cases q11 : xw = 11
   · subst q11
     cases lies
     · obtain ⟨h, hG, hb, h2, hn⟩ := HH.out
       obtain ⟨H, L, b, C, g1, g2, g3, g4, g5⟩ := hG.ex
       have hok : ∀ r : Nat, r ≤ 3 → ∀ j, j < r → CalmOk (s.calm j) := fun r hr j hj => by
         obtain ⟨L', k⟩ := g1.calm (by omega) (by omega) j (by omega)
         exact k.calmOk (by omega)
       have hcall := fun (r : Nat) (hr : r ≤ 3) => calm_any A s C r w2 h2.wd g3 (by omega) (hok r hr)
       have HG : Hid (∀ r : Nat, r ≤ 3 → Good (s.calm r) wr false (i + 1)) := fun r hr => hG.calm hi h2.wd.n4 hr (hok r hr)
       clear h hG hb h2 g1 g2 g3 g5 hok
       go_wp2_with fail
       refine (pick_any xa 4 _ (by omega) (by omega)).mono ?_
       rintro e w2 ⟨r, r0, r1, rfl, rfl⟩
       obtain ⟨rn, rfl⟩ : ∃ rn : Nat, r = (rn : Int) := ⟨r.toNat, by omega⟩
       go_wp2_with fail
       refine (hcall rn (by omega)).mono ?_
       rintro e w4 ⟨rfl, a, d, f⟩
       have HF : Hid (Done w w4 T A s false (i + 1)) := by
         obtain ⟨h, hG, hb, h2, hn⟩ := HH.out
         exact Done.mk h hb d f (calm_tm s rn) (HG.out rn (by omega))
       clear hcall d f HG
       clear HH
       go_wp2_with fail
       go_end0
       exact ⟨rfl, HF.out⟩
     · obtain ⟨h, hG, hb, h2, hn⟩ := HH.out
       have HF : Hid (Done w w2 T A s true (i + 1)) := Done.still h hb (hG.idle (Nat.le_refl _) (by have := hG.wr; omega))
       clear h hG hb h2 hn
       clear HH
       go_wp2_with fail
       go_end0
       exact ⟨rfl, HF.out⟩
   obtain ⟨h, hG, hb, h2, hn⟩ := HH.out
   have HF : Hid (Done w w2 T A s lies (i + 1)) := Done.still h hb (hG.idle (Nat.le_refl _) (by have := hG.wr; omega))
   clear h hG hb h2 hn
   clear HH
   go_wp2_with fail
   go_end0
   exact ⟨rfl, HF.out⟩
 · have hmz : (0 : Int) < (s.net.length : Int) := by omega
   go_wp2_with fail
   refine (pick_any xa s.net.length _ (by omega) (by omega)).mono ?_
   rintro e w2 ⟨j, j0, j1, rfl, rfl⟩
   obtain ⟨jn, rfl⟩ : ∃ jn : Nat, j = (jn : Int) := ⟨j.toNat, by omega⟩
   have hjn : jn < s.net.length := by omega
   go_upto_region 7 with fail
   by_cases q0 : xw = 0
   · subst q0
     obtain ⟨h, hG, hb, h2, hn⟩ := HH.out
     obtain ⟨H, L, b, C, g1, g2, g3, g4, g5⟩ := hG.ex
     have hcall := fun o => readW_any A s kn C o w2 h2.wd (by omega) g3 (by omega)
     clear h hG hb h2 g1 g2 g3 g5
     go_wp2_with fail
     refine (pick_any xa 3 _ (by omega) (by omega)).mono ?_
     rintro e w2 ⟨o, o0, o1, rfl, rfl⟩
     go_wp2_with fail
     refine (hcall o).mono ?_
     rintro e w4 ⟨rfl, d, f⟩
     have HF : Hid (Done w w4 T A s lies (i + 1)) := by
       obtain ⟨h, hG, hb, h2, hn⟩ := HH.out
       by_cases hf : (s.seat kn).k.freeE o = 0
       · rw [if_pos hf] at d f
         exact Done.mk h hb d f (begin_tm _ _ _) (hG.read (by omega) hf)
       · rw [if_neg hf] at d f
         exact Done.mk h hb d f (Tm.refl s) (hG.idle (Nat.le_refl _) (by have := hG.wr; omega))
     clear hcall d f
     clear HH
     go_wp2_with fail
     go_end0
     exact ⟨rfl, HF.out⟩
   by_cases q1 : xw = 1
   · subst q1
     obtain ⟨h, hG, hb, h2, hn⟩ := HH.out
     have hwr := hG.wr
     have f5 := h2.fro 5
     have hw1 : IntKind.i64.wrap ((wr : Int) + 1) = (wr : Int) + 1 := wrapI (by omega) (by omega)
     obtain ⟨k1, k2⟩ := h2.wrote ((wr : Int) + 1)
     have hTX : T ≠ X := fun e => h2.typ.ne HXc.out (by decide) e
     have v2 : (w2.setCell ⟨T, 5, none⟩ (.int .i64 ((wr : Int) + 1))).cell? ⟨X, 2, none⟩ = some (.int .i64 xa) := (World.cell?_setCell_other _ _ _ _ (by intro q; injection q with q _; exact hTX q)).trans y2
     have v5 := k1.c5
     have HK : Hid (TaleIs w T A s wr lies ∧ Good s wr lies i ∧ TaleIs (w2.setCell ⟨T, 5, none⟩ (.int .i64 ((wr : Int) + 1))) T A s ((wr + 1 : Nat) : Int) lies ∧ (∀ N, N ≤ T → N ≤ w.heap.size → Low N w A s → Below N w (w2.setCell ⟨T, 5, none⟩ (.int .i64 ((wr : Int) + 1))) ∧ Low N (w2.setCell ⟨T, 5, none⟩ (.int .i64 ((wr : Int) + 1))) A s) ∧ s.n = n) := by
       refine ⟨h, hG, by rw [show ((wr + 1 : Nat) : Int) = (wr : Int) + 1 by omega]; exact k1, fun N hT hN hL => ?_, hn⟩
       have hL2 := hL.step (h.wd.below hb).2 hN
       exact ⟨Below.setCell (hb.mono hN) (show N ≤ (⟨T, 5, none⟩ : Addr).block from hT) _, fun k hk => hL2 k (k2 k hk)⟩
     clear h hG hb h2 hn k1 k2 HH y2 y3 z6 HXc hXl2
     go_upto_region 11 with fail
     generalize w2.setCell ⟨T, 5, none⟩ (.int .i64 ((wr : Int) + 1)) = w3 at *
     have hu : IntKind.u8.wrap ((wr : Int) + 1) = (wr : Int) + 1 := by unfold IntKind.wrap; simp [IntKind.bits, IntKind.signed]; omega
     have hsh : ((wr : Int) + 1) / 256 = 0 := by omega
     have hu0 : IntKind.u8.wrap 0 = 0 := by decide
     obtain ⟨d, hd⟩ : ∃ d, strOf [119, (wr : Int) + 1, 0] = d := ⟨_, rfl⟩
     have hlT : T < w3.heap.size := HK.out.2.2.1.typ.lt
     have hlX : X < w3.heap.size := World.block_lt_of_cell? _ _ v2
     have b6 : Below w3.heap.size w3 (w3.alloc (.cells #[.int .u8 119, .int .u8 ((wr : Int) + 1), .int .u8 0] 5)).drew := ((Below.refl _ _).alloc (Nat.le_refl _) _).drew
     have e2 := (b6.cell (p := ⟨X, 2, none⟩) hlX).trans v2
     have e5 := (b6.cell (p := ⟨T, 5, none⟩) hlT).trans v5
     have hcv : (convert 59 9 (.slice (some ⟨w3.heap.size, 0, none⟩) 3 3)).run Tryz.prog (w3.alloc (.cells #[.int .u8 119, .int .u8 ((wr : Int) + 1), .int .u8 0] 5)).drew = .ok (.string d) (w3.alloc (.cells #[.int .u8 119, .int .u8 ((wr : Int) + 1), .int .u8 0] 5)).drew := by
       rw [← hd]
       refine Wire.conv_cells ⟨w3.heap.size, 0, none⟩ [119, (wr : Int) + 1, 0] 3 fun j v hj => ?_
       have hc := cell_of_row (w3.alloc (.cells #[.int .u8 119, .int .u8 ((wr : Int) + 1), .int .u8 0] 5)).drew w3.heap.size j _ _ _ (heap_alloc_new w3 _)
       have hz : (⟨w3.heap.size, 0, none⟩ : Addr).add j = ⟨w3.heap.size, j, none⟩ := by
         simp [Addr.add]
         exact fun q => q.symm
       rw [hz, hc, ← hj]
       simp
     have hwd := HK.out.2.2.1.below b6
     have hgd := HK.out.2.1
     obtain ⟨H, L, b, C, g1, g2, g3, g4, g5⟩ := hgd.ex
     have htx : TxtIs d (wr + 1) := by rw [← hd]; exact txt_is (by omega)
     have hcall := fun o => writeW_any A s kn C o d _ hwd.wd (by have := HK.out.2.2.2.2; omega) g3 (by omega) (by rw [htx.1]; omega)
     have HQ : Hid (∀ o w4, WdIs w4 A (if (s.seat kn).k.writeE o d = 0 then s.write kn o d else s) → Fz A s (w3.alloc (.cells #[.int .u8 119, .int .u8 ((wr : Int) + 1), .int .u8 0] 5)).drew A (if (s.seat kn).k.writeE o d = 0 then s.write kn o d else s) w4 → Hid (Done w w4 T A s lies (i + 1))) := fun o w4 dd ff => by
       have hnn := HK.out.2.2.2.2
       have hfin : ∀ s', WdIs w4 A s' → Fz A s (w3.alloc (.cells #[.int .u8 119, .int .u8 ((wr : Int) + 1), .int .u8 0] 5)).drew A s' w4 → Tm s s' → Good s' (wr + 1) lies (i + 1) → Done w w4 T A s lies (i + 1) := fun s' a1 a2 a3 a4 => ⟨A, s', wr + 1, hwd.moved a1 a2 a3, a4, fun N hT hN hL => by
         obtain ⟨u1, u2⟩ := HK.out.2.2.2.1 N hT hN hL
         have u3 := u2.step (HK.out.2.2.1.wd.below b6).2 (by omega)
         exact ⟨(u1.trans (b6.mono (by omega))).trans (a2.below u3 hwd.wd.lt), u3.step a2 (by have := b6.size; omega)⟩⟩
       by_cases hf : (s.seat kn).k.writeE o d = 0
       · rw [if_pos hf] at dd ff
         exact hfin _ dd ff (begin_tm _ _ _) (hgd.write (by omega) htx hf)
       · rw [if_neg hf] at dd ff
         exact hfin _ dd ff (Tm.refl s) (hgd.idle (by omega) (by omega))
     clear hwd hgd g1 g2 g3 g5 htx hd b6
     have hS0 : w3.drew.cell? ⟨X, 2, none⟩ = some (.int .i64 xa) ∧ w3.drew.cell? ⟨T, 5, none⟩ = some (.int .i64 ((wr : Int) + 1)) := ⟨v2, v5⟩
     refine Gen.start (S := fun w' => w'.cell? ⟨X, 2, none⟩ = some (.int .i64 xa) ∧ w'.cell? ⟨T, 5, none⟩ = some (.int .i64 ((wr : Int) + 1))) (by kernel_rfl) hS0 (fun hHeld => ?_)
     refine Gen.tk 0 18 ?_ rfl rfl (Or.inl ⟨by rfl, ?_⟩) hHeld ?_
     rotate_left
     · intro w' hSw
       obtain ⟨s0, s1⟩ := hSw
       go_simp
       try with_reducible rfl
     go_frame
     refine Gen.tk 1 18 ?_ rfl rfl (Or.inl ⟨by rfl, ?_⟩) hHeld ?_
     rotate_left
     · intro w' hSw
       obtain ⟨s0, s1⟩ := hSw
       go_simp
       try with_reducible rfl
     go_frame
     refine Gen.tk 2 3 ?_ rfl rfl (Or.inl ⟨by rfl, ?_⟩) hHeld ?_
     rotate_left
     · intro w' hSw
       obtain ⟨s0, s1⟩ := hSw
       go_simp
       try with_reducible rfl
     go_frame
     refine Gen.tk 3 4 ?_ rfl rfl (Or.inl ⟨by rfl, ?_⟩) hHeld ?_
     rotate_left
     · intro w' hSw
       obtain ⟨s0, s1⟩ := hSw
       go_simp
       try with_reducible rfl
     go_frame
     refine Gen.tk 5 6 ?_ rfl rfl (Or.inl ⟨by rfl, ?_⟩) hHeld ?_
     rotate_left
     · intro w' hSw
       obtain ⟨s0, s1⟩ := hSw
       go_simp
       try with_reducible rfl
     go_frame
     refine Gen.tk 6 7 ?_ rfl rfl (Or.inl ⟨by rfl, ?_⟩) hHeld ?_
     rotate_left
     · intro w' hSw
       obtain ⟨s0, s1⟩ := hSw
       go_simp
       try with_reducible rfl
     go_frame
     refine Gen.tk 7 8 ?_ rfl rfl (Or.inl ⟨by rfl, ?_⟩) hHeld ?_
     rotate_left
     · intro w' hSw
       obtain ⟨s0, s1⟩ := hSw
       go_simp
       try with_reducible rfl
     go_frame
     refine Gen.tk 8 9 ?_ rfl rfl (Or.inl ⟨by rfl, ?_⟩) hHeld ?_
     rotate_left
     · intro w' hSw
       obtain ⟨s0, s1⟩ := hSw
       go_simp
       try with_reducible rfl
     go_frame
     refine Gen.tk 9 16 ?_ rfl rfl (Or.inl ⟨by rfl, ?_⟩) hHeld ?_
     rotate_left
     · intro w' hSw
       obtain ⟨s0, s1⟩ := hSw
       go_simp
       try with_reducible rfl
     go_frame
     refine Gen.tk 10 11 ?_ rfl rfl (Or.inl ⟨by rfl, ?_⟩) hHeld ?_
     rotate_left
     · intro w' hSw
       obtain ⟨s0, s1⟩ := hSw
       go_simp
       try with_reducible rfl
     go_frame
     refine Gen.tk 11 12 ?_ rfl rfl (Or.inl ⟨by rfl, ?_⟩) hHeld ?_
     rotate_left
     · intro w' hSw
       obtain ⟨s0, s1⟩ := hSw
       go_simp
       try with_reducible rfl
     go_frame
     refine Gen.tk 12 13 ?_ rfl rfl (Or.inl ⟨by rfl, ?_⟩) hHeld ?_
     rotate_left
     · intro w' hSw
       obtain ⟨s0, s1⟩ := hSw
       go_simp
       try with_reducible rfl
     go_frame
     refine Gen.tk 13 14 ?_ rfl rfl (Or.inl ⟨by rfl, ?_⟩) hHeld ?_
     rotate_left
     · intro w' hSw
       obtain ⟨s0, s1⟩ := hSw
       go_simp
       try with_reducible rfl
     go_frame
     refine Gen.tk 14 15 ?_ rfl rfl (Or.inl ⟨by rfl, ?_⟩) hHeld ?_
     rotate_left
     · intro w' hSw
       obtain ⟨s0, s1⟩ := hSw
       go_simp
       try with_reducible rfl
     go_frame
     refine Gen.tk 15 16 ?_ rfl rfl (Or.inl ⟨by rfl, ?_⟩) hHeld ?_
     rotate_left
     · intro w' hSw
       obtain ⟨s0, s1⟩ := hSw
       go_simp
       try with_reducible rfl
     go_frame
     refine Gen.two (i := 4) (j := 16) (by kernel_rfl) rfl rfl rfl rfl (fun K hK => ?_) (fun K hK => ?_)
     · go_simp
       refine (pick_any xa 3 _ (by omega) (by omega)).mono ?_
       rintro e w5 ⟨o, o0, o1, rfl, rfl⟩
       dsimp only
       refine hK.out _ _ hHeld (fun hHeld => ?_)
       clear hK K
       try go_frame
       refine Gen.one (i := 16) (by kernel_rfl) rfl rfl (fun K hK => ?_)
       go_simp
       refine hK.out _ _ ⟨e2, e5⟩ (fun hHeld => ?_)
       clear hK K
       try go_frame
       refine Gen.one (i := 17) (by kernel_rfl) rfl rfl (fun K hK => ?_)
       go_simp
       refine hK.out _ _ ⟨e2, e5⟩ (fun hHeld => ?_)
       clear hK K
       try go_frame
       refine Gen.last (i := 18) (by kernel_rfl) rfl rfl (by kernel_rfl) (by kernel_rfl) (fun K hK => ?_)
       go_simp
       refine (hcall o).mono ?_
       rintro e w4 ⟨rfl, dd, ff⟩
       have HF : Hid (Done w w4 T A s lies (i + 1)) := HQ.out o w4 dd ff
       dsimp only
       refine hK.out _ _ ?_
       clear hK K hHeld dd ff hcall HQ HK
       go_wp2_with fail
       go_end0
       exact ⟨rfl, HF.out⟩
     · go_simp
       refine hK.out _ _ ⟨e2, e5⟩ (fun hHeld => ?_)
       clear hK K
       try go_frame
       refine Gen.two (i := 4) (j := 17) (by kernel_rfl) rfl rfl rfl rfl (fun K hK => ?_) (fun K hK => ?_)
       · go_simp
         refine (pick_any xa 3 _ (by omega) (by omega)).mono ?_
         rintro e w5 ⟨o, o0, o1, rfl, rfl⟩
         dsimp only
         refine hK.out _ _ ⟨e2, e5⟩ (fun hHeld => ?_)
         clear hK K
         try go_frame
         refine Gen.one (i := 17) (by kernel_rfl) rfl rfl (fun K hK => ?_)
         go_simp
         refine hK.out _ _ ⟨e2, e5⟩ (fun hHeld => ?_)
         clear hK K
         try go_frame
         refine Gen.last (i := 18) (by kernel_rfl) rfl rfl (by kernel_rfl) (by kernel_rfl) (fun K hK => ?_)
         go_simp
         refine (hcall o).mono ?_
         rintro e w4 ⟨rfl, dd, ff⟩
         have HF : Hid (Done w w4 T A s lies (i + 1)) := HQ.out o w4 dd ff
         dsimp only
         refine hK.out _ _ ?_
         clear hK K hHeld dd ff hcall HQ HK
         go_wp2_with fail
         go_end0
         exact ⟨rfl, HF.out⟩
       · go_simp
         refine hK.out _ _ ⟨e2, e5⟩ (fun hHeld => ?_)
         clear hK K
         try go_frame
         refine Gen.one (i := 4) (by kernel_rfl) rfl rfl (fun K hK => ?_)
         go_simp
         refine (pick_any xa 3 _ (by omega) (by omega)).mono ?_
         rintro e w5 ⟨o, o0, o1, rfl, rfl⟩
         dsimp only
         refine hK.out _ _ ⟨e2, e5⟩ (fun hHeld => ?_)
         clear hK K
         try go_frame
         refine Gen.last (i := 18) (by kernel_rfl) rfl rfl (by kernel_rfl) (by kernel_rfl) (fun K hK => ?_)
         go_simp
         refine (hcall o).mono ?_
         rintro e w4 ⟨rfl, dd, ff⟩
         have HF : Hid (Done w w4 T A s lies (i + 1)) := HQ.out o w4 dd ff
         dsimp only
         refine hK.out _ _ ?_
         clear hK K hHeld dd ff hcall HQ HK
         go_wp2_with fail
         go_end0
         exact ⟨rfl, HF.out⟩
   by_cases q2 : xw = 2
   · subst q2
     obtain ⟨h, hG, hb, h2, hn⟩ := HH.out
     obtain ⟨H, L, b, C, g1, g2, g3, g4, g5⟩ := hG.ex
     have hcall := againW_any A s kn C w2 h2.wd (by omega) g3 (by omega)
     clear h hG hb h2 g1 g2 g3 g5
     go_wp2_with fail
     refine hcall.mono ?_
     rintro e w4 ⟨rfl, d, f⟩
     have HF : Hid (Done w w4 T A s lies (i + 1)) := by
       obtain ⟨h, hG, hb, h2, hn⟩ := HH.out
       exact Done.mk h hb d f (Tm.trans (b := { s with step := s.step + 1 }) ⟨rfl, rfl, rfl, rfl⟩ (ask_tm _ kn)) (hG.keep (fun H L b cb k _ => k.again (by omega)) (fun C k => (k.again (by omega)).mono (by omega)) (by omega))
     clear hcall d f
     clear HH
     go_wp2_with fail
     go_end0
     exact ⟨rfl, HF.out⟩
   by_cases q3 : xw = 3
   · subst q3
     obtain ⟨h, hG, hb, h2, hn⟩ := HH.out
     obtain ⟨H, L, b, C, g1, g2, g3, g4, g5⟩ := hG.ex
     have hcall := deliver_any A s jn C w2 h2.wd hjn g3 (by omega)
     clear h hG hb h2 g1 g2 g3 g5
     go_wp2_with fail
     refine hcall.mono ?_
     rintro e w4 ⟨rfl, d, f⟩
     have HF : Hid (Done w w4 T A s lies (i + 1)) := by
       obtain ⟨h, hG, hb, h2, hn⟩ := HH.out
       exact Done.mk h hb d f (deliver_tm s jn) (hG.keep (fun H L b cb k q => k.deliver q jn) (fun C k => (k.deliver jn).mono (by omega)) (by omega))
     clear hcall d f
     clear HH
     go_wp2_with fail
     go_end0
     exact ⟨rfl, HF.out⟩
   by_cases q4 : xw = 4
   · subst q4
     obtain ⟨h, hG, hb, h2, hn⟩ := HH.out
     obtain ⟨H, L, b, C, g1, g2, g3, g4, g5⟩ := hG.ex
     have hcall := lose_any A s jn C w2 h2.wd hjn g3
     clear h hG hb h2 g1 g2 g3 g5
     go_wp2_with fail
     refine hcall.mono ?_
     rintro e w4 ⟨rfl, d, f⟩
     have HF : Hid (Done w w4 T A s lies (i + 1)) := by
       obtain ⟨h, hG, hb, h2, hn⟩ := HH.out
       exact Done.mk h hb d f ⟨rfl, rfl, rfl, rfl⟩ (hG.keep (fun H L b cb k _ => ⟨L, k.lose jn⟩) (fun C k => (k.lose jn).mono (by omega)) (by omega))
     clear hcall d f
     clear HH
     go_wp2_with fail
     go_end0
     exact ⟨rfl, HF.out⟩
   by_cases q5 : xw = 5
   · subst q5
     obtain ⟨h, hG, hb, h2, hn⟩ := HH.out
     obtain ⟨H, L, b, C, g1, g2, g3, g4, g5⟩ := hG.ex
     have hcall := twice_any A s jn w2 h2.wd hjn
     clear h hG hb h2 g1 g2 g3 g5
     go_wp2_with fail
     refine hcall.mono ?_
     rintro e w4 ⟨rfl, d, f⟩
     have HF : Hid (Done w w4 T A s lies (i + 1)) := by
       obtain ⟨h, hG, hb, h2, hn⟩ := HH.out
       exact Done.mk h hb d f (twice_tm s jn) (hG.keep (fun H L b cb k _ => ⟨L, k.twice jn⟩) (fun C k => (k.twice jn).mono (by omega)) (by omega))
     clear hcall d f
     clear HH
     go_wp2_with fail
     go_end0
     exact ⟨rfl, HF.out⟩
   by_cases q6 : xw = 6
   · subst q6
     obtain ⟨h, hG, hb, h2, hn⟩ := HH.out
     obtain ⟨H, L, b, C, g1, g2, g3, g4, g5⟩ := hG.ex
     have hcall := goesT_any T C A s wr xa xb lies w2 h2 g3 (by omega)
     clear h hG hb h2 g1 g2 g3 g5
     go_wp2_with fail
     refine hcall.mono ?_
     rintro e w4 ⟨rfl, g, b0, ff, q0, q1, q2, q3, d, f⟩
     have HF : Hid (Done w w4 T A s lies (i + 1)) := by
       obtain ⟨h, hG, hb, h2, hn⟩ := HH.out
       unfold GoOk at q2 q3
       exact Done.mk h hb d f (goes_tm _ _ _) (hG.goes (g := g) (by omega) ⟨q2.1, q2.2.1⟩ (fun k hk => ⟨(q3 k hk).1, (q3 k hk).2.1⟩) fun q => ⟨(q2.2.2 q).2, fun k hk => ((q3 k hk).2.2 q).1⟩)
     clear hcall d f q2 q3
     clear HH
     go_wp2_with fail
     go_end0
     exact ⟨rfl, HF.out⟩
   by_cases q7 : xw = 7
   · subst q7
     obtain ⟨h, hG, hb, h2, hn⟩ := HH.out
     have h2d := (h2.below (Below.refl w2.heap.size w2).drew).wd
     have hfl := fun a b => fails_any A s a b w2.drew h2d
     have hS0 : w2.drew.cell? ⟨X, 2, none⟩ = some (.int .i64 xa) ∧ w2.drew.cell? ⟨X, 3, none⟩ = some (.int .i64 xb) := ⟨y2, y3⟩
     clear h hG hb h2 h2d
     go_upto_region 23 with fail
     refine Gen.start (S := fun w' => w'.cell? ⟨X, 2, none⟩ = some (.int .i64 xa) ∧ w'.cell? ⟨X, 3, none⟩ = some (.int .i64 xb)) (by kernel_rfl) hS0 (fun hHeld => ?_)
     refine Gen.tk 0 8 ?_ rfl rfl (Or.inl ⟨by rfl, ?_⟩) hHeld ?_
     rotate_left
     · intro w' hSw
       obtain ⟨s0, s1⟩ := hSw
       go_simp
       try with_reducible rfl
     go_frame
     refine Gen.tk 1 2 ?_ rfl rfl (Or.inl ⟨by rfl, ?_⟩) hHeld ?_
     rotate_left
     · intro w' hSw
       obtain ⟨s0, s1⟩ := hSw
       go_simp
       try with_reducible rfl
     go_frame
     refine Gen.tk 2 3 ?_ rfl rfl (Or.inl ⟨by rfl, ?_⟩) hHeld ?_
     rotate_left
     · intro w' hSw
       obtain ⟨s0, s1⟩ := hSw
       go_simp
       try with_reducible rfl
     go_frame
     refine Gen.tk 4 5 ?_ rfl rfl (Or.inl ⟨by rfl, ?_⟩) hHeld ?_
     rotate_left
     · intro w' hSw
       obtain ⟨s0, s1⟩ := hSw
       go_simp
       try with_reducible rfl
     go_frame
     refine Gen.tk 5 6 ?_ rfl rfl (Or.inl ⟨by rfl, ?_⟩) hHeld ?_
     rotate_left
     · intro w' hSw
       obtain ⟨s0, s1⟩ := hSw
       go_simp
       try with_reducible rfl
     go_frame
     refine Gen.one (i := 3) (by kernel_rfl) rfl rfl (fun K hK => ?_)
     go_simp
     refine (pick_any xa 3 _ (by omega) (by omega)).mono ?_
     rintro e w5 ⟨pa, pa0, pa1, rfl, rfl⟩
     dsimp only
     refine hK.out _ _ hHeld (fun hHeld => ?_)
     clear hK K
     try go_frame
     refine Gen.one (i := 6) (by kernel_rfl) rfl rfl (fun K hK => ?_)
     go_simp
     refine (pick_any xb 60 _ (by omega) (by omega)).mono ?_
     rintro e w5 ⟨pb, pb0, pb1, rfl, rfl⟩
     have hwq : IntKind.i64.wrap (pb - 1) = pb - 1 := wrapI (by omega) (by omega)
     dsimp only
     refine hK.out _ _ hHeld (fun hHeld => ?_)
     clear hK K
     try go_frame
     refine Gen.tk 7 8 ?_ rfl rfl (Or.inl ⟨by rfl, ?_⟩) hHeld ?_
     rotate_left
     · intro w' hSw
       obtain ⟨s0, s1⟩ := hSw
       go_simp
       try with_reducible rfl
     go_frame
     refine Gen.last (i := 8) (by kernel_rfl) rfl rfl (by kernel_rfl) (by kernel_rfl) (fun K hK => ?_)
     go_simp
     refine (hfl pa (pb - 1)).mono ?_
     rintro e w4 ⟨rfl, d, f⟩
     have HF : Hid (Done w w4 T A s lies (i + 1)) := by
       obtain ⟨h, hG, hb, h2, hn⟩ := HH.out
       exact Done.mk h hb.drew d f (failing_tm _ _ _) (hG.failing (by omega) _)
     dsimp only
     refine hK.out _ _ ?_
     clear hK K hHeld d f hfl
     clear HH
     go_wp2_with fail
     go_end0
     exact ⟨rfl, HF.out⟩
   by_cases q8 : xw = 8
   · subst q8
     obtain ⟨h, hG, hb, h2, hn⟩ := HH.out
     obtain ⟨H, L, b, C, g1, g2, g3, g4, g5⟩ := hG.ex
     have hcall := crash_any A s C w2 h2.wd g3 (by omega)
     clear h hG hb h2 g1 g2 g3 g5
     go_wp2_with fail
     refine hcall.mono ?_
     rintro e w4 ⟨rfl, d, f⟩
     have HF : Hid (Done w w4 T A s lies (i + 1)) := by
       obtain ⟨h, hG, hb, h2, hn⟩ := HH.out
       exact Done.mk h hb d f ⟨rfl, rfl, rfl, rfl⟩ hG.crash
     clear hcall d f
     clear HH
     go_wp2_with fail
     go_end0
     exact ⟨rfl, HF.out⟩
   by_cases q9 : xw = 9
   · subst q9
     obtain ⟨h, hG, hb, h2, hn⟩ := HH.out
     obtain ⟨H, L, b, C, g1, g2, g3, g4, g5⟩ := hG.ex
     have hok := g1.calmOk (by omega)
     have hcall := restart_any A s C w2 h2.wd g3 (by omega) hok.1 hok.2
     clear hok
     have hnf : s.sv = none → s.rs.length < 200 := (g1.calmOk (by omega)).1
     clear h hG hb h2 g1 g2 g3 g5
     go_wp2_with fail
     refine hcall.mono ?_
     rintro e w4 ⟨he, a, d, f⟩
     generalize eV (if s.sv.isSome = true then 6 else 0) = ev at he
     subst he
     have HF : Hid (Done w w4 T A s lies (i + 1)) := by
       obtain ⟨h, hG, hb, h2, hn⟩ := HH.out
       exact Done.mk h hb d f (restart_tm s) (hG.keep (fun H L b cb k q => ⟨L, k.restart q⟩) (fun C k => (k.restart' (fun q => hnf q)).mono (by omega)) (by omega))
     clear hcall d f
     clear HH
     go_wp2_with fail
     go_end0
     exact ⟨rfl, HF.out⟩
   by_cases q10 : xw = 10
   · subst q10
     obtain ⟨h, hG, hb, h2, hn⟩ := HH.out
     obtain ⟨H, L, b, C, g1, g2, g3, g4, g5⟩ := hG.ex
     have hcall := reborn_any A s kn C w2 h2.wd (by omega) g3 (by omega)
     clear h hG hb h2 g1 g2 g3 g5
     go_wp2_with fail
     refine hcall.mono ?_
     rintro e w4 ⟨rfl, A', d, f⟩
     have HF : Hid (Done w w4 T A s lies (i + 1)) := by
       obtain ⟨h, hG, hb, h2, hn⟩ := HH.out
       exact Done.mk h hb d f ⟨rfl, rfl, rfl, rfl⟩ (hG.keep (fun H L b cb k _ => ⟨L, k.reborn (by omega)⟩) (fun C k => (k.reborn (by omega)).mono (by omega)) (by omega))
     clear hcall d f
     clear HH
     go_wp2_with fail
     go_end0
     exact ⟨rfl, HF.out⟩
   by_cases q11 : xw = 11
   · subst q11
     cases lies
     · obtain ⟨h, hG, hb, h2, hn⟩ := HH.out
       obtain ⟨H, L, b, C, g1, g2, g3, g4, g5⟩ := hG.ex
       have hok : ∀ r : Nat, r ≤ 3 → ∀ j, j < r → CalmOk (s.calm j) := fun r hr j hj => by
         obtain ⟨L', k⟩ := g1.calm (by omega) (by omega) j (by omega)
         exact k.calmOk (by omega)
       have hcall := fun (r : Nat) (hr : r ≤ 3) => calm_any A s C r w2 h2.wd g3 (by omega) (hok r hr)
       have HG : Hid (∀ r : Nat, r ≤ 3 → Good (s.calm r) wr false (i + 1)) := fun r hr => hG.calm hi h2.wd.n4 hr (hok r hr)
       clear h hG hb h2 g1 g2 g3 g5 hok
       go_wp2_with fail
       refine (pick_any xa 4 _ (by omega) (by omega)).mono ?_
       rintro e w2 ⟨r, r0, r1, rfl, rfl⟩
       obtain ⟨rn, rfl⟩ : ∃ rn : Nat, r = (rn : Int) := ⟨r.toNat, by omega⟩
       go_wp2_with fail
       refine (hcall rn (by omega)).mono ?_
       rintro e w4 ⟨rfl, a, d, f⟩
       have HF : Hid (Done w w4 T A s false (i + 1)) := by
         obtain ⟨h, hG, hb, h2, hn⟩ := HH.out
         exact Done.mk h hb d f (calm_tm s rn) (HG.out rn (by omega))
       clear hcall d f HG
       clear HH
       go_wp2_with fail
       go_end0
       exact ⟨rfl, HF.out⟩
     · obtain ⟨h, hG, hb, h2, hn⟩ := HH.out
       have HF : Hid (Done w w2 T A s true (i + 1)) := Done.still h hb (hG.idle (Nat.le_refl _) (by have := hG.wr; omega))
       clear h hG hb h2 hn
       clear HH
       go_wp2_with fail
       go_end0
       exact ⟨rfl, HF.out⟩
   obtain ⟨h, hG, hb, h2, hn⟩ := HH.out
   have HF : Hid (Done w w2 T A s lies (i + 1)) := Done.still h hb (hG.idle (Nat.le_refl _) (by have := hG.wr; omega))
   clear h hG hb h2 hn
   clear HH
   go_wp2_with fail
   go_end0
   exact ⟨rfl, HF.out⟩
end Wld
end
end Go.Proofs.YtbebfliimjjohaaGreatDoor
