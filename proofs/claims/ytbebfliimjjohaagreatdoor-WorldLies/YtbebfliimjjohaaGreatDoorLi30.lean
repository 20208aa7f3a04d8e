/-
  Parts of the proof: WrmB WrmC.
-/
import Derived.Test.YtbebfliimjjohaaGreatDoorLi29
import Derived.Maps.RangeWalk
namespace Go.Proofs.YtbebfliimjjohaaGreatDoor
section
namespace Wld
open Go.RowKit Go.Maps
open Lease (Ob I64 upd TabIs hol dels objB HasI map_block map_ne mx)
open Cache (tp row_kept row_below)
open Wal (R WalIs DiskIs Oq Fw rcells)
open Num (M okB strOf ints)
open Net (NetIs Only pcells)
theorem WdIs.started {w w' : World} {A : Wa} {s : Wd} (h : WdIs w A s) (hs : s.sv = none) {a : Ad} {v : Sv} (hS : SvIs w' a v) (hq : a.q = A.Q) (hO : Oq A.Q w w') (hft : ∀ k, foot w' a k → k = A.Q ∨ w.heap.size ≤ k) (h1 : v.to = s.to) (h2 : v.tv = s.tv) :
   WdIs (w'.setCell ⟨A.Q, 12407, none⟩ (tp a.S)) { A with a := a } (s.served v) ∧ Fz A s w { A with a := a } (s.served v) (w'.setCell ⟨A.Q, 12407, none⟩ (tp a.S)) := by
 have hlt := h.lt
 obtain ⟨kd0, kd1, kd2⟩ := h.kinds
 have hl := hS.lts
 have hz := hO.size
 have hb1 : ∀ k, k ≠ A.Q → (w'.setCell ⟨A.Q, 12407, none⟩ (tp a.S)).heap[k]? = w'.heap[k]? := fun k hk => Below.heap_setCell w' ⟨A.Q, 12407, none⟩ (tp a.S) k hk
 have hb : ∀ k, k < w.heap.size → k ≠ A.Q → (w'.setCell ⟨A.Q, 12407, none⟩ (tp a.S)).heap[k]? = w.heap[k]? := fun k hk hq => (hb1 k hq).trans (hO.block k hk hq)
 have eQ1 : ∀ i, i ≠ 12407 → (w'.setCell ⟨A.Q, 12407, none⟩ (tp a.S)).cell? ⟨A.Q, i, none⟩ = w'.cell? ⟨A.Q, i, none⟩ := fun i hi => World.cell?_setCell_other _ _ _ _ (by intro q; injection q with _ q; exact hi q.symm)
 have eQ : ∀ i, (i < 3 ∨ 12405 ≤ i) → i ≠ 12407 → (w'.setCell ⟨A.Q, 12407, none⟩ (tp a.S)).cell? ⟨A.Q, i, none⟩ = w.cell? ⟨A.Q, i, none⟩ := fun i hi hn => (eQ1 i hn).trans (hO.cell i hlt hi)
 have fQ1 : ∀ i, (w'.setCell ⟨A.Q, 12407, none⟩ (tp a.S)).frozen? ⟨A.Q, i, none⟩ = w'.frozen? ⟨A.Q, i, none⟩ := fun i => World.frozen?_setCell _ _ _ _
 have fQ : ∀ i, (w'.setCell ⟨A.Q, 12407, none⟩ (tp a.S)).frozen? ⟨A.Q, i, none⟩ = w.frozen? ⟨A.Q, i, none⟩ := fun i => (fQ1 i).trans (hO.fro i hlt)
 have hsz : (w'.setCell ⟨A.Q, 12407, none⟩ (tp a.S)).heap.size = w'.heap.size := by simp
 have hG := hb A.G h.gt.lt (Ne.symm kd0)
 have hN : NetIs (w'.setCell ⟨A.Q, 12407, none⟩ (tp a.S)) (A.Q + 1) A.Q (s.net.map encN) := NetIs.kept h.net (by omega) (eQ _ (by omega) (by omega)) (eQ _ (by omega) (by omega)) fQ fun v g hv hg => by
   obtain ⟨v', hv', hr⟩ := h.net.row
   rw [hv] at hv'
   injection hv' with hv'
   subst hv'
   exact hb g (row_isC hr hg).2.lt (by have := (row_isC hr hg).1; omega)
 have hD : DiskIs (w'.setCell ⟨A.Q, 12407, none⟩ (tp a.S)) A.Q v.rs v.fails v.left := DiskIs.cells (by rw [← hq]; exact hS.disk) (fun i _ _ => eQ1 i (by omega)) fQ1
 have hT : isC (w'.setCell ⟨A.Q, 12407, none⟩ (tp a.S)) A.Q 75 := Wal.typ_setCell (hO.typ _ h.core.typ)
 have hSv : SvIs (w'.setCell ⟨A.Q, 12407, none⟩ (tp a.S)) a v := hS.feet (by omega) (by rw [hq]; exact hD) (fun k hk hkq => hb1 k (by rw [← hq]; exact hkq))
 have c := h.core
 have old := c.srv
 rw [hs] at old
 have old' : w'.cell? ⟨A.Q, 12407, none⟩ = some (svP A none) := (hO.cell _ hlt (by omega)).trans old
 refine ⟨⟨⟨hT, fun i => (fQ i).trans (c.free i), (eQ _ (by omega) (by omega)).trans c.c0, (eQ _ (by omega) (by omega)).trans c.c1, (eQ _ (by omega) (by omega)).trans c.c2, World.cell?_setCell_same _ _ _ old', (eQ _ (by omega) (by omega)).trans c.clk, (eQ _ (by omega) (by omega)).trans c.sts, (eQ _ (by omega) (by omega)).trans c.stp⟩,
   hD, hN, h.evs.imp fun v hv => ⟨(eQ _ (by omega) (by omega)).trans hv.1, row_kept hv.2 fun g hg => hb g (row_isC hv.2 hg).2.lt (by have := (row_isC hv.2 hg).1; omega)⟩, h.gt.same hG, fun i => (World.frozen?_of_block (a := ⟨A.G, i, none⟩) hG).trans (h.gf i), fun j hj => (h.seats j hj).same hG,
   fun j hj => (h.cli j hj).blocks (hb _ (h.cli j hj).lt.1 (Ne.symm (kd1 j hj).1)) (hb _ (h.cli j hj).lt.2 (Ne.symm (kd1 j hj).2.1)), h.ap, fun x hx => ?_, h.n1, h.n4⟩,
   ⟨hO.os, hO.tape, hO.output, by omega, fun k hk hf _ => hb k hk (fun e => hf (.Q e)), fun k hk f => ?_, rfl⟩⟩
 · have hx' : some v = some x := hx
   injection hx' with hx'
   subst hx'
   refine ⟨hSv, hq, rfl, rfl, rfl, fun i hi e => ?_, h1, h2⟩
   have e' : A.m i = a.m := e
   have hm := (h.cli i hi).lt.2
   have hmQ := (kd1 i hi).2.1
   rcases hft a.m (.inr (.inl rfl)) with q | q
   · exact hmQ (by rw [e', q])
   · omega
 · rcases f with f | f | ⟨x, f1, f2⟩ | ⟨i, hi, f⟩ | ⟨i, hi, f⟩ | ⟨f1, f2⟩
   · exact .Q f
   · exact .G f
   · exact .ev x ((eQ _ (by omega) (by omega)).symm.trans f1) f2
   · exact .c i hi f
   · exact .m i hi f
   · have f2' : foot w' a k := (foot_kept (hb1 a.U (by rw [← hq]; omega)) (hb1 a.S (by rw [← hq]; omega)) k).1 f2
     rcases hft k f2' with q | q
     · exact .Q q
     · omega
set_option maxHeartbeats 4000000 in
set_option maxRecDepth 100000 in
theorem start_any (A : Wa) (s : Wd) (C : Nat) (w : World) (h : WdIs w A s) (hs : s.sv = none) (hB : WdB s C) (hl : s.rs.length < 200) (hr : ∀ r ∈ s.rs, 0 ≤ r.c ∧ r.o < 8) :
   Calls Tryz.prog 35 #[tp A.Q] w fun e w' => e = .returned (.tuple #[]) ∧ ∃ a, WdIs w' { A with a := a } s.start ∧ Fz A s w { A with a := a } s.start w' := by
 have hcut := Wal.cut_any A.Q s.rs s.fails s.left (-1) w h.disk
 rw [show decide ((0 : Int) ≤ -1) = false from rfl, show max (-1 : Int) 0 = 0 from rfl] at hcut
 obtain ⟨n1, n2, n3, n4, n5⟩ := SvB.new (to' := s.to) (tv := s.tv) (td := s.td) (now := s.clock) hB.recs hl
 go_enter Tryz.func35, Tryz.ntmps35
 go_wp2_with fail
 refine hcut.mono ?_
 rintro e w2 ⟨rfl, hD2, hO2⟩
 obtain ⟨x1, x2⟩ := (h.cut hD2 hO2).1 hs
 clear hcut hD2 hO2 h
 go_upto_region 1 with fail
 obtain ⟨z1, z2⟩ := x1.below (Below.refl w2.heap.size w2).drew
 have hnew := newS_any A.Q s.to s.tv s.td s.clock s.rs w2.drew z1.disk z1.lt hl hr n4 n5 hB.c0 hB.c1 hB.tv0 hB.tv1
 have c0 := x1.core.c0
 have c1 := x1.core.c1
 have c2 := x1.core.c2
 have clk := x1.core.clk
 dsimp only at c0 c1 c2 clk
 refine Gen.start (S := fun w' => w'.cell? ⟨A.Q, 0, none⟩ = some (.int .i64 s.to) ∧ w'.cell? ⟨A.Q, 1, none⟩ = some (.int .i64 s.tv) ∧ w'.cell? ⟨A.Q, 2, none⟩ = some (.int .i64 s.td) ∧ w'.cell? ⟨A.Q, 12408, none⟩ = some (.int .i64 s.clock)) (by kernel_rfl) ⟨c0, c1, c2, clk⟩ (fun hHeld => ?_)
 refine Gen.tk 0 16 ?_ rfl rfl (Or.inl ⟨by rfl, ?_⟩) hHeld ?_
 rotate_left
 · intro w' hSw
   obtain ⟨s0, s1, s2, s3⟩ := hSw
   go_simp
   try with_reducible rfl
 go_frame
 refine Gen.tk 1 2 ?_ rfl rfl (Or.inl ⟨by rfl, ?_⟩) hHeld ?_
 rotate_left
 · intro w' hSw
   obtain ⟨s0, s1, s2, s3⟩ := hSw
   go_simp
   try with_reducible rfl
 go_frame
 refine Gen.tk 2 3 ?_ rfl rfl (Or.inl ⟨by rfl, ?_⟩) hHeld ?_
 rotate_left
 · intro w' hSw
   obtain ⟨s0, s1, s2, s3⟩ := hSw
   go_simp
   try with_reducible rfl
 go_frame
 refine Gen.tk 3 12 ?_ rfl rfl (Or.inl ⟨by rfl, ?_⟩) hHeld ?_
 rotate_left
 · intro w' hSw
   obtain ⟨s0, s1, s2, s3⟩ := hSw
   go_simp
   try with_reducible rfl
 go_frame
 refine Gen.tk 4 5 ?_ rfl rfl (Or.inl ⟨by rfl, ?_⟩) hHeld ?_
 rotate_left
 · intro w' hSw
   obtain ⟨s0, s1, s2, s3⟩ := hSw
   go_simp
   try with_reducible rfl
 go_frame
 refine Gen.tk 5 6 ?_ rfl rfl (Or.inl ⟨by rfl, ?_⟩) hHeld ?_
 rotate_left
 · intro w' hSw
   obtain ⟨s0, s1, s2, s3⟩ := hSw
   go_simp
   try with_reducible rfl
 go_frame
 refine Gen.tk 6 7 ?_ rfl rfl (Or.inl ⟨by rfl, ?_⟩) hHeld ?_
 rotate_left
 · intro w' hSw
   obtain ⟨s0, s1, s2, s3⟩ := hSw
   go_simp
   try with_reducible rfl
 go_frame
 refine Gen.tk 7 12 ?_ rfl rfl (Or.inl ⟨by rfl, ?_⟩) hHeld ?_
 rotate_left
 · intro w' hSw
   obtain ⟨s0, s1, s2, s3⟩ := hSw
   go_simp
   try with_reducible rfl
 go_frame
 refine Gen.tk 8 9 ?_ rfl rfl (Or.inl ⟨by rfl, ?_⟩) hHeld ?_
 rotate_left
 · intro w' hSw
   obtain ⟨s0, s1, s2, s3⟩ := hSw
   go_simp
   try with_reducible rfl
 go_frame
 refine Gen.tk 9 10 ?_ rfl rfl (Or.inl ⟨by rfl, ?_⟩) hHeld ?_
 rotate_left
 · intro w' hSw
   obtain ⟨s0, s1, s2, s3⟩ := hSw
   go_simp
   try with_reducible rfl
 go_frame
 refine Gen.tk 10 11 ?_ rfl rfl (Or.inl ⟨by rfl, ?_⟩) hHeld ?_
 rotate_left
 · intro w' hSw
   obtain ⟨s0, s1, s2, s3⟩ := hSw
   go_simp
   try with_reducible rfl
 go_frame
 refine Gen.tk 11 12 ?_ rfl rfl (Or.inl ⟨by rfl, ?_⟩) hHeld ?_
 rotate_left
 · intro w' hSw
   obtain ⟨s0, s1, s2, s3⟩ := hSw
   go_simp
   try with_reducible rfl
 go_frame
 refine Gen.one (i := 12) (by kernel_rfl) rfl rfl (fun K hK => ?_)
 go_simp
 refine hnew.mono ?_
 rintro e w3 ⟨a, haq, rfl, hS3, hO3, hft3⟩
 have hO3' : Oq A.Q w2 w3 := ⟨hO3.os, hO3.tape, hO3.output, hO3.size, hO3.block, hO3.cell, hO3.fro, hO3.typ⟩
 have hQl := x1.lt
 have d0 := (hO3'.cell 0 hQl (by omega)).trans c0
 have d1 := (hO3'.cell 1 hQl (by omega)).trans c1
 have d2 := (hO3'.cell 2 hQl (by omega)).trans c2
 have d4 := (hO3'.cell 12408 hQl (by omega)).trans clk
 have srv := x1.core.srv
 have hsn : ({ s with fails := false, left := 0 } : Wd).sv = none := hs
 rw [hsn] at srv
 unfold svP at srv
 have srv3 := (hO3'.cell 12407 hQl (by omega)).trans srv
 have fsr := (hO3'.fro 12407 hQl).trans (x1.core.free 12407)
 obtain ⟨y1, y2⟩ := x1.started hsn hS3 haq hO3' hft3 n2 n3
 have HF : Hid (WdIs (w3.setCell ⟨A.Q, 12407, none⟩ (tp a.S)) { A with a := a } s.start ∧ Fz A s w { A with a := a } s.start (w3.setCell ⟨A.Q, 12407, none⟩ (tp a.S))) := ⟨y1, x2.trans y2⟩
 have e0 : (w3.setCell ⟨A.Q, 12407, none⟩ (tp a.S)).cell? ⟨A.Q, 0, none⟩ = some (.int .i64 s.to) := by rw [World.cell?_setCell_other _ _ _ _ (by intro q; injection q with _ q; omega)]; exact d0
 have e1 : (w3.setCell ⟨A.Q, 12407, none⟩ (tp a.S)).cell? ⟨A.Q, 1, none⟩ = some (.int .i64 s.tv) := by rw [World.cell?_setCell_other _ _ _ _ (by intro q; injection q with _ q; omega)]; exact d1
 have e2 : (w3.setCell ⟨A.Q, 12407, none⟩ (tp a.S)).cell? ⟨A.Q, 2, none⟩ = some (.int .i64 s.td) := by rw [World.cell?_setCell_other _ _ _ _ (by intro q; injection q with _ q; omega)]; exact d2
 have e4 : (w3.setCell ⟨A.Q, 12407, none⟩ (tp a.S)).cell? ⟨A.Q, 12408, none⟩ = some (.int .i64 s.clock) := by rw [World.cell?_setCell_other _ _ _ _ (by intro q; injection q with _ q; omega)]; exact d4
 dsimp only
 refine hK.out _ _ ⟨d0, d1, d2, d4⟩ (fun hHeld => ?_)
 clear hK K y1 y2 hnew hS3 hO3 hft3
 try go_frame
 refine Gen.tk 13 14 ?_ rfl rfl (Or.inl ⟨by rfl, ?_⟩) hHeld ?_
 rotate_left
 · intro w' hSw
   obtain ⟨s0, s1, s2, s3⟩ := hSw
   go_simp
   try with_reducible rfl
 go_frame
 refine Gen.tk 14 16 ?_ rfl rfl (Or.inl ⟨by rfl, ?_⟩) hHeld ?_
 rotate_left
 · intro w' hSw
   obtain ⟨s0, s1, s2, s3⟩ := hSw
   go_simp
   try with_reducible rfl
 go_frame
 refine Gen.tk 16 17 ?_ rfl rfl (Or.inl ⟨by rfl, ?_⟩) hHeld ?_
 rotate_left
 · intro w' hSw
   obtain ⟨s0, s1, s2, s3⟩ := hSw
   go_simp
   try with_reducible rfl
 go_frame
 refine Gen.tk 17 18 ?_ rfl rfl (Or.inl ⟨by rfl, ?_⟩) hHeld ?_
 rotate_left
 · intro w' hSw
   obtain ⟨s0, s1, s2, s3⟩ := hSw
   go_simp
   try with_reducible rfl
 go_frame
 refine Gen.two (i := 15) (j := 18) (by kernel_rfl) rfl rfl rfl rfl (fun K hK => ?_) (fun K hK => ?_)
 · go_simp
   refine hK.out _ _ ⟨d0, d1, d2, d4⟩ (fun hHeld => ?_)
   clear hK K
   try go_frame
   refine Gen.last (i := 18) (by kernel_rfl) rfl rfl (by kernel_rfl) (by kernel_rfl) (fun K hK => ?_)
   go_simp
   refine hK.out _ _ ?_
   clear hK K hHeld
   go_wp2_with fail
   go_end0
   exact ⟨rfl, a, HF.out⟩
 · go_simp
   refine hK.out _ _ ⟨e0, e1, e2, e4⟩ (fun hHeld => ?_)
   clear hK K
   try go_frame
   refine Gen.last (i := 15) (by kernel_rfl) rfl rfl (by kernel_rfl) (by kernel_rfl) (fun K hK => ?_)
   go_simp
   refine hK.out _ _ ?_
   clear hK K hHeld
   go_wp2_with fail
   go_end0
   exact ⟨rfl, a, HF.out⟩
set_option maxHeartbeats 4000000 in
set_option maxRecDepth 100000 in
theorem restart_any (A : Wa) (s : Wd) (C : Nat) (w : World) (h : WdIs w A s) (hB : WdB s C) (hC : C ≤ 10000000000) (hl : s.sv = none → s.rs.length < 200) (hr : ∀ r ∈ s.rs, 0 ≤ r.c ∧ r.o < 8) :
   Calls Tryz.prog 29 #[tp A.Q] w fun e w' => e = .returned (eV (if s.sv.isSome = true then 6 else 0)) ∧ ∃ a, WdIs w' { A with a := a } s.restart ∧ Fz A s w { A with a := a } s.restart w' := by
 have hup := up_any A s w h
 cases hs : s.sv with
 | some v =>
   rw [hs] at hup
   have HE : Hid (s.restart = s) := by unfold Hid Wd.restart; rw [hs]
   have HF : Hid (WdIs w { A with a := A.a } s.restart ∧ Fz A s w { A with a := A.a } s.restart w) := by rw [HE.out]; exact ⟨h, Fz.refl _ _ _⟩
   clear h hB
   go_enter Tryz.func29, Tryz.ntmps29
   go_wp2_with fail
   refine hup.mono ?_
   rintro e w2 ⟨rfl, rfl⟩
   go_wp2_with fail
   go_ret
   exact ⟨rfl, _, HF.out⟩
 | none =>
   rw [hs] at hup
   have HE : Hid (s.restart = ({ s with step := s.step + 1 } : Wd).start) := by unfold Hid Wd.restart; rw [hs]
   have stp := h.core.stp
   have fst := h.core.free 12411
   have hwr : IntKind.i64.wrap (s.step + 1) = s.step + 1 := wrapI (by have := hB.s0; omega) (by have := hB.s1; omega)
   obtain ⟨x1, x2⟩ := h.setStep (s.step + 1)
   have hst := start_any A { s with step := s.step + 1 } (C + 1) _ x1 hs hB.stepped (hl hs) hr
   clear h hB
   go_enter Tryz.func29, Tryz.ntmps29
   go_wp2_with fail
   refine hup.mono ?_
   rintro e w2 ⟨rfl, rfl⟩
   go_wp2_with fail
   refine hst.mono ?_
   rintro e w3 ⟨rfl, a, q1, q2⟩
   have HF : Hid (WdIs w3 { A with a := a } s.restart ∧ Fz A s w2 { A with a := a } s.restart w3) := by rw [HE.out]; exact ⟨q1, x2.trans q2⟩
   clear x1 x2 q1 q2 hst hup
   go_wp2_with fail
   go_ret
   exact ⟨rfl, _, HF.out⟩
end Wld
end
section
namespace Wld
open Go.RowKit Go.Maps
open Lease (Ob I64 upd TabIs hol dels objB HasI map_block map_ne mx)
open Cache (tp row_kept row_below)
open Wal (R WalIs DiskIs Oq Fw rcells)
open Num (M okB strOf ints)
open Net (NetIs Only pcells)
def seated (w : World) (G k c : Nat) (life : Int) : World := ((w.setCell ⟨G, k * 4, none⟩ (tp c)).setCell ⟨G, k * 4 + 2, none⟩ (.int .i64 life)).setCell ⟨G, k * 4 + 3, none⟩ (.int .i64 (-1))
set_option maxHeartbeats 4000000 in
set_option maxRecDepth 100000 in
theorem enter_low (Q G n k : Nat) (tob tv td life : Int) (w : World) (hsts : w.cell? ⟨Q, 12409, none⟩ = some (.slice (some ⟨G, 0, none⟩) n n)) (h0 : w.cell? ⟨Q, 0, none⟩ = some (.int .i64 tob)) (h1 : w.cell? ⟨Q, 1, none⟩ = some (.int .i64 tv)) (h2 : w.cell? ⟨Q, 2, none⟩ = some (.int .i64 td)) (hk : k < n) (hn : n ≤ 4)
   (u0 u2 u3 : Value) (g0 : w.cell? ⟨G, k * 4, none⟩ = some u0) (g2 : w.cell? ⟨G, k * 4 + 2, none⟩ = some u2) (g3 : w.cell? ⟨G, k * 4 + 3, none⟩ = some u3) (gf : ∀ i, w.frozen? ⟨G, i, none⟩ = false)
   (ho0 : 0 ≤ tob) (ho : tob ≤ 1099511627776) (hv0 : 0 ≤ tv) (hv : tv ≤ 1099511627776) (hd0 : 0 ≤ td) (hd : td ≤ 500) (hl0 : 0 ≤ life) (hl1 : life ≤ 1000000000000) :
   Calls Tryz.prog 34 #[tp Q, .int .i64 k, .int .i64 life] w fun e w' => e = .returned (.tuple #[]) ∧ ∃ c q w2, Below w.heap.size w w2 ∧ CliIs w2 c q (K.new (life * 4 + k) (short td tob) (short td tv)) ∧ w.heap.size ≤ c ∧ w.heap.size ≤ q ∧ w' = seated w2 G k c life := by
 have hlt := World.block_lt_of_cell? _ _ g0
 dsimp only at hlt
 have hnew := new_any tob tv td (life * 4 + k) w ho0 ho hv0 hv hd0 hd
 have hk0 : (0 : Int) ≤ (k : Int) := by omega
 have hkn : (k : Int) < (n : Int) := by omega
 have hw1 : IntKind.i64.wrap (life * 4) = life * 4 := wrapI (by omega) (by omega)
 have hw2 : IntKind.i64.wrap (life * 4 + (k : Int)) = life * 4 + (k : Int) := wrapI (by omega) (by omega)
 go_enter Tryz.func34, Tryz.ntmps34
 go_wp2_with fail
 refine hnew.mono ?_
 rintro e w2 ⟨c, q, rfl, hC, hc, hq, hb⟩
 have r0 := (hb.cell (p := ⟨G, k * 4, none⟩) hlt).trans g0
 have r2 := (hb.cell (p := ⟨G, k * 4 + 2, none⟩) hlt).trans g2
 have r3 := (hb.cell (p := ⟨G, k * 4 + 3, none⟩) hlt).trans g3
 have rf := fun i => (hb.frozen (p := ⟨G, i, none⟩) hlt).trans (gf i)
 have rf0 := rf (k * 4)
 have rf2 := rf (k * 4 + 2)
 have rf3 := rf (k * 4 + 3)
 have HP : Hid (∃ c' q' w2', Below w.heap.size w w2' ∧ CliIs w2' c' q' (K.new (life * 4 + k) (short td tob) (short td tv)) ∧ w.heap.size ≤ c' ∧ w.heap.size ≤ q' ∧ seated w2 G k c life = seated w2' G k c' life) := ⟨c, q, w2, hb, hC, hc, hq, rfl⟩
 unfold seated at HP
 clear hnew hC hb rf g0 g2 g3 gf hsts h0 h1 h2
 go_wp2_with fail
 go_end0
 exact ⟨rfl, HP.out⟩
theorem seated_other (w : World) (G k c : Nat) (life : Int) (x : Nat) (hx : x ≠ G) : (seated w G k c life).heap[x]? = w.heap[x]? := by
 unfold seated
 rw [Below.heap_setCell _ ⟨G, k * 4 + 3, none⟩ _ x hx, Below.heap_setCell _ ⟨G, k * 4 + 2, none⟩ _ x hx, Below.heap_setCell _ ⟨G, k * 4, none⟩ _ x hx]
theorem seated_meta (w : World) (G k c : Nat) (life : Int) : (seated w G k c life).heap.size = w.heap.size ∧ (seated w G k c life).os = w.os ∧ (seated w G k c life).tape = w.tape ∧ (seated w G k c life).output = w.output := by
 unfold seated
 exact ⟨by simp, rfl, rfl, rfl⟩
theorem seated_cell (w : World) (G k c : Nat) (life : Int) (i : Nat) (hi : i ≠ k * 4) (hi2 : i ≠ k * 4 + 2) (hi3 : i ≠ k * 4 + 3) : (seated w G k c life).cell? ⟨G, i, none⟩ = w.cell? ⟨G, i, none⟩ := by
 unfold seated
 rw [World.cell?_setCell_other _ _ _ _ (by intro q; injection q with _ q; omega), World.cell?_setCell_other _ _ _ _ (by intro q; injection q with _ q; omega), World.cell?_setCell_other _ _ _ _ (by intro q; injection q with _ q; omega)]
theorem seated_new (w : World) (G k c : Nat) (life : Int) {u0 u2 u3 : Value} (g0 : w.cell? ⟨G, k * 4, none⟩ = some u0) (g2 : w.cell? ⟨G, k * 4 + 2, none⟩ = some u2) (g3 : w.cell? ⟨G, k * 4 + 3, none⟩ = some u3) : (seated w G k c life).cell? ⟨G, k * 4, none⟩ = some (tp c) ∧ (seated w G k c life).cell? ⟨G, k * 4 + 2, none⟩ = some (.int .i64 life) ∧ (seated w G k c life).cell? ⟨G, k * 4 + 3, none⟩ = some (.int .i64 (-1)) := by
 have e2 : (w.setCell ⟨G, k * 4, none⟩ (tp c)).cell? ⟨G, k * 4 + 2, none⟩ = some u2 := by rw [World.cell?_setCell_other _ _ _ _ (by intro q; injection q with _ q; omega)]; exact g2
 have e3 : ((w.setCell ⟨G, k * 4, none⟩ (tp c)).setCell ⟨G, k * 4 + 2, none⟩ (.int .i64 life)).cell? ⟨G, k * 4 + 3, none⟩ = some u3 := by
   rw [World.cell?_setCell_other _ _ _ _ (by intro q; injection q with _ q; omega), World.cell?_setCell_other _ _ _ _ (by intro q; injection q with _ q; omega)]
   exact g3
 unfold seated
 refine ⟨?_, ?_, World.cell?_setCell_same _ _ _ e3⟩
 · rw [World.cell?_setCell_other _ _ _ _ (by intro q; injection q with _ q; omega), World.cell?_setCell_other _ _ _ _ (by intro q; injection q with _ q; omega)]
   exact World.cell?_setCell_same _ _ _ g0
 · rw [World.cell?_setCell_other _ _ _ _ (by intro q; injection q with _ q; omega)]
   exact World.cell?_setCell_same _ _ _ e2
theorem seated_fro (w : World) (G k c : Nat) (life : Int) (p : Addr) : (seated w G k c life).frozen? p = w.frozen? p := by
 unfold seated
 rw [World.frozen?_setCell, World.frozen?_setCell, World.frozen?_setCell]
theorem WdIs.entered {w w2 : World} {A : Wa} {s : Wd} {k c q : Nat} {life : Int} {kn : K} (h : WdIs w A s) (hk : k < s.n) (hb : Below w.heap.size w w2) (hC : CliIs w2 c q kn) (hc : w.heap.size ≤ c) (hq : w.heap.size ≤ q) :
   WdIs (seated w2 A.G k c life) { A with c := updN A.c k c, m := updN A.m k q } { s with seat := updN s.seat k { s.seat k with k := kn, life := life, call := -1 } } ∧ Fz A s w { A with c := updN A.c k c, m := updN A.m k q } { s with seat := updN s.seat k { s.seat k with k := kn, life := life, call := -1 } } (seated w2 A.G k c life) := by
 obtain ⟨x, _⟩ := h.below hb
 have hlt := h.lt
 obtain ⟨kd0, kd1, kd2⟩ := h.kinds
 have hGlt := h.gt.lt
 obtain ⟨m1, m2, m3, m4⟩ := seated_meta w2 A.G k c life
 have hs2 := hb.size
 have o : ∀ y, y ≠ A.G → (seated w2 A.G k c life).heap[y]? = w2.heap[y]? := fun y hy => seated_other w2 A.G k c life y hy
 have hbw : ∀ y, y < w.heap.size → y ≠ A.G → (seated w2 A.G k c life).heap[y]? = w.heap[y]? := fun y hy hG => (o y hG).trans (hb.block y hy)
 have hQ := o A.Q kd0
 have eQ : ∀ i, (seated w2 A.G k c life).cell? ⟨A.Q, i, none⟩ = w2.cell? ⟨A.Q, i, none⟩ := fun i => World.cell?_of_block hQ
 have eQw : ∀ i, (seated w2 A.G k c life).cell? ⟨A.Q, i, none⟩ = w.cell? ⟨A.Q, i, none⟩ := fun i => World.cell?_of_block (hbw A.Q hlt kd0)
 have fQ : ∀ i, (seated w2 A.G k c life).frozen? ⟨A.Q, i, none⟩ = w2.frozen? ⟨A.Q, i, none⟩ := fun i => World.frozen?_of_block hQ
 have hN : NetIs (seated w2 A.G k c life) (A.Q + 1) A.Q (s.net.map encN) := NetIs.kept x.net (by omega) (eQ _) (eQ _) fQ fun v g hv hg => by
   obtain ⟨v', hv', hr⟩ := x.net.row
   rw [hv] at hv'
   injection hv' with hv'
   subst hv'
   exact o g ((row_isC hr hg).2.ne x.gt (by decide))
 have hD : DiskIs (seated w2 A.G k c life) A.Q s.rs s.fails s.left := DiskIs.cells x.disk (fun i _ _ => eQ i) fQ
 have hfoot : ∀ v, s.sv = some v → ∀ y, foot w2 A.a y → y ≠ A.a.q → (seated w2 A.G k c life).heap[y]? = w2.heap[y]? := fun v hv y hy hyq => o y fun e => by
   have u := x.up v hv
   have hyq' : A.G ≠ A.a.q := by rw [← e]; exact hyq
   exact u.sv.notFoot x.gt hyq' (by decide) (by rw [← e]; exact hy)
 have qk := x.seats k hk
 obtain ⟨n0, n2, n3⟩ := seated_new w2 A.G k c life qk.c0 qk.c2 qk.c3
 have cc := x.core.cells (x.core.typ.same hQ) (fun i _ _ => eQ i) fQ
 have hsvp : svP { A with c := updN A.c k c, m := updN A.m k q } s.sv = svP A s.sv := by cases s.sv <;> rfl
 refine ⟨⟨⟨cc.typ, cc.free, cc.c0, cc.c1, cc.c2, cc.srv.trans (by rw [← hsvp]), cc.clk, cc.sts, cc.stp⟩, hD, hN, x.evs.imp fun v hv => ⟨(eQ _).trans hv.1, row_kept hv.2 fun g hg => o g ((row_isC hv.2 hg).2.ne x.gt (by decide))⟩, ?_, fun i => by rw [seated_fro]; exact x.gf i, fun l hl => ?_, fun l hl => ?_, fun i j hi hj hij => ?_, fun v hv => ?_, h.n1, h.n4⟩,
   ⟨m2.trans hb.os, m3.trans hb.tape, m4.trans hb.output, by omega, fun y hy hf _ => hbw y hy (fun e => hf (.G e)), fun y hy f => ?_, rfl⟩⟩
 · unfold seated
   exact Wal.typ_setCell (Wal.typ_setCell (Wal.typ_setCell x.gt))
 · show SeatIs _ A.G l (updN A.c k c l) (updN s.seat k _ l)
   by_cases e : l = k
   · subst e
     rw [updN_same, updN_same]
     exact ⟨n0, (seated_cell w2 A.G l c life (l * 4 + 1) (by omega) (by omega) (by omega)).trans qk.c1, n2, n3⟩
   · rw [updN_other _ _ e, updN_other _ _ e]
     have y := x.seats l hl
     exact ⟨(seated_cell w2 A.G k c life _ (by omega) (by omega) (by omega)).trans y.c0, (seated_cell w2 A.G k c life _ (by omega) (by omega) (by omega)).trans y.c1, (seated_cell w2 A.G k c life _ (by omega) (by omega) (by omega)).trans y.c2, (seated_cell w2 A.G k c life _ (by omega) (by omega) (by omega)).trans y.c3⟩
 · show CliIs _ (updN A.c k c l) (updN A.m k q l) (updN s.seat k _ l).k
   by_cases e : l = k
   · subst e
     rw [updN_same, updN_same, updN_same]
     exact hC.blocks (o c (by omega)) (o q (by omega))
   · rw [updN_other _ _ e, updN_other _ _ e, updN_other _ _ e]
     have kd := kd1 l hl
     exact (x.cli l hl).blocks (o _ (Ne.symm kd.2.2.1)) (o _ (Ne.symm kd.2.2.2))
 · show updN A.c k c i ≠ updN A.c k c j ∧ updN A.m k q i ≠ updN A.m k q j
   unfold updN
   have li := (h.cli i hi).lt
   have lj := (h.cli j hj).lt
   have ap := h.ap i j hi hj hij
   split <;> split
   · omega
   · exact ⟨by omega, by omega⟩
   · exact ⟨by omega, by omega⟩
   · exact ap
 · have u := x.up v hv
   refine ⟨u.sv.feet (by omega) (by rw [u.q, u.rs, u.fails, u.left]; exact hD) (hfoot v hv), u.q, u.rs, u.fails, u.left, fun i hi e => ?_, u.to, u.tv⟩
   have e' : updN A.m k q i = A.a.m := e
   have hm := (h.up v hv).sv.lts.2.2.1
   unfold updN at e'
   split at e'
   · omega
   · exact (h.up v hv).ne i hi e'
 · rcases f with f | f | ⟨v, f1, f2⟩ | ⟨i, hi, f⟩ | ⟨i, hi, f⟩ | ⟨f1, f2⟩
   · exact .Q f
   · exact .G f
   · exact .ev v ((eQw _).symm.trans f1) f2
   · have f' : y = updN A.c k c i := f
     unfold updN at f'
     split at f'
     · omega
     · exact .c i hi f'
   · have f' : y = updN A.m k q i := f
     unfold updN at f'
     split at f'
     · omega
     · exact .m i hi f'
   · obtain ⟨v, hv⟩ := Option.isSome_iff_exists.1 f1
     have u := x.up v hv
     have u0 := h.up v hv
     have hl := u.sv.lts
     have hl0 := u0.sv.lts
     have f3 : foot w2 A.a y := (foot_kept (hfoot v hv _ (.inr (.inr (.inr (.inl rfl)))) (by omega)) (hfoot v hv _ (.inr (.inr (.inl rfl))) (by omega)) y).1 f2
     exact .sv f1 ((foot_kept (hb.block _ hl0.2.1) (hb.block _ hl0.2.2.2.2.1) y).1 f3)
set_option maxHeartbeats 4000000 in
set_option maxRecDepth 100000 in
theorem reborn_any (A : Wa) (s : Wd) (k C : Nat) (w : World) (h : WdIs w A s) (hk : k < s.n) (hB : WdB s C) (hC : C ≤ 10000000000) :
   Calls Tryz.prog 30 #[tp A.Q, .int .i64 k] w fun e w' => e = .returned .nilIface ∧ ∃ A', WdIs w' A' (s.reborn k) ∧ Fz A s w A' (s.reborn k) w' := by
 have hh := hasW_any A s k w h
 have hhk : s.has k = true := by
   unfold Wd.has
   exact decide_eq_true ⟨by omega, by omega⟩
 rw [hhk] at hh
 have stp := h.core.stp
 have fst := h.core.free 12411
 obtain ⟨x1, x2⟩ := h.setStep (s.step + 1)
 have hwr : IntKind.i64.wrap (s.step + 1) = s.step + 1 := wrapI (by have := hB.s0; omega) (by have := hB.s1; omega)
 have hSB := hB.st k hk
 have hwl : IntKind.i64.wrap ((s.seat k).life + 1) = (s.seat k).life + 1 := wrapI (by have := hSB.l0; omega) (by have := hSB.l1; omega)
 have y := x1.seats k hk
 have hen := enter_low A.Q A.G s.n k s.to s.tv s.td ((s.seat k).life + 1) _ x1.core.sts x1.core.c0 x1.core.c1 x1.core.c2 hk x1.n4 _ _ _ y.c0 y.c2 y.c3 x1.gf hB.to0 (by have := hB.to1; omega) hB.tv0 (by have := hB.tv1; omega) hB.td0 hB.td1 (by have := hSB.l0; omega) (by have := hSB.l1; omega)
 have sts := x1.core.sts
 have c2 := y.c2
 dsimp only at sts c2
 have hk0 : (0 : Int) ≤ (k : Int) := by omega
 have hkn : (k : Int) < (s.n : Int) := by omega
 have n4 := h.n4
 have HX : Hid (∀ c q w2, Below (w.setCell ⟨A.Q, 12411, none⟩ (.int .i64 (s.step + 1))).heap.size (w.setCell ⟨A.Q, 12411, none⟩ (.int .i64 (s.step + 1))) w2 → CliIs w2 c q (K.new (((s.seat k).life + 1) * 4 + k) (short s.td s.to) (short s.td s.tv)) → (w.setCell ⟨A.Q, 12411, none⟩ (.int .i64 (s.step + 1))).heap.size ≤ c → (w.setCell ⟨A.Q, 12411, none⟩ (.int .i64 (s.step + 1))).heap.size ≤ q → ∃ A', WdIs (seated w2 A.G k c ((s.seat k).life + 1)) A' (s.reborn k) ∧ Fz A s w A' (s.reborn k) (seated w2 A.G k c ((s.seat k).life + 1))) := fun c q w2 p1 p2 p3 p4 => by
   obtain ⟨z1, z2⟩ := x1.entered (life := (s.seat k).life + 1) hk p1 p2 p3 p4
   exact ⟨_, z1, x2.trans z2⟩
 clear h hB hhk hSB x1 x2 y
 go_enter Tryz.func30, Tryz.ntmps30
 go_wp2_with fail
 refine hh.mono ?_
 rintro e w2 ⟨rfl, rfl⟩
 go_upto_region 4 with fail
 generalize w2.setCell ⟨A.Q, 12411, none⟩ (.int .i64 (s.step + 1)) = w3 at *
 go_wp2_with fail
 refine hen.mono ?_
 rintro e w4 ⟨rfl, c, q, w5, p1, p2, p3, p4, hw4⟩
 have HF := HX.out c q w5 p1 p2 p3 p4
 rw [← hw4] at HF
 clear HX hen p1 p2 hw4
 go_wp2_with fail
 go_ret
 exact ⟨rfl, HF⟩
end Wld
end
end Go.Proofs.YtbebfliimjjohaaGreatDoor
