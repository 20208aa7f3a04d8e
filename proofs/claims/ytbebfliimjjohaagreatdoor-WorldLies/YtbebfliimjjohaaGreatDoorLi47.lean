/-
  Parts of the proof: WkpI.
-/
import Derived.Test.YtbebfliimjjohaaGreatDoorLi45
import Derived.Test.YtbebfliimjjohaaGreatDoorLi46
import Derived.BigQuiet
import Derived.StillTactics
namespace Go.Proofs.YtbebfliimjjohaaGreatDoor
section
namespace Wld
open Go.RowKit Go.Maps
open Cache (tp row_kept row_below)
open Lease (I64 Dat num own_int)
open Num (M)
def rdn (e : Ev) : Bool := e.kind == 1 && e.ended != 0
def lastV (l : List Ev) (k : Nat) (c f o : Int) : Int := (((l.take k).filter fun e => rdn e && e.client == c && e.life == f && e.obj == o).getLast?.map Ev.ver).getD 0
theorem lastV_succ {l : List Ev} {k : Nat} {r : Ev} (hk : l[k]? = some r) (c f o : Int) : lastV l (k + 1) c f o = if rdn r && r.client == c && r.life == f && r.obj == o then r.ver else lastV l k c f o := by
 unfold lastV
 rw [List.take_add_one, hk, Option.toList_some, List.filter_append]
 by_cases h : (rdn r && r.client == c && r.life == f && r.obj == o) = true
 · rw [if_pos h, List.filter_cons_of_pos (by exact h)]
   simp
 · rw [if_neg h, List.filter_cons_of_neg (by exact h)]
   simp
theorem lastV_skip {l : List Ev} {k : Nat} {r : Ev} (hk : l[k]? = some r) (hd : rdn r = false) (c f o : Int) : lastV l (k + 1) c f o = lastV l k c f o := by
 rw [lastV_succ hk, hd]; simp
def LaIs (l : List Ev) (k : Nat) (D : Dat) : Prop := IsMap D ∧ ∀ c f o, I64 c → I64 f → I64 o → D.atKey (k3 c f o) (num 0) = num (lastV l k c f o)
theorem LaIs.put {l : List Ev} {k : Nat} {D : Dat} {r : Ev} (h : LaIs l k D) (hk : l[k]? = some r) (hd : rdn r = true) (hc : I64 r.client) (hf : I64 r.life) (ho : I64 r.obj) (hm : IsMap (D.put (k3 r.client r.life r.obj) (num r.ver))) : LaIs l (k + 1) (D.put (k3 r.client r.life r.obj) (num r.ver)) := by
 refine ⟨hm, fun c f o ic jf io => ?_⟩
 rw [lastV_succ hk, hd]
 by_cases e : k3 c f o = k3 r.client r.life r.obj
 · obtain ⟨rfl, rfl, rfl⟩ := k3_inj ic jf io hc hf ho e
   rw [atKey_put_same h.1 (k3_key _ _ _)]
   simp
 · rw [atKey_put_other e, h.2 c f o ic jf io]
   have : (r.client == c && r.life == f && r.obj == o) = false := by
     cases hb : (r.client == c && r.life == f && r.obj == o) with
     | false => rfl
     | true =>
       simp at hb
       obtain ⟨⟨rfl, rfl⟩, rfl⟩ := hb
       exact absurd rfl e
   rw [Bool.true_and, this]
   rfl
theorem LaIs.zero (l : List Ev) : LaIs l 0 (.map []) := ⟨⟨_, rfl⟩, fun _ _ _ _ _ _ => rfl⟩
theorem Inv.lastV {s : Wd} {H : List Hc} {L : List M} {B : Nat} (h : Inv s H L B) {k : Nat} {r : Ev} (hk : s.events[k]? = some r) (hd : rdn r = true) (h0 : 0 ≤ r.ver) : Wld.lastV s.events k r.client r.life r.obj ≤ r.ver := by
 unfold Wld.lastV
 cases hg : ((s.events.take k).filter fun e => rdn e && e.client == r.client && e.life == r.life && e.obj == r.obj).getLast? with
 | none => exact h0
 | some x =>
   have hx := List.mem_of_getLast? hg
   rw [List.mem_filter] at hx
   obtain ⟨hx, hp⟩ := hx
   obtain ⟨i, hi⟩ := List.mem_iff_getElem?.1 hx
   rw [List.getElem?_take] at hi
   split at hi
   · simp [rdn] at hp hd
     exact h.mo i k x r (by assumption) hi hk hp.1.1.1.1 hd.1 hp.1.1.2 hp.1.2 hp.2 hp.1.1.1.2 hd.2
   · cases hi
set_option maxRecDepth 100000 in
theorem lies_long (o v d c : Int) (ao : Option Addr) (n cap : Nat) (w : World) (hn : 75 < n) (hm : n ≤ 9223372036854775807) :
   Calls Tryz.prog 4 #[.int .i64 o, .int .i64 v, .int .i64 d, .int .i64 c, .slice ao n cap] w fun e w' => e = .returned (.bool true) ∧ w' = w := by
 go_enter Tryz.func4, Tryz.ntmps4
 go_wp2_with fail
 go_ret
 exact ⟨rfl, rfl⟩
set_option maxHeartbeats 8000000 in
set_option maxRecDepth 100000 in
theorem lies (o v d c : Int) (ao : Option Addr) (cap : Nat) (xs : List Stp) (w : World) (hlen : xs.length ≤ 75) (hgo : Steps w ao xs) :
   Calls Tryz.prog 4 #[.int .i64 o, .int .i64 v, .int .i64 d, .int .i64 c, .slice ao xs.length cap] w fun e w' => e = .returned (.bool true) ∧ Below w.heap.size w w' := by
 have hrd := readF_any w
 go_enter Tryz.func4, Tryz.ntmps4
 go_wp2_with fail
 refine hrd.mono ?_
 rintro e w1 ⟨rfl, hb1⟩
 have htl := tells_any o v d c true w1
 clear hrd
 go_wp2_with fail
 refine htl.mono ?_
 rintro e w2 ⟨T, A, tob, tv, td, n, a1, a2, a3, a4, a5, a6, n1, n4, rfl, hT, hT0, hb2, hL⟩
 have H0 : Hid (∃ A s wn, At w w2 T true 0 A s wn) := ⟨A, _, 0, hT, Good.first a1 a5 a6 n4 (WdB.bare a1 a3 (by omega) a5 a6) true, hb1.trans (hb2.mono hb1.size), hL.mono hb1.size, by have := hb1.size; omega⟩
 clear htl hT hT0 hb2 hL a1 a2 a3 a4 a5 a6 n1 n4 hb1
 go_wp2_with fail
 go_loopw [12] (fun i wr => ∃ j : Nat, j ≤ xs.length ∧ i = .int .i64 j ∧ ∃ A s wn, At w wr T true j A s wn) (fun i _ => xs.length - (intOf i).toNat)
 case atStart => exact ⟨0, by omega, rfl, H0.out⟩
 case round =>
   obtain ⟨j, hj, rfl, A, s, wn, hA⟩ := hrel
   clear H0
   by_cases hjl : j < xs.length
   · obtain ⟨bo, off, rfl, hbo, hx⟩ := hgo (by omega)
     have hcells := hx j hjl
     have c0 := (hA.b.cell (p := ⟨bo, off + j * 4 + 0, none⟩) hbo).trans (hcells 0 (by omega))
     have c1 := (hA.b.cell (p := ⟨bo, off + j * 4 + 1, none⟩) hbo).trans (hcells 1 (by omega))
     have c2 := (hA.b.cell (p := ⟨bo, off + j * 4 + 2, none⟩) hbo).trans (hcells 2 (by omega))
     have c3 := (hA.b.cell (p := ⟨bo, off + j * 4 + 3, none⟩) hbo).trans (hcells 3 (by omega))
     generalize xs[j] = x at *
     obtain ⟨xw, xk, xa, xb⟩ := x
     simp only [Stp.cells, List.getElem?_cons_zero, List.getElem?_cons_succ, Nat.add_zero] at c0 c1 c2 c3
     have hj' : (j : Int) < xs.length := by omega
     have hj0 : (0 : Int) ≤ (j : Int) := by omega
     have hdo := does_any T j wn A s true xw xk xa xb wr hA.t hA.g (by omega)
     have HA : Hid (At w wr T true j A s wn) := hA
     clear hcells hx hgo hA
     go_wp2_with fail
     refine hdo.mono ?_
     rintro e w3 ⟨rfl, hdn⟩
     have HN : Hid (∃ A s wn, At w w3 T true (j + 1) A s wn) := HA.out.done hdn
     clear HA hdo hdn c0 c1 c2 c3
     go_wp2_with fail
     go_roundw
     case rel => exact ⟨j + 1, by omega, by go_num, HN.out⟩
     case measure => simp [intOf]; omega
   · obtain ⟨H, L, B, hI, hF0, hel, hver, hnum⟩ := hA.facts (by omega)
     clear hF0
     have t0 := hA.t.c0
     have hev := events_any A s wr hA.t.wd (by omega)
     have HA : Hid (At w wr T true j A s wn) := hA
     clear hgo hA
     have hjx : ¬ ((j : Int) < xs.length) := by omega
     go_wp2_with fail
     refine hev.mono ?_
     rintro e w4 ⟨ev, rfl, hrow, hb4⟩
     have hrow4 : HasE w4 wr.heap.size ev s.events := hrow
     have HF : Hid (Inv s H L B ∧ s.events.length ≤ 76 ∧ (∀ e ∈ s.events, e.ended ≠ 0 → 0 ≤ e.ver ∧ I64 e.ver) ∧ ∀ e ∈ s.events, I64 e.obj ∧ I64 e.client ∧ I64 e.life) := ⟨hI, hel, hver, hnum⟩
     clear hI hver hnum hev hrow
     have HB4 : Hid (Below wr.heap.size wr w4 ∧ HasE w4 wr.heap.size ev s.events) := ⟨hb4, hrow4⟩
     obtain ⟨aev, cev, rfl, hcell⟩ := hrow4.shape
     clear hb4 hrow4 t0
     have hm := fun (t : TypeId) (w : World) => run_makeMap (P := Tryz.prog) t w
     obtain ⟨evs, hevs⟩ : ∃ evs, s.events = evs := ⟨_, rfl⟩
     have HEV : Hid (s.events = evs) := hevs
     rw [hevs] at hcell hel
     rw [hevs]
     clear hevs
     go_wp2_with fail
     clear hm
     go_loopw [15] (fun i wx => ∃ (k : Nat) (D : Dat), k ≤ evs.length ∧ i = .int .i64 k ∧ Below w4.heap.size w4 wx ∧ wx.ownsMap Tryz.prog 45 (plainElem Tryz.prog 3) w4.heap.size k D ∧ LaIs evs k D) (fun i _ => evs.length - (intOf i).toNat)
     case atStart => exact ⟨0, .map [], by omega, rfl, (Below.refl _ _).alloc (Nat.le_refl _) _, World.ownsMap_made w4 _ _ _, LaIs.zero _⟩
     case round =>
       obtain ⟨k, D, hk, rfl, hb, hown, hsn⟩ := hrel
       by_cases hlt : k < evs.length
       · obtain ⟨g, rfl, hg1, hg2, hc⟩ := hcell (by omega)
         have hkI : (k : Int) < (evs.length : Int) := by omega
         have hkI0 : (0 : Int) ≤ (k : Int) := by omega
         obtain ⟨r, hr⟩ : ∃ r, evs[k] = r := ⟨_, rfl⟩
         have hrk : evs[k]? = some r := by rw [← hr]; exact List.getElem?_eq_getElem hlt
         have hrm : r ∈ s.events := by rw [HEV.out, ← hr]; exact List.getElem_mem hlt
         have q : ∀ j u, (ecell r)[j]? = some u → wr.cell? ⟨g, k * 10 + j, none⟩ = some u := fun j u hu => (hb.cell (p := ⟨g, k * 10 + j, none⟩) hg2).trans (hc k hlt j u (by rw [hr]; exact hu))
         have q0 : wr.cell? ⟨g, k * 10, none⟩ = some (.int .i64 r.client) := q 0 _ rfl
         have q1 := q 1 _ rfl
         have q2 := q 2 _ rfl
         have q3 := q 3 _ rfl
         have q4 := q 4 _ rfl
         have q5 := q 5 _ rfl
         have q6 := q 6 _ rfl
         have q7 := q 7 _ rfl
         have q8 := q 8 _ rfl
         have q9 := q 9 _ rfl
         have HRK : Hid (evs[k]? = some r) := hrk
         have HSN : Hid (LaIs evs k D) := hsn
         clear q hr hcell hc hrk hsn
         go_upto_region 18 with fail
         obtain ⟨R, hR⟩ : ∃ R, wr.heap.size = R := ⟨_, rfl⟩
         generalize hW : wr.alloc (.cells #[.int .i64 r.client, .int .i64 r.kind, .int .i64 r.obj, .string r.d, .int .i64 r.ver, .bool r.over, .bool r.hit, .int .i64 r.began, .int .i64 r.ended, .int .i64 r.life] 44) = w5
         have hb1 : Below w4.heap.size w4 w5 := by rw [← hW]; exact hb.alloc (by have := hb.size; omega) _
         have hown1 : w5.ownsMap Tryz.prog 45 (plainElem Tryz.prog 3) w4.heap.size k D := by rw [← hW]; exact hown.alloc _
         have eR : w5.heap[R]? = some (.cells #[.int .i64 r.client, .int .i64 r.kind, .int .i64 r.obj, .string r.d, .int .i64 r.ver, .bool r.over, .bool r.hit, .int .i64 r.began, .int .i64 r.ended, .int .i64 r.life] 44) := by rw [← hW, ← hR]; exact heap_alloc_new wr _
         rw [hR]
         generalize Value.agg #[.int .i64 r.client, .int .i64 r.kind, .int .i64 r.obj, .string r.d, .int .i64 r.ver, .bool r.over, .bool r.hit, .int .i64 r.began, .int .i64 r.ended, .int .i64 r.life] = sr
         have hRl : R < w5.heap.size := (Array.getElem?_eq_some_iff.1 eR).1
         have p0 : w5.cell? ⟨R, 0, none⟩ = some (.int .i64 r.client) := cell_of_row _ _ _ _ _ _ eR
         have p1 : w5.cell? ⟨R, 1, none⟩ = some (.int .i64 r.kind) := cell_of_row _ _ _ _ _ _ eR
         have p2 : w5.cell? ⟨R, 2, none⟩ = some (.int .i64 r.obj) := cell_of_row _ _ _ _ _ _ eR
         have p4 : w5.cell? ⟨R, 4, none⟩ = some (.int .i64 r.ver) := cell_of_row _ _ _ _ _ _ eR
         have p8 : w5.cell? ⟨R, 8, none⟩ = some (.int .i64 r.ended) := cell_of_row _ _ _ _ _ _ eR
         have p9 : w5.cell? ⟨R, 9, none⟩ = some (.int .i64 r.life) := cell_of_row _ _ _ _ _ _ eR
         clear hW hR eR q0 q1 q2 q3 q4 q5 q6 q7 q8 q9 hb hown
         go_cut [66] from 58 to 65 (fun u wx => u = .bool (!rdn r) ∧ wx = w5)
         case first =>
           by_cases h1 : r.kind = 1
           · go_wp2_with fail
             go_meet
             case rel => exact ⟨by simp [rdn, bne, h1], rfl⟩
           · go_wp2_with fail
             go_meet
             case rel => exact ⟨by simp [rdn, h1], rfl⟩
         case rest =>
           obtain ⟨rfl, hwx⟩ := hcut
           have hwx' := hwx.symm
           subst hwx'
           clear hwx
           obtain ⟨b, hb0⟩ : ∃ b, rdn r = b := ⟨_, rfl⟩
           rw [hb0]
           have HB : Hid (rdn r = b) := hb0
           clear hb0
           cases b with
           | false =>
             go_wp2_with fail
             go_roundw
             case rel => exact ⟨k + 1, D, by omega, by go_num, hb1, hown1.mono (by omega), HSN.out.1, fun c f o ic jf io => by rw [lastV_skip HRK.out HB.out]; exact HSN.out.2 c f o ic jf io⟩
             case measure => simp [intOf]; omega
           | true =>
             go_upto_region 20 with fail
             obtain ⟨Y, hY⟩ : ∃ Y, w5.heap.size = Y := ⟨_, rfl⟩
             generalize hW2 : w5.alloc (.cells #[.int .i64 r.client, .int .i64 r.life, .int .i64 r.obj] 45) = w6
             have hb2 : Below w4.heap.size w4 w6 := by rw [← hW2]; exact hb1.alloc (by have := hb1.size; omega) _
             have hb56 : Below w5.heap.size w5 w6 := by rw [← hW2]; exact (Below.refl _ _).alloc (Nat.le_refl _) _
             have hown2 : w6.ownsMap Tryz.prog 45 (plainElem Tryz.prog 3) w4.heap.size k D := by rw [← hW2]; exact hown1.alloc _
             have eY : w6.heap[Y]? = some (.cells #[.int .i64 r.client, .int .i64 r.life, .int .i64 r.obj] 45) := by rw [← hW2, ← hY]; exact heap_alloc_new w5 _
             rw [hY]
             have y0 : w6.cell? ⟨Y, 0, none⟩ = some (.int .i64 r.client) := cell_of_row _ _ _ _ _ _ eY
             have y1 : w6.cell? ⟨Y, 1, none⟩ = some (.int .i64 r.life) := cell_of_row _ _ _ _ _ _ eY
             have y2 : w6.cell? ⟨Y, 2, none⟩ = some (.int .i64 r.obj) := cell_of_row _ _ _ _ _ _ eY
             have z4 := (hb56.cell (p := ⟨R, 4, none⟩) hRl).trans p4
             clear hW2 hY eY p0 p1 p2 p4 p8 p9 hb1 hb56 hown1 hRl
             obtain ⟨io, ic, jf⟩ := HF.out.2.2.2 r hrm
             have hend : r.ended ≠ 0 := by have := HB.out; simp [rdn] at this; exact this.2
             obtain ⟨iv0, iv⟩ := HF.out.2.2.1 r hrm hend
             clear hend
             have hle : ¬ r.ver < lastV evs k r.client r.life r.obj := by
               have := HF.out.1.lastV (k := k) (r := r) (by rw [HEV.out]; exact HRK.out) HB.out iv0
               rw [HEV.out] at this
               omega
             obtain ⟨hrun, _, _⟩ := own_int (t := 38) hown2.drew keyed3 Tryz.underlying38 (key3 ic jf io) (HSN.out.2 _ _ _ ic jf io)
             clear iv0
             go_still (by kernel_rfl)
             go_upto_region 22 with fail
             clear hrun hle
             go_wp2_with (refine wpList_mapUpdate_in _ rfl _ _ _ 38 rfl 45 3 keyed3 Tryz.underlying38 (plainElem Tryz.prog 3) w4.heap.size k D rfl hown2.drew (by unfold maxLen; omega) _ _ _ rfl rfl (key3 ic jf io) _ _ (plainElem_int Tryz.underlying3 (Lease.I64.wf iv)) ?_; intro w7 hown3 hturn; have hb3 := Below.turned hb2.drew (Nat.le_refl _) hturn hb2.size; clear hturn hown2)
             go_roundw
             case rel => exact ⟨k + 1, _, by omega, by go_num, hb3, hown3, HSN.out.put HRK.out HB.out ic jf io (by obtain ⟨_, _, _, _, _, e⟩ := hown3; exact ⟨_, e⟩)⟩
             case measure => simp [intOf]; omega
       · obtain rfl : k = evs.length := by omega
         clear hown hsn hcell
         have HBX : Hid (Below w4.heap.size w4 wr) := hb
         have hevs := HEV.out
         subst hevs
         have hrow6 := row_below HB4.out.2 hb
         obtain ⟨hI, hel, hver, hnum⟩ := HF.out
         clear hb
         have hwrt := written_any _ _ s.events wr hrow6 (by omega) (fun r hr hk hn => hI.written hr hk hn) (fun r hr => (hI.bg r hr).2.2.1)
         go_wp2_with fail
         refine hwrt.mono ?_
         rintro e w8 ⟨rfl, hb8⟩
         have hrow8 := row_below hrow6 hb8
         have hal := alone_any _ _ s.events w8 hrow8 (by omega) (fun i j x y hij hx hy kx ky ex ey ho => hI.alone hij hx hy kx ky ex ey ho) (fun e he hd => ⟨(hnum e he).1, (hver e he (by simp [dn] at hd; exact hd.1.2)).2⟩)
         clear hwrt
         go_wp2_with fail
         refine hal.mono ?_
         rintro e w9 ⟨rfl, hb9⟩
         clear hal
         have hbb := HA.out.b
         have hb4 := HB4.out.1
         have hbx := HBX.out
         have hfin : Below w.heap.size w w9 := ((hbb.trans (hb4.mono hbb.size)).trans (hbx.mono (Nat.le_trans hbb.size hb4.size))).trans ((hb8.mono (Nat.le_trans hbb.size (Nat.le_trans hb4.size hbx.size))).trans (hb9.mono (Nat.le_trans hbb.size (Nat.le_trans hb4.size (Nat.le_trans hbx.size hb8.size)))))
         clear hb4 hb8 hb9 hbx hbb hrow6 hrow8 hI hver hnum
         go_wp2_with fail
         go_ret
         exact ⟨rfl, hfin⟩
end Wld
end
end Go.Proofs.YtbebfliimjjohaaGreatDoor
