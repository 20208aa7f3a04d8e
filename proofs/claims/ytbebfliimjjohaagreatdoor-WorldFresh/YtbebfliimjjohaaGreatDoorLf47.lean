/-
  Parts of the proof: WkpG WkpH.
-/
import Derived.Test.YtbebfliimjjohaaGreatDoorLf43
import Derived.Test.YtbebfliimjjohaaGreatDoorLf45
import Derived.Test.YtbebfliimjjohaaGreatDoorLf03
import Derived.BigQuiet
import Derived.Deep.CutRange
import Derived.Test.YtbebfliimjjohaaGreatDoorLf46
namespace Go.Proofs.YtbebfliimjjohaaGreatDoor
section
namespace Wld
open Go.RowKit Go.Maps
open Lease (Ob I64 upd TabIs hol dels objB HasI map_block map_ne mx I64.wf kk kk_key keyA keyedA lits1 cellsI sizeT laidOut Dat)
open Cache (tp row_kept row_below)
open Num (M okB strOf ints)
theorem kk_inj {a b c d : Int} (ha : I64 a) (hb : I64 b) (hc : I64 c) (hd : I64 d) (h : kk a b = kk c d) : a = c ∧ b = d := by
 unfold kk at h
 injection h with h
 have e := keyBytes_inj (l := [.int .i64 a, .int .i64 b]) (l' := [.int .i64 c, .int .i64 d]) ⟨rfl, rfl, trivial⟩ (by simp [Lit.keyWf, ha.wf, hb.wf]) (by simp [Lit.keyWf, hc.wf, hd.wf]) h
 simpa using e
theorem zeroB (w : World) : (zeroValue 4).run Tryz.prog w = .ok (.bool false) w := by kernel_rfl
theorem plainElem_bool_inv {P : Program} {e : TypeId} (he : P.underlying e = some .bool) {v : Value} {z : Dat × List MemPlace} (h : plainElem P e v = some z) : ∃ a, v = .bool a ∧ z = (.lit (.bool a), []) := by
 unfold plainElem at h
 rw [he] at h
 cases v <;> simp at h
 subst h
 exact ⟨_, rfl, rfl⟩
theorem own_bool {w : World} {k t : TypeId} {b n : Nat} {D : Dat} {key : Value} {kl : Lit} {x : Bool} (h : w.ownsMap Tryz.prog k (plainElem Tryz.prog 4) b n D) (K : Keyed Tryz.prog k) (ht : Tryz.prog.underlying t = some (.map k 4)) (hk : keyOf Tryz.prog k key = some kl) (hx : D.atKey kl (.lit (.bool false)) = .lit (.bool x)) :
   (Instr.lookup t (.map (some b)) key false).run Tryz.prog w = .ok (.bool x) w := by
 obtain ⟨v, ps, hrun, hv⟩ := h.lookup K ht (zeroB _) (plainElem_bool Tryz.underlying4 false) hk
 rw [hx] at hv
 obtain ⟨a, rfl, e⟩ := plainElem_bool_inv Tryz.underlying4 hv
 obtain rfl : x = a := by simpa using congrArg Prod.fst e
 exact hrun
theorem Below.turned {B m : Nat} {w x y : World} (h : Below B w x) (hB : B ≤ m) (ht : x.mapTurned y m) (hx : B ≤ x.heap.size) : Below B w y :=
 h.trans ⟨ht.grown.os, ht.grown.tape, ht.grown.output, ht.grown.size, fun k hk => ht.grown.block k (by omega) (fun e => by injection e; omega)⟩
def dn (e : Ev) : Bool := e.kind == 2 && e.ended != 0 && e.ver != 0
def seenB (l : List Ev) (k : Nat) (o v : Int) : Bool := (l.take k).any fun e => dn e && e.obj == o && e.ver == v
theorem seenB_succ {l : List Ev} {k : Nat} {r : Ev} (hk : l[k]? = some r) (o v : Int) : seenB l (k + 1) o v = (seenB l k o v || (dn r && r.obj == o && r.ver == v)) := by
 unfold seenB
 rw [List.take_add_one, hk]
 simp [List.any_append]
theorem seenB_skip {l : List Ev} {k : Nat} {r : Ev} (hk : l[k]? = some r) (hd : dn r = false) (o v : Int) : seenB l (k + 1) o v = seenB l k o v := by
 rw [seenB_succ hk, hd]; simp
def SnIs (l : List Ev) (k : Nat) (D : Dat) : Prop := IsMap D ∧ ∀ o v, I64 o → I64 v → D.atKey (kk o v) (.lit (.bool false)) = .lit (.bool (seenB l k o v))
theorem SnIs.put {l : List Ev} {k : Nat} {D : Dat} {r : Ev} (h : SnIs l k D) (hk : l[k]? = some r) (hd : dn r = true) (ho : I64 r.obj) (hv : I64 r.ver) (hm : IsMap (D.put (kk r.obj r.ver) (.lit (.bool true)))) : SnIs l (k + 1) (D.put (kk r.obj r.ver) (.lit (.bool true))) := by
 refine ⟨hm, fun o v io iv => ?_⟩
 rw [seenB_succ hk, hd]
 by_cases e : kk o v = kk r.obj r.ver
 · obtain ⟨rfl, rfl⟩ := kk_inj io iv ho hv e
   rw [atKey_put_same h.1 (kk_key _ _)]
   simp
 · rw [atKey_put_other e, h.2 o v io iv]
   have : (r.obj == o && r.ver == v) = false := by
     by_cases e1 : r.obj = o
     · by_cases e2 : r.ver = v
       · subst e1 e2; exact absurd rfl e
       · simp [e2]
     · simp [e1]
   rw [Bool.true_and, this, Bool.or_false]
def AloneOk (l : List Ev) : Prop := ∀ (i j : Nat) (x y : Ev), i < j → l[i]? = some x → l[j]? = some y → x.kind = 2 → y.kind = 2 → x.ended ≠ 0 → y.ended ≠ 0 → x.obj = y.obj → x.ver ≠ y.ver
theorem AloneOk.no {l : List Ev} (h : AloneOk l) {k : Nat} {r : Ev} (hk : l[k]? = some r) (hd : dn r = true) : seenB l k r.obj r.ver = false := by
 cases hs : seenB l k r.obj r.ver with
 | false => rfl
 | true =>
   obtain ⟨x, hx, hp⟩ := List.any_eq_true.1 hs
   obtain ⟨i, hi⟩ := List.mem_iff_getElem?.1 hx
   rw [List.getElem?_take] at hi
   split at hi
   · simp [dn] at hp hd
     exact absurd hp.2 (h i k x r (by assumption) hi hk hp.1.1.1.1 hd.1.1 hp.1.1.1.2 hd.1.2 hp.1.2)
   · cases hi
set_option maxHeartbeats 4000000 in
set_option maxRecDepth 100000 in
theorem alone_any (B : Nat) (v : Value) (l : List Ev) (w : World) (h : HasE w B v l) (hl : l.length ≤ 1000) (hok : AloneOk l) (hi6 : ∀ e ∈ l, dn e = true → I64 e.obj ∧ I64 e.ver) :
   Calls Tryz.prog 12 #[v] w fun e w' => e = .returned (.bool true) ∧ Below w.heap.size w w' := by
 obtain ⟨ao, c, rfl, hcell⟩ := h.shape
 clear h
 have HOK : Hid (AloneOk l) := hok
 have HI6 : Hid (∀ e ∈ l, dn e = true → I64 e.obj ∧ I64 e.ver) := hi6
 clear hok hi6
 have hm := fun (t : TypeId) (w : World) => run_makeMap (P := Tryz.prog) t w
 go_enter Tryz.func12, Tryz.ntmps12
 go_wp2_with fail
 clear hm
 go_loopw [4] (fun i wr => ∃ (k : Nat) (D : Dat), k ≤ l.length ∧ i = .int .i64 k ∧ Below w.heap.size w wr ∧ wr.ownsMap Tryz.prog 77 (plainElem Tryz.prog 4) w.heap.size k D ∧ SnIs l k D) (fun i _ => l.length - (intOf i).toNat)
 case atStart => exact ⟨0, .map [], by omega, rfl, (Below.refl _ _).alloc (Nat.le_refl _) _, World.ownsMap_made w _ _ _, ⟨_, rfl⟩, fun o v _ _ => rfl⟩
 case round =>
   obtain ⟨k, D, hk, rfl, hb, hown, hsn⟩ := hrel
   by_cases hlt : k < l.length
   · obtain ⟨g, rfl, hg1, hg2, hc⟩ := hcell (by omega)
     have hkI : (k : Int) < (l.length : Int) := by omega
     have hkI0 : (0 : Int) ≤ (k : Int) := by omega
     obtain ⟨r, hr⟩ : ∃ r, l[k] = r := ⟨_, rfl⟩
     have hrk : l[k]? = some r := by rw [← hr]; exact List.getElem?_eq_getElem hlt
     have hrm : r ∈ l := by rw [← hr]; exact List.getElem_mem hlt
     have q : ∀ j u, (ecell r)[j]? = some u → wr.cell? ⟨g, k * 10 + j, none⟩ = some u := fun j u hu => (hb.cell (p := ⟨g, k * 10 + j, none⟩) hg2).trans (hc k hlt j u (by rw [hr]; exact hu))
     have q1 := q 1 _ rfl
     have q2 := q 2 _ rfl
     have q3 := q 3 _ rfl
     have q4 := q 4 _ rfl
     have q5 := q 5 _ rfl
     have q6 := q 6 _ rfl
     have q8 := q 8 _ rfl
     have HRK : Hid (l[k]? = some r) := hrk
     have HSN : Hid (SnIs l k D) := hsn
     clear q hr hcell hc hrk hsn
     go_upto_region 6 with fail
     obtain ⟨R, hR⟩ : ∃ R, wr.heap.size = R := ⟨_, rfl⟩
     generalize hW : wr.alloc (.cells #[.int .i64 r.kind, .int .i64 r.obj, .string r.d, .int .i64 r.ver, .bool r.over, .bool r.hit] 42) = w1
     have hb1 : Below w.heap.size w w1 := by rw [← hW]; exact hb.alloc (by have := hb.size; omega) _
     have hown1 : w1.ownsMap Tryz.prog 77 (plainElem Tryz.prog 4) w.heap.size k D := by rw [← hW]; exact hown.alloc _
     have eR : w1.heap[R]? = some (.cells #[.int .i64 r.kind, .int .i64 r.obj, .string r.d, .int .i64 r.ver, .bool r.over, .bool r.hit] 42) := by rw [← hW, ← hR]; exact heap_alloc_new wr _
     have u8 : w1.cell? ⟨g, k * 10 + 8, none⟩ = some (.int .i64 r.ended) := by rw [← hW]; exact (((Below.refl _ wr).alloc (Nat.le_refl _) _).cell (p := ⟨g, k * 10 + 8, none⟩) (Nat.lt_of_lt_of_le hg2 hb.size)).trans q8
     rw [hR]
     generalize Value.agg #[.int .i64 r.kind, .int .i64 r.obj, .string r.d, .int .i64 r.ver, .bool r.over, .bool r.hit] = sr
     have p0 : w1.cell? ⟨R, 0, none⟩ = some (.int .i64 r.kind) := cell_of_row _ _ _ _ _ _ eR
     have p1 : w1.cell? ⟨R, 1, none⟩ = some (.int .i64 r.obj) := cell_of_row _ _ _ _ _ _ eR
     have p3 : w1.cell? ⟨R, 3, none⟩ = some (.int .i64 r.ver) := cell_of_row _ _ _ _ _ _ eR
     clear hW hR eR q1 q2 q3 q4 q5 q6 q8 hb hown
     go_cut [35] from 19 to 34 (fun u wx => u = .bool (!dn r) ∧ wx = w1)
     case first =>
       by_cases h1 : r.kind = 2
       · by_cases h2 : r.ended = 0
         · go_wp2_with fail
           go_meet
           case rel => exact ⟨by simp [dn, bne, h1, h2], rfl⟩
         · by_cases h3 : r.ver = 0
           · go_wp2_with fail
             go_meet
             case rel => exact ⟨by simp [dn, bne, h1, h3], rfl⟩
           · go_wp2_with fail
             go_meet
             case rel => exact ⟨by simp [dn, bne, h1], rfl⟩
       · go_wp2_with fail
         go_meet
         case rel => exact ⟨by simp [dn, bne, h1], rfl⟩
     case rest =>
       obtain ⟨rfl, hwx⟩ := hcut
       have hwx' := hwx.symm
       subst hwx'
       clear hwx
       obtain ⟨b, hb0⟩ : ∃ b, dn r = b := ⟨_, rfl⟩
       rw [hb0]
       have HB : Hid (dn r = b) := hb0
       clear hb0
       cases b with
       | false =>
         go_wp2_with fail
         go_roundw
         case rel => exact ⟨k + 1, D, by omega, by go_num, hb1, hown1.mono (by omega), HSN.out.1, fun o v io iv => by rw [seenB_skip HRK.out HB.out]; exact HSN.out.2 o v io iv⟩
         case measure => simp [intOf]; omega
       | true =>
         go_upto_region 8 with fail
         obtain ⟨Y, hY⟩ : ∃ Y, w1.heap.size = Y := ⟨_, rfl⟩
         generalize hW2 : w1.alloc (.cells #[.int .i64 r.obj, .int .i64 r.ver] 77) = w2
         have hb2 : Below w.heap.size w w2 := by rw [← hW2]; exact hb1.alloc (by have := hb1.size; omega) _
         have hown2 : w2.ownsMap Tryz.prog 77 (plainElem Tryz.prog 4) w.heap.size k D := by rw [← hW2]; exact hown1.alloc _
         have eY : w2.heap[Y]? = some (.cells #[.int .i64 r.obj, .int .i64 r.ver] 77) := by rw [← hW2, ← hY]; exact heap_alloc_new w1 _
         rw [hY]
         have y0 : w2.cell? ⟨Y, 0, none⟩ = some (.int .i64 r.obj) := cell_of_row _ _ _ _ _ _ eY
         have y1 : w2.cell? ⟨Y, 1, none⟩ = some (.int .i64 r.ver) := cell_of_row _ _ _ _ _ _ eY
         clear hW2 hY eY p0 p1 p3 u8 hb1 hown1
         obtain ⟨io, iv⟩ := HI6.out r hrm HB.out
         have hno := HOK.out.no HRK.out HB.out
         have hrun := own_bool (t := 76) hown2 keyedA Tryz.underlying76 (keyA io iv) ((HSN.out.2 _ _ io iv).trans (by rw [hno]))
         clear hno
         go_upto_region 10 with fail
         clear hrun
         go_wp2_with (refine wpList_mapUpdate_in _ rfl _ _ _ 76 rfl 77 4 keyedA Tryz.underlying76 (plainElem Tryz.prog 4) w.heap.size k D rfl hown2 (by unfold maxLen; omega) _ _ _ rfl rfl (keyA io iv) _ _ (plainElem_bool Tryz.underlying4 true) ?_; intro w3 hown3 hturn; have hb3 := Below.turned hb2 (Nat.le_refl _) hturn hb2.size; clear hturn hown2)
         go_roundw
         case rel => exact ⟨k + 1, _, by omega, by go_num, hb3, hown3, HSN.out.put HRK.out HB.out io iv (by obtain ⟨_, _, _, _, _, e⟩ := hown3; exact ⟨_, e⟩)⟩
         case measure => simp [intOf]; omega
   · obtain rfl : k = l.length := by omega
     clear hcell hown hsn
     go_wp2_with fail
     go_ret
     exact ⟨rfl, hb⟩
end Wld
end
section
namespace Wld
open Go.RowKit Go.Maps
open Cache (tp row_kept row_below)
open Lease (I64)
set_option maxRecDepth 100000 in
theorem freshW_long (o v d c : Int) (ao : Option Addr) (n cap : Nat) (w : World) (hn : 75 < n) (hm : n ≤ 9223372036854775807) :
   Calls Tryz.prog 3 #[.int .i64 o, .int .i64 v, .int .i64 d, .int .i64 c, .slice ao n cap] w fun e w' => e = .returned (.bool true) ∧ w' = w := by
 go_enter Tryz.func3, Tryz.ntmps3
 go_wp2_with fail
 go_ret
 exact ⟨rfl, rfl⟩
set_option maxHeartbeats 8000000 in
set_option maxRecDepth 100000 in
theorem freshW (o v d c : Int) (ao : Option Addr) (cap : Nat) (xs : List Stp) (w : World) (hlen : xs.length ≤ 75) (hgo : Steps w ao xs) :
   Calls Tryz.prog 3 #[.int .i64 o, .int .i64 v, .int .i64 d, .int .i64 c, .slice ao xs.length cap] w fun e w' => e = .returned (.bool true) ∧ Below w.heap.size w w' := by
 have hrd := readF_any w
 go_enter Tryz.func3, Tryz.ntmps3
 go_wp2_with fail
 refine hrd.mono ?_
 rintro e w1 ⟨rfl, hb1⟩
 have htl := tells_any o v d c false w1
 clear hrd
 go_wp2_with fail
 refine htl.mono ?_
 rintro e w2 ⟨T, A, tob, tv, td, n, a1, a2, a3, a4, a5, a6, n1, n4, rfl, hT, hT0, hb2, hL⟩
 have H0 : Hid (∃ A s wn, At w w2 T false 0 A s wn) := ⟨A, _, 0, hT, Good.first a1 a5 a6 n4 (WdB.bare a1 a3 (by omega) a5 a6) false, hb1.trans (hb2.mono hb1.size), hL.mono hb1.size, by have := hb1.size; omega⟩
 clear htl hT hT0 hb2 hL a1 a2 a3 a4 a5 a6 n1 n4 hb1
 go_wp2_with fail
 go_loopw [12] (fun i wr => ∃ j : Nat, j ≤ xs.length ∧ i = .int .i64 j ∧ ∃ A s wn, At w wr T false j A s wn) (fun i _ => xs.length - (intOf i).toNat)
 case atStart => exact ⟨0, by omega, rfl, H0.out⟩
 case round =>
   obtain ⟨j, hj, rfl, A, s, wn, hA⟩ := hrel
   clear H0
   by_cases hjl : j < xs.length
   · obtain ⟨bo, off, rfl, hbo, hx⟩ := hgo (by omega)
     have hcells := hx j hjl
     have c0 := (hA.b.cell (p := ⟨bo, off + j * 4 + 0, none⟩) hbo).trans (hcells 0 (by omega))
     have c1 := (hA.b.cell (p := ⟨bo, off + j * 4 + 1, none⟩) hbo).trans (hcells 1 (by omega))
     have c2 := (hA.b.cell (p := ⟨bo, off + j * 4 + 2, none⟩) hbo).trans (hcells 2 (by omega))
     have c3 := (hA.b.cell (p := ⟨bo, off + j * 4 + 3, none⟩) hbo).trans (hcells 3 (by omega))
     generalize xs[j] = x at *
     obtain ⟨xw, xk, xa, xb⟩ := x
     simp only [Stp.cells, List.getElem?_cons_zero, List.getElem?_cons_succ, Nat.add_zero] at c0 c1 c2 c3
     have hj' : (j : Int) < xs.length := by omega
     have hj0 : (0 : Int) ≤ (j : Int) := by omega
     have hdo := does_any T j wn A s false xw xk xa xb wr hA.t hA.g (by omega)
     have HA : Hid (At w wr T false j A s wn) := hA
     clear hcells hx hgo hA
     go_wp2_with fail
     refine hdo.mono ?_
     rintro e w3 ⟨rfl, hdn⟩
     have HN : Hid (∃ A s wn, At w w3 T false (j + 1) A s wn) := HA.out.done hdn
     clear HA hdo hdn c0 c1 c2 c3
     go_wp2_with fail
     go_roundw
     case rel => exact ⟨j + 1, by omega, by go_num, HN.out⟩
     case measure => simp [intOf]; omega
   · obtain ⟨H, L, B, hI, hF0, hel, hver, hnum⟩ := hA.facts (by omega)
     have hF := hF0 rfl
     clear hF0
     have t0 := hA.t.c0
     have hev := events_any A s wr hA.t.wd (by omega)
     have HA : Hid (At w wr T false j A s wn) := hA
     clear hgo hA
     have hjx : ¬ ((j : Int) < xs.length) := by omega
     go_wp2_with fail
     refine hev.mono ?_
     rintro e w4 ⟨ev, rfl, hrow, hb4⟩
     have hrow4 : HasE w4 wr.heap.size ev s.events := hrow
     have hwrt := written_any wr.heap.size ev s.events w4 hrow4 (by omega) (fun r hr hk hn => hI.written hr hk hn) (fun r hr => (hI.bg r hr).2.2.1)
     clear hev hrow
     go_wp2_with fail
     refine hwrt.mono ?_
     rintro e w5 ⟨rfl, hb5⟩
     have hrow5 : HasE w5 wr.heap.size ev s.events := row_below hrow4 hb5
     have hfrs := fresh_any wr.heap.size ev s.events w5 hrow5 (by omega) (fun a ha b hb ea eb ho hlt => hF.fresh hI ha hb ea eb ho hlt)
     clear hwrt
     go_wp2_with fail
     refine hfrs.mono ?_
     rintro e w6 ⟨rfl, hb6⟩
     have hrow6 : HasE w6 wr.heap.size ev s.events := row_below hrow5 hb6
     have hal := alone_any wr.heap.size ev s.events w6 hrow6 (by omega) (fun i j x y hij hx hy kx ky ex ey ho => hI.alone hij hx hy kx ky ex ey ho) (fun e he hd => ⟨(hnum e he).1, (hver e he (by simp [dn] at hd; exact hd.1.2)).2⟩)
     clear hfrs
     go_wp2_with fail
     refine hal.mono ?_
     rintro e w7 ⟨rfl, hb7⟩
     clear hal
     have hbb := HA.out.b
     have hfin : Below w.heap.size w w7 := ((hbb.trans (hb4.mono hbb.size)).trans (hb5.mono (Nat.le_trans hbb.size hb4.size))).trans ((hb6.mono (Nat.le_trans hbb.size (Nat.le_trans hb4.size hb5.size))).trans (hb7.mono (Nat.le_trans hbb.size (Nat.le_trans hb4.size (Nat.le_trans hb5.size hb6.size)))))
     clear hb4 hb5 hb6 hb7 hbb hrow4 hrow5 hrow6 hI hF hel hver hnum
     go_wp2_with fail
     go_ret
     exact ⟨rfl, hfin⟩
end Wld
end
end Go.Proofs.YtbebfliimjjohaaGreatDoor
