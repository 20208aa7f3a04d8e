/-
  Parts of the proof: WlfD WlfE.
-/
import Derived.Test.YtbebfliimjjohaaGreatDoorLi42
namespace Go.Proofs.YtbebfliimjjohaaGreatDoor
section
namespace Wld
open Go.RowKit Go.Maps
open Wal (R mayB timeB)
open Num (M okB)
theorem Inv.callOf {w : Wd} {H : List Hc} {L : List M} {B : Nat} (h : Inv w H L B) {e : Ev} (he : e ∈ w.events) : ∃ (i : Nat) (g : Hc), w.events[i]? = some e ∧ H[i]? = some g ∧ g ∈ H ∧ EvH w.n e g := by
 obtain ⟨i, hi⟩ := List.getElem?_of_mem he
 have hl : i < H.length := by rw [h.len]; exact (List.getElem?_eq_some_iff.1 hi).1
 have hg := List.getElem?_eq_getElem hl
 exact ⟨i, H[i], hi, hg, List.getElem_mem hl, h.eh i e _ hi hg⟩
theorem uc_same {rs : List R} (h : rs.Pairwise fun a b => 0 ≤ a.o → 0 ≤ b.o → ¬ (a.c = b.c ∧ a.n = b.n)) {a b : R} (ha : a ∈ rs) (hb : b ∈ rs) (a0 : 0 ≤ a.o) (b0 : 0 ≤ b.o) (e : a.c = b.c ∧ a.n = b.n) : a = b := by
 induction rs with
 | nil => cases ha
 | cons x rs ih =>
   obtain ⟨h1, h2⟩ := List.pairwise_cons.1 h
   rcases List.mem_cons.1 ha with p | p <;> rcases List.mem_cons.1 hb with q | q
   · rw [p, q]
   · subst p; exact absurd e (h1 b q a0 b0)
   · subst q; exact absurd ⟨e.1.symm, e.2.symm⟩ (h1 a p b0 a0)
   · exact ih h2 p q
theorem Inv.recOf {w : Wd} {H : List Hc} {L : List M} {B : Nat} (h : Inv w H L B) {e : Ev} (he : e ∈ w.events) (hn : e.ended ≠ 0) (hv : 0 < e.ver) : ∃ r ∈ w.rs, 0 ≤ r.o ∧ r.o = e.obj ∧ r.v = e.ver ∧ r.d = e.d := by
 obtain ⟨i, g, h1, h2, h3, h4⟩ := h.callOf he
 have ha := h.an i e g h1 h2 hn
 rcases h4.kk with k | k
 · rcases (ha.rd k).1 with q | ⟨r, hr, q⟩
   · omega
   · exact ⟨r, hr, q⟩
 · obtain ⟨r, hr, r0, r1, r2, r3⟩ := ha.wr k
   obtain ⟨_, g', hg', g1, g2, g3, g4, g5, _⟩ := h.log.wr r hr r0
   have eg : g' = g := pw_uniq h.hu hg' h3 ⟨by omega, by omega⟩
   exact ⟨r, hr, r0, by rw [← g4, eg]; exact h4.o, r3, by rw [← g5, eg]; exact h4.d k⟩
theorem Inv.one {w : Wd} {H : List Hc} {L : List M} {B : Nat} (h : Inv w H L B) {a b : R} (ha : a ∈ w.rs) (hb : b ∈ w.rs) (a0 : 0 ≤ a.o) (b0 : 0 ≤ b.o) (ho : a.o = b.o) : a.v = b.v ↔ a.d = b.d := by
 constructor
 · intro e; rw [h.log.uv a ha b hb a0 ho e]
 · intro e
   obtain ⟨_, g, hg, g1, g2, g3, _, g5, _⟩ := h.log.wr a ha a0
   obtain ⟨_, g', hg', q1, q2, q3, _, q5, _⟩ := h.log.wr b hb b0
   have eg : g = g' := pw_text h.hd hg hg' g3 q3 (by rw [g5, q5, e])
   subst eg
   rw [uc_same h.log.uc ha hb a0 b0 ⟨by omega, by omega⟩]
theorem Inv.sameWrite {w : Wd} {H : List Hc} {L : List M} {B : Nat} (h : Inv w H L B) {x y : Ev} (hx : x ∈ w.events) (hy : y ∈ w.events) (kx : x.kind = 2) (ky : y.kind = 2) (e : x.d = y.d) : x = y := by
 obtain ⟨i, g, h1, h2, h3, h4⟩ := h.callOf hx
 obtain ⟨j, g', q1, q2, q3, q4⟩ := h.callOf hy
 have eg : g = g' := pw_text h.hd h3 q3 (h4.kd.trans kx) (q4.kd.trans ky) (by rw [h4.d kx, q4.d ky, e])
 have hij : i = j := by
   subst eg
   obtain ⟨hi, hi'⟩ := List.getElem?_eq_some_iff.1 h2
   obtain ⟨hj, hj'⟩ := List.getElem?_eq_some_iff.1 q2
   by_cases hlt : i < j
   · have := List.pairwise_iff_getElem.1 h.hs i j hi hj hlt
     rw [hi', hj'] at this
     have := this rfl
     omega
   · by_cases hgt : j < i
     · have := List.pairwise_iff_getElem.1 h.hs j i hj hi hgt
       rw [hi', hj'] at this
       have := this rfl
       omega
     · omega
 subst hij
 rw [h1] at q1
 exact Option.some.inj q1
structure WrittenOk (l : List Ev) (r : Ev) : Prop where
 found : (r.ver = 0 ∧ r.d = ⟨#[]⟩) ∨ (0 < r.ver ∧ ∃ x ∈ l, x.kind = 2 ∧ x.obj = r.obj ∧ x.d = r.d)
 wr : ∀ x ∈ l, x.obj = r.obj → x.kind = 2 → x.d = r.d → 0 < r.ver → x.began ≤ r.ended ∧ (0 < x.ended → x.ver = r.ver)
 same : ∀ x ∈ l, x.obj = r.obj → 0 < x.ended → 0 < x.ver → (x.ver = r.ver ↔ x.d = r.d)
theorem Inv.written {w : Wd} {H : List Hc} {L : List M} {B : Nat} (h : Inv w H L B) {r : Ev} (hr : r ∈ w.events) (hk : r.kind = 1) (hn : r.ended ≠ 0) : WrittenOk w.events r := by
 obtain ⟨i, g, h1, h2, h3, h4⟩ := h.callOf hr
 have ha := (h.an i r g h1 h2 hn).rd hk
 have hv0 := (ha.1.le h.log).1
 refine ⟨?_, fun x hx ho kx hd hv => ?_, fun x hx ho he hv => ?_⟩
 · by_cases hv : 0 < r.ver
   · obtain ⟨x, hx, q1, q2, q3, _⟩ := ha.2 hv
     exact .inr ⟨hv, x, hx, q1, q2, q3⟩
   · rcases ha.1 with q | ⟨y, hy, y0, y1, y2, y3⟩
     · exact .inl q
     · have := (h.log.ver y hy y0).1; omega
 · obtain ⟨y, hy, q1, q2, q3, q4⟩ := ha.2 hv
   have exy := h.sameWrite hx hy kx q1 (hd.trans q3.symm)
   refine ⟨by rw [exy]; exact q4, fun he => ?_⟩
   obtain ⟨j, g', p1, p2, p3, p4⟩ := h.callOf hx
   obtain ⟨rx, hrx, x0, x1, x2, x3⟩ := (h.an j x g' p1 p2 (by omega)).wr kx
   obtain ⟨r0, hr0, z0, z1, z2, z3⟩ := h.recOf hr hn hv
   have hxv : 0 < x.ver := by have := (h.log.ver rx hrx x0).1; omega
   obtain ⟨rx', hrx', x0', x1', x2', x3'⟩ := h.recOf hx (by omega) hxv
   have := (h.one hrx' hr0 x0' z0 (by rw [x1', z1, ho])).2 (by rw [x3', z3, hd])
   omega
 · obtain ⟨rx, hrx, x0, x1, x2, x3⟩ := h.recOf hx (by omega) hv
   by_cases hrv : 0 < r.ver
   · obtain ⟨r0, hr0, z0, z1, z2, z3⟩ := h.recOf hr hn hrv
     rw [← x2, ← z2, ← x3, ← z3]
     exact h.one hrx hr0 x0 z0 (by rw [x1, z1, ho])
   · have hz : r.ver = 0 ∧ r.d = ⟨#[]⟩ := by
       rcases ha.1 with q | ⟨y, hy, y0, y1, y2, y3⟩
       · exact q
       · have := (h.log.ver y hy y0).1; omega
     constructor
     · intro e; omega
     · intro e
       exfalso
       obtain ⟨_, g', hg', g1, g2, g3, g4, g5, _⟩ := h.log.wr rx hrx x0
       exact h.hne g' hg' g3 (by rw [g5, x3, e, hz.2])
theorem Inv.alone {w : Wd} {H : List Hc} {L : List M} {B : Nat} (h : Inv w H L B) {i j : Nat} {x y : Ev} (hij : i < j) (hx : w.events[i]? = some x) (hy : w.events[j]? = some y) (kx : x.kind = 2) (ky : y.kind = 2) (ex : x.ended ≠ 0) (ey : y.ended ≠ 0) (ho : x.obj = y.obj) : x.ver ≠ y.ver := by
 intro e
 have hxm := List.mem_of_getElem? hx
 have hym := List.mem_of_getElem? hy
 have hi : i < H.length := by rw [h.len]; exact (List.getElem?_eq_some_iff.1 hx).1
 have hj : j < H.length := by rw [h.len]; exact (List.getElem?_eq_some_iff.1 hy).1
 have gx := List.getElem?_eq_getElem hi
 have gy := List.getElem?_eq_getElem hj
 obtain ⟨rx, hrx, x0, x1, x2, x3⟩ := (h.an i x _ hx gx ex).wr kx
 obtain ⟨ry, hry, y0, y1, y2, y3⟩ := (h.an j y _ hy gy ey).wr ky
 obtain ⟨_, g, hg, g1, g2, _, g4, _⟩ := h.log.wr rx hrx x0
 obtain ⟨_, g', hg', q1, q2, _, q4, _⟩ := h.log.wr ry hry y0
 have e1 : g = H[i] := pw_uniq h.hu hg (List.getElem_mem hi) ⟨by omega, by omega⟩
 have e2 : g' = H[j] := pw_uniq h.hu hg' (List.getElem_mem hj) ⟨by omega, by omega⟩
 have hEx := h.eh i x _ hx gx
 have hEy := h.eh j y _ hy gy
 have er : rx = ry := h.log.uv rx hrx ry hry x0 (by rw [← g4, ← q4, e1, e2, hEx.o, hEy.o, ho]) (by omega)
 have := List.pairwise_iff_getElem.1 h.hs i j hi hj hij
 have h5 := this (by rw [← x1, ← y1, er])
 rw [← x2, ← y2, er] at h5
 omega
theorem Inv.verNN {w : Wd} {H : List Hc} {L : List M} {B : Nat} (h : Inv w H L B) {e : Ev} (he : e ∈ w.events) (hn : e.ended ≠ 0) : 0 ≤ e.ver := by
 obtain ⟨i, g, h1, h2, h3, h4⟩ := h.callOf he
 have ha := h.an i e g h1 h2 hn
 rcases h4.kk with k | k
 · exact ((ha.rd k).1.le h.log).1
 · obtain ⟨r, hr, r0, r1, r2, r3⟩ := ha.wr k
   have := (h.log.ver r hr r0).1
   omega
theorem Inv.recs {w : Wd} {H : List Hc} {L : List M} {B : Nat} (h : Inv w H L B) : ∀ r ∈ w.rs, 0 ≤ r.c ∧ r.o < 8 := fun r hr => by
 by_cases h0 : 0 ≤ r.o
 · obtain ⟨h8, g, hg, g1, _⟩ := h.log.wr r hr h0
   obtain ⟨i, hi⟩ := List.getElem?_of_mem hg
   have hl : i < w.events.length := by rw [← h.len]; exact (List.getElem?_eq_some_iff.1 hi).1
   have hE := h.eh i _ g (List.getElem?_eq_getElem hl) hi
   have := hE.c
   have := hE.c0
   have := hE.l0
   exact ⟨by omega, h8⟩
 · exact ⟨(h.log.eps r hr (by omega)).2, by omega⟩
theorem Safe.calmOk {hon : Prop} {w : Wd} {H : List Hc} {L : List M} {b : Nat} {cb : Int} (h : Safe hon w H L b cb) (hb : H.length + b < 200) : (w.sv = none → w.rs.length < 200) ∧ ∀ r ∈ w.rs, 0 ≤ r.c ∧ r.o < 8 := by
 obtain ⟨B, k1, k2⟩ := h.inv.inv
 exact ⟨fun _ => by have := k1.room; omega, k1.recs⟩
end Wld
end
section
namespace Wld
open Go.RowKit Go.Maps
open Lease (upd upd_same upd_other hol dels mx kk isH I64 objB)
open Wal (R mayB timeB)
open Num (M okB)
structure Tm (s s' : Wd) : Prop where
 ob : s'.to = s.to
 tv : s'.tv = s.tv
 td : s'.td = s.td
 n : s'.n = s.n
theorem Tm.refl (s : Wd) : Tm s s := ⟨rfl, rfl, rfl, rfl⟩
theorem Tm.trans {a b c : Wd} (h : Tm a b) (k : Tm b c) : Tm a c := ⟨k.ob.trans h.ob, k.tv.trans h.tv, k.td.trans h.td, k.n.trans h.n⟩
theorem put_tm (w : Wd) (t : Int) (m : M) : Tm w (w.put t m) := by unfold Wd.put; split <;> exact ⟨rfl, rfl, rfl, rfl⟩
theorem send_tm (t : Int) : ∀ (l : List M) (w : Wd), Tm w (w.send t l)
 | [], w => .refl w
 | m :: l, w => (put_tm w t m).trans (send_tm t l _)
theorem tells_tm : ∀ (l : List M) (w : Wd), Tm w (w.tells l)
 | [], w => .refl w
 | m :: l, w => (put_tm w _ m).trans (tells_tm l _)
theorem fallen_tm (w : Wd) : Tm w w.fallen := by
 unfold Wd.fallen
 split
 · exact .refl w
 · split <;> exact ⟨rfl, rfl, rfl, rfl⟩
theorem served_tm (w : Wd) (s : Sv) : Tm w (w.served s) := ⟨rfl, rfl, rfl, rfl⟩
theorem answer_tm (w : Wd) (r : Sv × List M) : Tm w (w.answer r) := ((served_tm w r.1).trans (tells_tm r.2 _)).trans (fallen_tm _)
theorem toldServer_tm (w : Wd) (m : M) : Tm w (w.toldServer m) := by
 unfold Wd.toldServer
 split
 · exact .refl w
 · exact answer_tm w _
theorem note_tm (w : Wd) (k : Nat) : Tm w (w.note k) := by unfold Wd.note; split <;> exact ⟨rfl, rfl, rfl, rfl⟩
theorem setK_tm (w : Wd) (k : Nat) (c : K) : Tm w (w.setK k c) := ⟨rfl, rfl, rfl, rfl⟩
theorem toldClient_tm (w : Wd) (k : Nat) (m : M) : Tm w (w.toldClient k m) := ((setK_tm w k _).trans (send_tm _ _ _)).trans (note_tm _ k)
theorem ask_tm (w : Wd) (k : Nat) : Tm w (w.ask k) := (setK_tm w k _).trans (send_tm _ _ _)
theorem deliver_tm (w : Wd) (k : Nat) : Tm w (w.deliver k) := by
 unfold Wd.deliver
 split
 · exact .refl w
 · unfold Wd.told
   refine Tm.trans (b := { w with net := w.net.eraseIdx k, step := w.step + 1 }) ⟨rfl, rfl, rfl, rfl⟩ ?_
   split
   · exact toldServer_tm _ _
   · split
     · exact toldClient_tm _ _ _
     · exact .refl _
theorem begin_tm (w : Wd) (k : Nat) (c : K) : Tm w (w.begin k c) := by
 unfold Wd.begin Wd.asked
 have h : Tm w ((w.opens k c).note k) := Tm.trans (b := w.opens k c) ⟨rfl, rfl, rfl, rfl⟩ (note_tm _ k)
 split
 · exact h
 · exact h.trans (ask_tm _ k)
theorem restart_tm (w : Wd) : Tm w w.restart := by unfold Wd.restart; split <;> exact ⟨rfl, rfl, rfl, rfl⟩
theorem goes_tm (w : Wd) (b : Int) (f : Nat → Int) : Tm w (w.goes b f) := by
 unfold Wd.goes Wd.ticked
 have h : Tm w (w.gone b f) := ⟨rfl, rfl, rfl, rfl⟩
 split
 · exact h
 · exact h.trans (answer_tm _ _)
theorem twice_tm (w : Wd) (k : Nat) : Tm w (w.twice k) := by
 unfold Wd.twice
 split
 · exact .refl w
 · split <;> exact ⟨rfl, rfl, rfl, rfl⟩
theorem failing_tm (w : Wd) (x t : Int) : Tm w (w.failing x t) := by unfold Wd.failing; split <;> exact ⟨rfl, rfl, rfl, rfl⟩
theorem drain_tm : ∀ (f : Nat) (w : Wd), Tm w (w.drain f)
 | 0, w => .refl w
 | f + 1, w => by
   unfold Wd.drain
   split
   · exact .refl w
   · exact (deliver_tm w 0).trans (drain_tm f _)
theorem calmK_tm (w : Wd) : ∀ k, Tm w (w.calmK k)
 | 0 => .refl w
 | k + 1 => ((calmK_tm w k).trans (Tm.trans (b := { w.calmK k with step := (w.calmK k).step + 1 }) ⟨rfl, rfl, rfl, rfl⟩ (ask_tm _ k))).trans (drain_tm _ _)
theorem calm1_tm (w : Wd) : Tm w w.calm1 := (((restart_tm w).trans (calmK_tm _ _)).trans (goes_tm _ _ _)).trans (drain_tm _ _)
theorem calm_tm (w : Wd) : ∀ r, Tm w (w.calm r)
 | 0 => .refl w
 | r + 1 => (calm_tm w r).trans (calm1_tm _)
def TxtIs (d : ByteArray) (j : Nat) : Prop := d.size = 3 ∧ (d.data[1]?).map UInt8.toNat = some j
theorem TxtIs.ne {d d' : ByteArray} {i j : Nat} (h : TxtIs d i) (k : TxtIs d' j) (hn : i ≠ j) : d ≠ d' := by
 rintro rfl
 have := h.2.symm.trans k.2
 exact hn (Option.some.inj this)
theorem TxtIs.some {d : ByteArray} {j : Nat} (h : TxtIs d j) : d ≠ ⟨#[]⟩ := by
 rintro rfl
 exact absurd h.1 (by decide)
structure Good (s : Wd) (wr : Nat) (lies : Bool) (i : Nat) : Prop where
 ex : ∃ (H : List Hc) (L : List M) (b C : Nat), Safe (lies = false) s H L b (40 * (i : Int)) ∧ H.length + b ≤ 1 + i ∧ WdB s C ∧ C ≤ 60000 * i ∧ ∀ g ∈ H, g.kd = 2 → ∃ j, j ≤ wr ∧ TxtIs g.d j
 wr : wr ≤ i
theorem Good.first {to' tv td : Int} (h1 : 1 ≤ tv) (h4 : 0 ≤ td) (h5 : td ≤ 500) {n : Nat} (hn : n ≤ 4) (hB : WdB (Wd.bare to' tv td n) 0) (lies : Bool) : Good (Wd.bare to' tv td n).start 0 lies 0 :=
 ⟨⟨[], [], 1, 0, Safe.first h4 (by omega) (by omega) hn _, by simp, hB.start (by simp [Wd.bare]), by omega, by simp⟩, by omega⟩
theorem Good.keep {s s' : Wd} {wr : Nat} {lies : Bool} {i : Nat} (h : Good s wr lies i) (hs : ∀ (H : List Hc) (L : List M) b cb, Safe (lies = false) s H L b cb → H.length + b < 200 → ∃ L', Safe (lies = false) s' H L' b cb) (hB : ∀ C, WdB s C → WdB s' (C + 60000)) (hi : i ≤ 100) : Good s' wr lies (i + 1) := by
 obtain ⟨H, L, b, C, k1, k2, k3, k4, k5⟩ := h.ex
 obtain ⟨L', k6⟩ := hs H L b _ k1 (by omega)
 exact ⟨⟨H, L', b, C + 60000, k6.mono (Nat.le_refl _) (by omega), by omega, hB C k3, by omega, k5⟩, by have := h.wr; omega⟩
theorem Good.idle {s : Wd} {wr wr' : Nat} {lies : Bool} {i : Nat} (h : Good s wr lies i) (hw : wr ≤ wr') (hw2 : wr' ≤ i + 1) : Good s wr' lies (i + 1) := by
 obtain ⟨H, L, b, C, k1, k2, k3, k4, k5⟩ := h.ex
 exact ⟨⟨H, L, b, C, k1.mono (Nat.le_refl _) (by omega), by omega, k3, by omega, fun g hg q => (k5 g hg q).imp fun j r => ⟨by omega, r.2⟩⟩, by omega⟩
theorem free_is {k : K} {o : Int} (h : k.freeE o = 0) : k.isOpen = false ∧ 0 ≤ o ∧ o < 8 := by
 unfold K.freeE at h
 split at h
 · cases h
 · rename_i q
   split at h
   · rename_i p
     have := Num.of_inB_true (show Num.inB o 0 7 = true from p)
     exact ⟨by simpa using q, this.1, by omega⟩
   · cases h
theorem Good.read {s : Wd} {wr : Nat} {lies : Bool} {i : Nat} (h : Good s wr lies i) {k : Nat} (hk : k < s.n) {o : Int} (hf : (s.seat k).k.freeE o = 0) : Good (s.read k o) wr lies (i + 1) := by
 obtain ⟨H, L, b, C, k1, k2, k3, k4, k5⟩ := h.ex
 obtain ⟨f1, f2, f3⟩ := free_is hf
 obtain ⟨g, L', g1, k6⟩ := k1.read hk f2 f3 f1
 have hsb := k3.st k hk
 have hkb := KB.reads hsb.k (o := o) (now := (s.seat k).clock) f2 (by omega) hsb.c0 hsb.c1
 refine ⟨⟨H ++ [g], L', b, C + 60000, k6.mono (Nat.le_refl _) (by omega), by simp; omega, (WdB.begin k3 hk hkb).mono (by omega), by omega, fun x hx q => ?_⟩, by have := h.wr; omega⟩
 rcases mem_snoc hx with p | p
 · exact k5 x p q
 · rw [p, g1] at q; exact absurd q (by decide)
theorem Good.write {s : Wd} {wr : Nat} {lies : Bool} {i : Nat} (h : Good s wr lies i) {k : Nat} (hk : k < s.n) {o : Int} {d : ByteArray} (hd : TxtIs d (wr + 1)) (hf : (s.seat k).k.writeE o d = 0) : Good (s.write k o d) (wr + 1) lies (i + 1) := by
 obtain ⟨H, L, b, C, k1, k2, k3, k4, k5⟩ := h.ex
 have hf' : (s.seat k).k.freeE o = 0 := by
   unfold K.writeE at hf
   split at hf
   · rename_i q; exact absurd hf q
   · rename_i q; simpa using q
 obtain ⟨f1, f2, f3⟩ := free_is hf'
 obtain ⟨g, L', g1, g2, k6⟩ := k1.write hk f2 f3 f1 hd.some (d := d) fun x hx q => by
   obtain ⟨j, j1, j2⟩ := k5 x hx q
   exact j2.ne hd (by omega)
 have hsb := k3.st k hk
 have hkb := KB.begin hsb.k (o := o) (now := (s.seat k).clock) 2 (d := d) (by rw [hd.1]; omega) 0 false false f2 (by omega) hsb.c0 hsb.c1
 refine ⟨⟨H ++ [g], L', b, C + 60000, k6.mono (Nat.le_refl _) (by omega), by simp; omega, (WdB.begin k3 hk (hkb.mono (by omega))).mono (by omega), by omega, fun x hx q => ?_⟩, by have := h.wr; omega⟩
 rcases mem_snoc hx with p | p
 · exact (k5 x p q).imp fun j r => ⟨by omega, r.2⟩
 · exact ⟨wr + 1, Nat.le_refl _, by rw [p, g2]; exact hd⟩
theorem Good.crash {s : Wd} {wr : Nat} {lies : Bool} {i : Nat} (h : Good s wr lies i) : Good s.crash wr lies (i + 1) := by
 obtain ⟨H, L, b, C, k1, k2, k3, k4, k5⟩ := h.ex
 exact ⟨⟨H, L, b + 1, C + 60000, k1.crash.mono (Nat.le_refl _) (by omega), by omega, k3.crash.mono (by omega), by omega, k5⟩, by have := h.wr; omega⟩
theorem Good.failing {s : Wd} {wr : Nat} {lies : Bool} {i : Nat} (h : Good s wr lies i) {x : Int} (hx : x ≤ 9223372036854775807) (t : Int) : Good (s.failing x t) wr lies (i + 1) := by
 obtain ⟨H, L, b, C, k1, k2, k3, k4, k5⟩ := h.ex
 exact ⟨⟨H, L, b + 1, C + 60000, (k1.failing x t).mono (Nat.le_refl _) (by omega), by omega, (k3.failing hx t).mono (by omega), by omega, k5⟩, by have := h.wr; omega⟩
theorem Good.goes {s : Wd} {wr : Nat} {lies : Bool} {i : Nat} (h : Good s wr lies i) (hi : i ≤ 100) {g b0 : Int} {f : Nat → Int} (hb0 : 0 ≤ b0 ∧ b0 ≤ 40) (hf : ∀ k, k < s.n → 0 ≤ f k ∧ f k ≤ 40) (hh : lies = false → 1000 * b0 ≤ g * (1000 + s.td) ∧ ∀ k, k < s.n → g * (1000 - s.td) ≤ 1000 * f k) : Good (s.goes b0 f) wr lies (i + 1) := by
 obtain ⟨H, L, b, C, k1, k2, k3, k4, k5⟩ := h.ex
 have d0 := k3.td0
 have d1 := k3.td1
 obtain ⟨L', k6⟩ := k1.goes (a := b0) (f := f) (g := 40) (by omega) hb0.2 hf (by omega) fun q k hk => by
   obtain ⟨q1, q2⟩ := hh q
   have q3 := q2 k hk
   have e1 : 1000 * b0 * (1000 - s.td) ≤ g * (1000 + s.td) * (1000 - s.td) := Int.mul_le_mul_of_nonneg_right q1 (by omega)
   have e2 : g * (1000 - s.td) * (1000 + s.td) ≤ 1000 * f k * (1000 + s.td) := Int.mul_le_mul_of_nonneg_right q3 (by omega)
   have e3 : g * (1000 + s.td) * (1000 - s.td) = g * (1000 - s.td) * (1000 + s.td) := by rw [Int.mul_assoc, Int.mul_assoc, Int.mul_comm (1000 + s.td)]
   have e4 : 1000 * b0 * (1000 - s.td) = 1000 * (b0 * (1000 - s.td)) := Int.mul_assoc _ _ _
   have e5 : 1000 * f k * (1000 + s.td) = 1000 * (f k * (1000 + s.td)) := Int.mul_assoc _ _ _
   omega
 exact ⟨⟨H, L', b, C + 60000, k6.mono (Nat.le_refl _) (by omega), by omega, (k3.goes hb0.1 fun k hk => (hf k hk).1).mono (by omega), by omega, k5⟩, by have := h.wr; omega⟩
end Wld
end
end Go.Proofs.YtbebfliimjjohaaGreatDoor
