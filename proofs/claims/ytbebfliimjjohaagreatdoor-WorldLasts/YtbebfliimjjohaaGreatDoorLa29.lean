/-
  Parts of the proof: WldY WldZ.
-/
import Derived.Test.YtbebfliimjjohaaGreatDoorLa28
section
namespace Go.Proofs.YtbebfliimjjohaaGreatDoor.Wld
open Go.RowKit Go.Maps
open Lease (upd upd_same upd_other hol dels mx kk isH)
open Cache (E era putL)
open Wal (R mayB timeB)
open Num (M okB)
theorem Pend.sub {w : Wd} {L L' : List M} {k : Nat} {m : M} (h : Pend w L' k m) (hL : ∀ x ∈ L', x.k = 5 → x ∈ L) : Pend w L k m := ⟨hL m h.mem h.k5, h.k5, h.l, h.c, h.n, h.o, h.cm⟩

theorem seat_of {w : Wd} {H : List Hc} {k : Nat} (hs : SeatI w H k) (hk : k < 4) : seatN (w.seat k).k.id = k := by
  rw [hs.id]
  unfold seatN
  have := hs.l0
  omega

theorem Fr.mild {w : Wd} {H : List Hc} {L : List M} {B : Nat} (f : Fr w H L) (h : Inv w H L B) {s s' : Sv} (hs : w.sv = some s) {L' : List M} (h' : SvInv H s') (e0 : s'.rs = s.rs) (e1 : s'.tv = s.tv) (e2 : s'.to = s.to) (e3 : s'.D = s.D) (e4 : s'.ses = s.ses) (e5 : s'.vol = s.vol) (e6 : s'.ready = s.ready)
    (wt : ∀ o : Nat, s.waits o ≠ [] → s'.waits o ≠ []) (new : ∀ m ∈ L', m ∈ L ∨ (NewOk L s' m ∧ m.k ≠ 5 ∧ m.k ≠ 7)) : Fr (w.served s') H L' := by
  obtain ⟨hi, hrs⟩ := h.sv s hs
  have e7 : s'.l4 = s.l4 := by rw [h'.l4, hi.l4, e0]
  have e8 : s'.epoch = s.epoch := congrArg L4.ep e7
  have e9 : s'.vv = s.vv := congrArg L4.vv e7
  have n5 : ∀ x ∈ L', x.k = 5 → x ∈ L := fun x hx q => (new x hx).elim id fun p => absurd q p.2.1
  have n7 : ∀ x ∈ L', x.k = 7 → x ∈ L := fun x hx q => (new x hx).elim id fun p => absurd q p.2.2
  have lv : ∀ k e ss x, Lv w s k e ss x → Lv (w.served s') s' k e ss x := fun k e ss x q => q.step f.d0 f.d1 e8 e6 (.inl ⟨by rw [e4], by rw [e5]; exact Int.le_refl _⟩)
  have cl : ∀ k o v u e ss, (e = s.epoch → ss ≤ s.ses (k : Nat)) → Cl w L k o v u e ss → Cl (w.served s') L' k o v u e ss := fun k o v u e ss hb q => q.step hs e8 (by rw [e0, hrs]) (fun g hg g7 _ => .inl (n7 g hg g7)) hb (.inl (by rw [e4])) fun _ _ _ _ p1 p2 => by rw [e3]; exact ⟨p1, p2⟩
  refine f.serve h hs h' e1 e2 (by rw [e3]; exact (f.sv s hs).2.2) e8 (fun o => by rw [e9]; exact Int.le_refl _) (fun k => by rw [e4]; exact Int.le_refl _) (fun m hm => (new m hm).imp id fun p => p.1) (fun o _ q => wt o q) (fun k _ m hm => .inl (hm.sub n5)) ?_ ?_ ?_ ?_
  · exact fun k hk => lv _ _ _ _ ((f.st k hk).vk s hs)
  · exact fun k hk g hg g7 g1 g2 => lv _ _ _ _ ((f.st k hk).vg s hs g (n7 g hg g7) g7 g1 g2)
  · exact fun k hk x hx => cl _ _ _ _ _ _ (fun q => (f.st k hk).lb.2 s hs q) ((f.st k hk).ck x hx).2.2
  · intro k hk m hm
    have hm' := hm.sub n5
    refine cl _ _ _ _ _ _ (fun q => ?_) ((f.st k hk).cp m hm')
    have := (f.lb m hm'.mem (.inl hm'.k5)).2 s hs q
    rw [hm'.c, seat_of (h.st k hk) (by have := h.n4; omega)] at this
    exact this

theorem pend_cob {w : Wd} {H : List Hc} {L : List M} {B : Nat} (h : Inv w H L B) {k : Nat} (hk : k < w.n) (ho : (w.seat k).k.isOpen = true) {g : Hc} (hg : g ∈ H) (h1 : g.c = (w.seat k).k.id) (h2 : g.n = (w.seat k).k.num) : g.o = (w.seat k).k.cob ∧ 0 ≤ g.o ∧ g.o < 8 := by
  have hs := h.st k hk
  have hcall : 0 ≤ (w.seat k).call := by rw [hs.isO] at ho; exact of_decide_eq_true ho
  obtain ⟨e0, g0, a1, a2, a3, a4, a5, a6, a7, a8⟩ := hs.opn hcall
  have eg : g = g0 := pw_uniq h.hu hg (List.mem_of_getElem? a2) ⟨by omega, by omega⟩
  have hE := h.eh _ e0 g0 a1 a2
  rw [eg]
  exact ⟨a6, by rw [hE.o]; exact hE.o0, by rw [hE.o]; exact hE.o8⟩

theorem Fr.s1 {w : Wd} {H : List Hc} {L : List M} {B : Nat} (f : Fr w H L) (h : Inv w H L B) (hB : H.length + B < 200) {s s' : Sv} {L' : List M} (hs : w.sv = some s) (k : S1 w.clock s L s' L') : Fr (w.served s') H L' := by
  have h' : SvInv H s' := ((h.s1 hB hs k).sv s' rfl).1
  obtain ⟨hi, hrs⟩ := h.sv s hs
  have hroom := h.room
  have hn4 := h.n4
  have hpb : ∀ {k : Nat}, k < w.n → ∀ {m : M}, Pend w L k m → m.e = s.epoch → m.s ≤ s.ses (k : Nat) := fun {k} hk {m} hm q => by
    have := (f.lb m hm.mem (.inl hm.k5)).2 s hs q
    rw [hm.c, seat_of (h.st k hk) (by omega)] at this
    exact this
  cases k with
  | fall o m rest ho hd hw ok =>
    rcases commit_is s m o hd (by rw [hrs]; omega) with e | e
    · rw [e] at ok; cases ok
    · rw [e] at h' ⊢; exact f.mild h hs h' rfl rfl rfl rfl rfl rfl rfl (fun _ q => q) (fun _ q => .inl q)
  | enq o m ho hd hm hk h0 hc hl hsame h10 =>
    refine f.mild h hs h' rfl rfl rfl rfl rfl rfl rfl (fun x q => ?_) (fun _ q => .inl q)
    show updN s.waits o (s.waits o ++ [m]) x ≠ []
    unfold updN
    split
    · simp
    · exact q
  | flushM m hd hm hk hc he =>
    refine f.mild h hs h' rfl rfl rfl rfl rfl rfl rfl (fun _ q => q) (fun x hx => (mem_one hx).imp id fun q => ?_)
    subst q
    exact ⟨⟨⟨by show ¬ (8 : Int) = 3; decide, by show ¬ (8 : Int) = 4; decide⟩, fun _ => ⟨rfl, rfl⟩, fun q => absurd ((rfl : (8 : Int) = _).trans q) (by decide), fun _ => ⟨m, hm, hk, rfl, rfl⟩⟩, by show ¬ (8 : Int) = 5; decide, by show ¬ (8 : Int) = 7; decide⟩
  | inval c o hc ho hd hw =>
    refine f.mild h hs h' rfl rfl rfl rfl rfl rfl rfl (fun _ q => q) (fun x hx => (mem_one hx).imp id fun q => ?_)
    subst q
    have eo : (s.invalM c o).o.toNat = o := by show ((o : Int)).toNat = o; omega
    exact ⟨⟨⟨by show ¬ (9 : Int) = 3; decide, by show ¬ (9 : Int) = 4; decide⟩, fun q => absurd q (by show ¬ ((9 : Int) = 5 ∨ (9 : Int) = 7 ∨ (9 : Int) = 8); decide), fun _ => ⟨by show (0 : Int) ≤ o; omega, by show (o : Int) < 8; omega, rfl, by rw [eo]; rfl, by rw [eo]; exact hw⟩, fun q => absurd q (by show ¬ ((9 : Int) = 7 ∨ (9 : Int) = 8); decide)⟩, by show ¬ (9 : Int) = 5; decide, by show ¬ (9 : Int) = 7; decide⟩
  | redone m hd hm hk h0 h8 hc h1 h2 =>
    refine f.mild h hs h' rfl rfl rfl rfl rfl rfl rfl (fun _ q => q) (fun x hx => (mem_one hx).imp id fun q => ?_)
    subst q
    exact ⟨⟨⟨by show ¬ (6 : Int) = 3; decide, by show ¬ (6 : Int) = 4; decide⟩, fun q => absurd q (by show ¬ ((6 : Int) = 5 ∨ (6 : Int) = 7 ∨ (6 : Int) = 8); decide), fun q => absurd ((rfl : (6 : Int) = _).trans q) (by decide), fun q => absurd q (by show ¬ ((6 : Int) = 7 ∨ (6 : Int) = 8); decide)⟩, by show ¬ (6 : Int) = 5; decide, by show ¬ (6 : Int) = 7; decide⟩
  | flush c hc hv =>
    have hses : ∀ k : Nat, (s.flushed c).ses k = if k = c then s.ses c + 1 else s.ses k := fun k => by
      show upd s.ses c (s.ses c + 1) k = _
      unfold Lease.upd
      by_cases e : k = c
      · subst e; simp
      · rw [if_neg e, if_neg (by omega)]
    have hvol : ∀ k : Nat, k ≠ c → (s.flushed c).vol k = s.vol k := fun k e => by
      show upd s.vol c 0 k = _
      rw [upd_other (by omega)]
    have lv : ∀ (k : Nat) e ss x, Lv w s k e ss x → Lv (w.served (s.flushed c)) (s.flushed c) k e ss x := fun k e ss x q => by
      refine q.step f.d0 f.d1 rfl rfl ?_
      by_cases e : k = c
      · subst e; right; omega
      · left; exact ⟨by rw [hses, if_neg e], by rw [hvol k e]; exact Int.le_refl _⟩
    have cl : ∀ (k o : Nat) v u e ss, k < w.n → o < 8 → (e = s.epoch → ss ≤ s.ses k) → Cl w L k o v u e ss → Cl (w.served (s.flushed c)) L k o v u e ss := fun k o v u e ss hk ho hb q => by
      refine q.step hs rfl (by show (logL s.rs).vv o = _; rw [hrs]) (fun g hg _ _ => .inl hg) hb ?_ ?_
      · rw [hses]
        by_cases e : k = c
        · subst e; rw [if_pos rfl]; right; omega
        · rw [if_neg e]; exact .inl rfl
      · intro q1 _ _ _ p1 p2
        have hkc : k ≠ c := fun e => by subst e; rw [hses, if_pos rfl] at q1; omega
        obtain ⟨d1, d2⟩ := dels_other (D := s.D) (c' := (k : Int)) (o' := (o : Int)) (x := (c : Int)) 8 fun i hi e => hkc (kk_nat (by omega) hc ho hi e).1
        show has (dels s.D c 8) (kk k o) = true ∧ Qr _ _ _ _ (lentB (dels s.D c 8) k o) u
        rw [d1, d2]
        exact ⟨p1, p2⟩
    refine f.serve h hs h' rfl rfl ((f.sv s hs).2.2.dels c 8) rfl (fun _ => Int.le_refl _) (fun k => ?_) (fun m hm => .inl hm) (fun _ _ q => q) (fun _ _ _ hm => .inl hm) ?_ ?_ ?_ ?_
    · rw [hses]; split
      · rename_i e; subst e; omega
      · omega
    · exact fun k hk => lv _ _ _ _ ((f.st k hk).vk s hs)
    · exact fun k hk g hg g7 g1 g2 => lv _ _ _ _ ((f.st k hk).vg s hs g hg g7 g1 g2)
    · exact fun k hk x hx => cl _ _ _ _ _ _ hk (by have := (f.st k hk).ck x hx; omega) (fun q => (f.st k hk).lb.2 s hs q) ((f.st k hk).ck x hx).2.2
    · intro k hk m hm
      obtain ⟨⟨g, hg, g1, g2, _⟩, _⟩ := (h.msg m hm.mem).va hm.k5
      have := pend_cob h hk hm.o hg (g1.trans hm.c) (g2.trans hm.n)
      exact cl _ _ _ _ _ _ hk (by omega) (hpb hk hm) ((f.st k hk).cp m hm)
  | grant m hd hm hk hc he hss =>
    obtain ⟨s', hs'⟩ : ∃ s', s' = { s with vol := upd s.vol (seatN m.c : Nat) (mx (s.vol (seatN m.c : Nat)) (w.clock + s.tv)) } := ⟨_, rfl⟩
    rw [← hs'] at h' ⊢
    have b : s'.tv = s.tv ∧ s'.to = s.to ∧ s'.D = s.D ∧ s'.epoch = s.epoch ∧ s'.ready = s.ready ∧ s'.ses = s.ses ∧ s'.vv = s.vv ∧ s'.waits = s.waits ∧ s'.rs = s.rs ∧ s'.vol = upd s.vol (seatN m.c : Nat) (mx (s.vol (seatN m.c : Nat)) (w.clock + s.tv)) := by rw [hs']; exact ⟨rfl, rfl, rfl, rfl, rfl, rfl, rfl, rfl, rfl, rfl⟩
    obtain ⟨b1, b2, b3, b4, b5, b6, b7, b8, b9, b10⟩ := b
    have hvol : ∀ k : Nat, s.vol k ≤ s'.vol k := fun k => by
      rw [b10]
      unfold Lease.upd
      split
      · rename_i e; rw [e]; exact le_mx1 _ _
      · exact Int.le_refl _
    have lv : ∀ (k : Nat) e ss x, Lv w s k e ss x → Lv (w.served s') s' k e ss x := fun k e ss x q => q.step f.d0 f.d1 b4 b5 (.inl ⟨by rw [b6], hvol k⟩)
    have cl : ∀ (k o : Nat) v u e ss, k < w.n → (e = s.epoch → ss ≤ s.ses k) → Cl w L k o v u e ss → Cl (w.served s') (L ++ [s.answer 7 m]) k o v u e ss := fun k o v u e ss hkn hb q => by
      refine q.step hs b4 (by rw [b9, hrs]) (fun g hg g7 gc => (mem_one hg).imp id fun q => ?_) hb (.inl (by rw [b6])) fun _ _ _ _ p1 p2 => by rw [b3]; exact ⟨p1, p2⟩
      subst q
      refine ⟨rfl, ?_⟩
      have gc' : m.c = (w.seat k).k.id := gc
      show s.ses (seatN m.c : Nat) = s.ses k
      rw [gc', seat_of (h.st k hkn) (by omega)]
    have n5 : ∀ x ∈ L ++ [s.answer 7 m], x.k = 5 → x ∈ L := fun x hx q => (mem_one hx).elim id fun p => by subst p; exact absurd ((rfl : (7 : Int) = _).trans q) (by decide)
    refine f.serve h hs h' b1 b2 (by rw [b3]; exact (f.sv s hs).2.2) b4 (fun _ => by rw [b7]; exact Int.le_refl _) (fun k => by rw [b6]; exact Int.le_refl _) (fun x hx => (mem_one hx).imp id fun q => ?_) (fun _ _ q => by rw [b8]; exact q) (fun _ _ _ hm => .inl (hm.sub n5)) ?_ ?_ ?_ ?_
    · subst q
      exact ⟨⟨by show ¬ (7 : Int) = 3; decide, by show ¬ (7 : Int) = 4; decide⟩, fun _ => ⟨b4.symm, by rw [b6]; rfl⟩, fun q => absurd ((rfl : (7 : Int) = _).trans q) (by decide), fun _ => ⟨m, hm, hk, rfl, rfl⟩⟩
    · exact fun k hk => lv _ _ _ _ ((f.st k hk).vk s hs)
    · intro k hk g hg g7 g1 g2
      rcases mem_one hg with q | q
      · exact lv _ _ _ _ ((f.st k hk).vg s hs g q g7 g1 g2)
      · subst q
        have gc' : m.c = (w.seat k).k.id := g1
        have hseat : seatN m.c = k := by rw [gc']; exact seat_of (h.st k hk) (by omega)
        have fk := f.st k hk
        refine .inr (.inl ⟨b4.symm, by show s.ses (seatN m.c : Nat) = s'.ses k; rw [hseat, b6], Qr.new f.d0 f.d1 ?_ ?_⟩)
        · rw [b10, hseat, upd_same]
          show w.clock + w.tv ≤ _
          rw [← (f.sv s hs).1]
          exact le_mx2 _ _
        · show (w.seat k).k.asked + (w.seat k).k.vol ≤ (w.seat k).clock + short w.td w.tv
          have := fk.ask
          rw [fk.vol]
          omega
    · exact fun k hk x hx => cl _ _ _ _ _ _ hk (fun q => (f.st k hk).lb.2 s hs q) ((f.st k hk).ck x hx).2.2
    · exact fun k hk x hx => cl _ _ _ _ _ _ hk (hpb hk (hx.sub n5)) ((f.st k hk).cp x (hx.sub n5))
  | drop o m ho hd hm hk h0 hc he hv =>
    have hac := f.ac s hs m hm hk he (by rw [hv, h0]; simp)
    have lv : ∀ (k : Nat) e ss x, Lv w s k e ss x → Lv (w.served (s.dropped (seatN m.c) o)) (s.dropped (seatN m.c) o) k e ss x := fun k e ss x q => q.step f.d0 f.d1 rfl rfl (.inl ⟨rfl, Int.le_refl _⟩)
    have cl : ∀ (k o' : Nat) v u e ss, k < w.n → o' < 8 → (k = seatN m.c → o' ≠ o) → (e = s.epoch → ss ≤ s.ses k) → Cl w L k o' v u e ss → Cl (w.served (s.dropped (seatN m.c) o)) L k o' v u e ss := fun k o' v u e ss hkn ho' hne hb q => by
      refine q.step hs rfl (by show (logL s.rs).vv o' = _; rw [hrs]) (fun g hg _ _ => .inl hg) hb (.inl rfl) fun _ _ _ _ p1 p2 => ?_
      have hnk : kk (k : Int) (o' : Int) ≠ kk (seatN m.c : Nat) o := fun e => by
        have := kk_nat (by omega) (seatN_lt _) ho' ho e
        exact hne this.1 this.2
      show has (s.D.del (kk (seatN m.c : Nat) o)) (kk k o') = true ∧ Qr _ _ _ _ (lentB (s.D.del (kk (seatN m.c : Nat) o)) k o') u
      rw [has_del_other hnk, lentB_del_other hnk]
      exact ⟨p1, p2⟩
    refine f.serve h hs h' rfl rfl ((f.sv s hs).2.2.del _) rfl (fun _ => Int.le_refl _) (fun _ => Int.le_refl _) (fun m hm => .inl hm) (fun _ _ q => q) (fun _ _ _ hm => .inl hm) ?_ ?_ ?_ ?_
    · exact fun k hk => lv _ _ _ _ ((f.st k hk).vk s hs)
    · exact fun k hk g hg g7 g1 g2 => lv _ _ _ _ ((f.st k hk).vg s hs g hg g7 g1 g2)
    · intro k hkn x hx
      have hx8 := (f.st k hkn).ck x hx
      refine cl _ _ _ _ _ _ hkn (by omega) (fun ek eo => ?_) (fun q => (f.st k hkn).lb.2 s hs q) hx8.2.2
      subst ek
      exact (hac.2 hkn).1 x hx (by omega)
    · intro k hkn x hx
      obtain ⟨⟨g, hg, g1, g2, _⟩, _⟩ := (h.msg x hx.mem).va hx.k5
      have hcob := pend_cob h hkn hx.o hg (g1.trans hx.c) (g2.trans hx.n)
      refine cl _ _ _ _ _ _ hkn (by omega) (fun ek eo => ?_) (hpb hkn hx) ((f.st k hkn).cp x hx)
      subst ek
      exact (hac.2 hkn).2 (by omega) x hx
  | value o m ho hd hm hk h0 hc =>
    obtain ⟨s', hs'⟩ : ∃ s', s' = s.lent m o w.clock := ⟨_, rfl⟩
    rw [← hs'] at h' ⊢
    have b : s'.tv = s.tv ∧ s'.to = s.to ∧ s'.epoch = s.epoch ∧ s'.ready = s.ready ∧ s'.ses = s.ses ∧ s'.vv = s.vv ∧ s'.waits = s.waits ∧ s'.rs = s.rs ∧ s'.vol = s.vol ∧ s'.D = (if (s.waits o).length = 0 then s.D.put (kk (seatN m.c : Nat) o) (Lease.num (mx (lentB s.D (seatN m.c : Nat) o) (w.clock + s.to))) else s.D) := by
      rw [hs']; unfold Sv.lent; split <;> exact ⟨rfl, rfl, rfl, rfl, rfl, rfl, rfl, rfl, rfl, rfl⟩
    obtain ⟨b1, b2, b4, b5, b6, b7, b8, b9, b10, b3⟩ := b
    have hDok : DOk s'.D := by
      rw [b3]; split
      · exact (f.sv s hs).2.2.put _ _ _
      · exact (f.sv s hs).2.2
    have n7 : ∀ x ∈ L ++ [s.valueM m o], x.k = 7 → x ∈ L := fun x hx q => (mem_one hx).elim id fun p => by subst p; exact absurd ((rfl : (5 : Int) = _).trans q) (by decide)
    have lv : ∀ (k : Nat) e ss x, Lv w s k e ss x → Lv (w.served s') s' k e ss x := fun k e ss x q => q.step f.d0 f.d1 b4 b5 (.inl ⟨by rw [b6], by rw [b10]; exact Int.le_refl _⟩)
    have cl : ∀ (k o' : Nat) v u e ss, k < w.n → o' < 8 → (e = s.epoch → ss ≤ s.ses k) → Cl w L k o' v u e ss → Cl (w.served s') (L ++ [s.valueM m o]) k o' v u e ss := fun k o' v u e ss hkn ho' hb q => by
      refine q.step hs b4 (by rw [b9, hrs]) (fun g hg g7 _ => .inl (n7 g hg g7)) hb (.inl (by rw [b6])) fun _ _ _ _ p1 p2 => ?_
      rw [b3]
      split
      · by_cases e : kk (k : Int) (o' : Int) = kk (seatN m.c : Nat) o
        · obtain ⟨e1, e2⟩ := kk_nat (by omega) (seatN_lt _) ho' ho e
          subst e1 e2
          rw [has_put_same (f.sv s hs).2.2.tidy.isMap (Lease.kk_key _ _), lentB_put (f.sv s hs).2.2]
          exact ⟨rfl, p2.more f.d1 (le_mx1 _ _)⟩
        · rw [has_put_other e, lentB_put_other e]
          exact ⟨p1, p2⟩
      · exact ⟨p1, p2⟩
    have hnew : ∀ k, k < w.n → ∀ x, Pend w (L ++ [s.valueM m o]) k x → Pend w L k x ∨ (x = s.valueM m o ∧ s.waits o = [] ∧ (w.seat k).k.cob = o ∧ seatN m.c = k) := fun k hkn x hx => by
      rcases mem_one hx.mem with q | q
      · exact .inl ⟨q, hx.k5, hx.l, hx.c, hx.n, hx.o, hx.cm⟩
      · subst q
        refine .inr ⟨rfl, ?_, ?_, ?_⟩
        · have hl : decide ((s.waits o).length = 0) = true := hx.l
          have := of_decide_eq_true hl
          exact List.length_eq_zero_iff.1 this
        · obtain ⟨g, hg, g1, g2, g3, g4⟩ := (h.msg m hm).rd hk
          have := pend_cob h hkn hx.o hg (g1.trans hx.c) (g2.trans hx.n)
          omega
        · have gc : m.c = (w.seat k).k.id := hx.c
          rw [gc]; exact seat_of (h.st k hkn) (by omega)
    refine f.serve h hs h' b1 b2 hDok b4 (fun _ => by rw [b7]; exact Int.le_refl _) (fun k => by rw [b6]; exact Int.le_refl _) (fun x hx => (mem_one hx).imp id fun q => ?_) (fun _ _ q => by rw [b8]; exact q) (fun k hkn x hx => (hnew k hkn x hx).imp id fun q => by rw [q.2.2.1]; simpa using q.2.1) ?_ ?_ ?_ ?_
    · subst q
      exact ⟨⟨by show ¬ (5 : Int) = 3; decide, by show ¬ (5 : Int) = 4; decide⟩, fun _ => ⟨b4.symm, by rw [b6]; rfl⟩, fun q => absurd ((rfl : (5 : Int) = _).trans q) (by decide), fun q => absurd q (by show ¬ ((5 : Int) = 7 ∨ (5 : Int) = 8); decide)⟩
    · exact fun k hk => lv _ _ _ _ ((f.st k hk).vk s hs)
    · exact fun k hk g hg g7 g1 g2 => lv _ _ _ _ ((f.st k hk).vg s hs g (n7 g hg g7) g7 g1 g2)
    · exact fun k hk x hx => cl _ _ _ _ _ _ hk (by have := (f.st k hk).ck x hx; omega) (fun q => (f.st k hk).lb.2 s hs q) ((f.st k hk).ck x hx).2.2
    · intro k hkn x hx
      rcases hnew k hkn x hx with q | ⟨q1, q2, q3, q4⟩
      · obtain ⟨⟨g, hg, g1, g2, _⟩, _⟩ := (h.msg x q.mem).va q.k5
        have hcob := pend_cob h hkn q.o hg (g1.trans q.c) (g2.trans q.n)
        exact cl _ _ _ _ _ _ hkn (by omega) (hpb hkn q) ((f.st k hkn).cp x q)
      · have fk := f.st k hkn
        have ec : (w.seat k).k.cob.toNat = o := by omega
        rw [q1, ec]
        refine .inr (.inr ⟨?_, fun y hy _ _ => ?_⟩)
        · show s.vv o = (logL s'.rs).vv o
          rw [b9]
          exact congrFun (congrArg L4.vv hi.l4) o
        · have ey : s' = y := Option.some.inj hy
          rw [← ey, b3, if_pos (by rw [q2]; rfl), q4, has_put_same (f.sv s hs).2.2.tidy.isMap (Lease.kk_key _ _), lentB_put (f.sv s hs).2.2]
          refine ⟨rfl, Qr.new f.d0 f.d1 ?_ ?_⟩
          · show w.clock + w.to ≤ _
            rw [← (f.sv s hs).2.1]
            exact le_mx2 _ _
          · show (w.seat k).k.sent + (w.seat k).k.obj ≤ (w.seat k).clock + short w.td w.to
            have := fk.snt
            rw [fk.obj]
            omega
  | commit o m rest ho hd hw hr hh ok =>
    rcases commit_is s m o hd (by rw [hrs]; omega) with e | e
    · obtain ⟨k1, k2, k3, k4, k5, k6, _, _⟩ := commit_keep s m o
      obtain ⟨t1, t2⟩ := commit_terms s m o
      have hvv0 : (s.commit m o).1.vv = updN s.vv o (s.vv o + 1) := by
        rw [e]
        have hro : ¬ (s.recd m o).o < 0 := by show ¬ (o : Int) < 0; omega
        have := (applied_keep { s with rs := s.rs ++ [s.recd m o], left := if s.fails = true then s.left - 1 else s.left } (s.recd m o) hro).2.2.2.1
        rw [this]
        show updN s.vv ((o : Int)).toNat (s.vv o + 1) = _
        simp
      obtain ⟨s', hs'⟩ : ∃ s', s' = { (s.commit m o).1 with waits := updN (s.commit m o).1.waits o rest } := ⟨_, rfl⟩
      rw [← hs'] at h' ⊢
      have b : s'.tv = s.tv ∧ s'.to = s.to ∧ s'.epoch = s.epoch ∧ s'.ready = s.ready ∧ s'.ses = s.ses ∧ s'.vv = updN s.vv o (s.vv o + 1) ∧ s'.waits = updN s.waits o rest ∧ s'.vol = s.vol ∧ s'.D = s.D := by
        rw [hs']; exact ⟨t2, t1, k4, k3, k2, hvv0, by show updN (s.commit m o).1.waits o rest = _; rw [k1], k5, k6⟩
      obtain ⟨b1, b2, b4, b5, b6, b7, b8, b10, b3⟩ := b
      have eV : (logL s'.rs).vv = s'.vv := (congrArg L4.vv h'.l4).symm
      have eV0 : (logL w.rs).vv = s.vv := by rw [← hrs]; exact (congrArg L4.vv hi.l4).symm
      obtain ⟨x0, hx0⟩ : ∃ x0, x0 = s'.doneM m (s.commit m o).2.1 := ⟨_, rfl⟩
      rw [← hx0]
      have x6 : x0.k = 6 := by rw [hx0]; rfl
      have n5 : ∀ x ∈ L ++ [x0], x.k = 5 → x ∈ L := fun x hx q => (mem_one hx).elim id fun p => by rw [p, x6] at q; exact absurd q (by decide)
      have n7 : ∀ x ∈ L ++ [x0], x.k = 7 → x ∈ L := fun x hx q => (mem_one hx).elim id fun p => by rw [p, x6] at q; exact absurd q (by decide)
      have lv : ∀ (k : Nat) e ss x, Lv w s k e ss x → Lv (w.served s') s' k e ss x := fun k e ss x q => q.step f.d0 f.d1 b4 b5 (.inl ⟨by rw [b6], by rw [b10]; exact Int.le_refl _⟩)
      have cl : ∀ (k o' : Nat) v u ee ss, k < w.n → o' < 8 → (ee = s.epoch → ss ≤ s.ses k) → Cl w L k o' v u ee ss → Cl (w.served s') (L ++ [x0]) k o' v u ee ss := fun k o' v u ee ss hkn ho' hb q => by
        by_cases eo : o' = o
        · subst eo
          rcases q with q | ⟨q1, q2⟩ | ⟨q1, q2⟩
          · exact .inl q
          · exact .inr (.inl ⟨q1.grow rfl fun g hg g7 _ _ _ => n7 g hg g7, fun y hy => by
              have ey : s' = y := Option.some.inj hy
              rw [← ey, b4, b6]; exact q2 s hs⟩)
          · by_cases hcur : ee = s.epoch ∧ ss = s.ses k
            · obtain ⟨p1, p2⟩ := q2 s hs hcur.1 hcur.2
              have hno := hh k (by omega)
              have : ¬ w.clock < lentB s.D k o' := fun hlt => by
                rw [(isH_iff (f.sv s hs).2.2).2 ⟨p1, hlt⟩] at hno
                cases hno
              exact .inl (p2.over f.d0 f.d1 (by omega))
            · have dead : ∀ x, Lv w s k ee ss x → x ≤ (w.seat k).clock := fun x hx => by
                rcases hx with hx | ⟨hx1, hx2, _⟩ | ⟨_, hx2⟩
                · exact hx
                · exact absurd ⟨hx1, hx2⟩ hcur
                · exact hx2.over f.d0 f.d1 hr
              refine .inr (.inl ⟨⟨fun c1 c2 => ?_, fun g hg g7 g1 g2 g3 g4 => ?_⟩, fun y hy => ?_⟩)
              · have := (f.st k hkn).vk s hs
                rw [show (w.seat k).k.ep = ee from c1, show (w.seat k).k.ses = ss from c2] at this
                exact dead _ this
              · have := (f.st k hkn).vg s hs g (n7 g hg g7) g7 g1 g2
                rw [g3, g4] at this
                exact dead _ this
              · have ey : s' = y := Option.some.inj hy
                rw [← ey, b4, b6]; exact hcur
        · exact q.step hs b4 (by rw [eV, eV0, b7, updN_other _ _ eo]) (fun g hg g7 _ => .inl (n7 g hg g7)) hb (.inl (by rw [b6])) fun _ _ _ _ p1 p2 => by rw [b3]; exact ⟨p1, p2⟩
      refine f.serve h hs h' b1 b2 (by rw [b3]; exact (f.sv s hs).2.2) b4 (fun x => ?_) (fun k => by rw [b6]; exact Int.le_refl _) (fun x hx => (mem_one hx).imp id fun q => ?_) (fun x q1 q2 => ?_) (fun _ _ _ hm => .inl (hm.sub n5)) ?_ ?_ ?_ ?_
      · rw [b7]; unfold updN; split
        · rename_i q; subst q; omega
        · exact Int.le_refl _
      · subst q
        refine ⟨⟨by rw [x6]; decide, by rw [x6]; decide⟩, fun q => ?_, fun q => ?_, fun q => ?_⟩
        · rw [x6] at q; exact absurd q (by decide)
        · rw [x6] at q; exact absurd q (by decide)
        · rw [x6] at q; exact absurd q (by decide)
      · rw [b7] at q1
        have hne : x ≠ o := fun q => by subst q; rw [updN_same] at q1; omega
        rw [b8, updN_other _ _ hne]; exact q2
      · exact fun k hk => lv _ _ _ _ ((f.st k hk).vk s hs)
      · exact fun k hk g hg g7 g1 g2 => lv _ _ _ _ ((f.st k hk).vg s hs g (n7 g hg g7) g7 g1 g2)
      · exact fun k hk x hx => cl _ _ _ _ _ _ hk (by have := (f.st k hk).ck x hx; omega) (fun q => (f.st k hk).lb.2 s hs q) ((f.st k hk).ck x hx).2.2
      · intro k hk x hx
        have hx' := hx.sub n5
        obtain ⟨⟨g, hg, g1, g2, _⟩, _⟩ := (h.msg x hx'.mem).va hx'.k5
        have hcob := pend_cob h hk hx'.o hg (g1.trans hx'.c) (g2.trans hx'.n)
        exact cl _ _ _ _ _ _ hk (by omega) (hpb hk hx') ((f.st k hk).cp x hx')
    · rw [e] at ok; cases ok

end Go.Proofs.YtbebfliimjjohaaGreatDoor.Wld
end

section
namespace Go.Proofs.YtbebfliimjjohaaGreatDoor.Wld
open Go.RowKit Go.Maps
open Lease (upd upd_same upd_other hol dels mx kk isH)
open Cache (E era putL)
open Wal (R mayB timeB)
open Num (M okB)
theorem Lv.congr {w w' : Wd} {s : Sv} {k : Nat} {e ss x : Int} (h : Lv w s k e ss x) (h1 : w'.td = w.td) (h2 : w'.tv = w.tv) (h3 : w'.clock = w.clock) (h4 : (w'.seat k).clock = (w.seat k).clock) : Lv w' s k e ss x := by
  unfold Lv at *
  rw [h1, h2, h3, h4]
  exact h

theorem Cl.congr {w w' : Wd} {L L' : List M} {k o : Nat} {v u e ss : Int} (h : Cl w L k o v u e ss) (h1 : w'.td = w.td) (h2 : w'.to = w.to) (h3 : w'.clock = w.clock) (h4 : (w'.seat k).clock = (w.seat k).clock) (h5 : w'.rs = w.rs) (h6 : w'.sv = w.sv) (hd : Dead w L k e ss → Dead w' L' k e ss) : Cl w' L' k o v u e ss := by
  unfold Cl at *
  rw [h1, h2, h3, h4, h5, h6]
  exact h.imp id fun q => q.imp (fun p => ⟨hd p.1, p.2⟩) id

theorem Dead.congr {w w' : Wd} {L L' : List M} {k : Nat} {e ss : Int} (h : Dead w L k e ss) (h1 : w'.seat k = w.seat k) (hL : ∀ g ∈ L', g.k = 7 → g ∈ L) : Dead w' L' k e ss := by
  unfold Dead at *
  rw [h1]
  exact ⟨h.1, fun g hg g7 => h.2 g (hL g hg g7) g7⟩

theorem Fr.turn {w w' : Wd} {H H' : List Hc} {L L' : List M} (f : Fr w H L) {k : Nat} {c : K}
    (e1 : w'.td = w.td) (e2 : w'.tv = w.tv) (e3 : w'.to = w.to) (e4 : w'.clock = w.clock) (e5 : w'.n = w.n) (e6 : w'.rs = w.rs) (e7 : w'.sv = w.sv) (e8 : ∀ j, j ≠ k → w'.seat j = w.seat j) (e9 : (w'.seat k).k = c) (e10 : (w'.seat k).clock = (w.seat k).clock)
    (hfr : ∀ (i : Nat) e g, w'.events[i]? = some e → H'[i]? = some g → e.kind = 1 → e.ended ≠ 0 → g.lo ≤ e.ver)
    (new : ∀ m ∈ L', m ∈ L ∨ m.k = 1 ∨ m.k = 2 ∨ (m.k = 3 ∧ m.c = c.id ∧ m.n ≤ c.renewal) ∨ (m.k = 4 ∧ m.c = c.id ∧ 0 ≤ m.o ∧ m.o < 8 ∧ m.e ≤ (logL w.rs).ep ∧ (m.e = (logL w.rs).ep → m.v ≤ (logL w.rs).vv m.o.toNat + 1) ∧ ∀ s, w.sv = some s → m.e = s.epoch → m.v = s.vv m.o.toNat + 1 → s.waits m.o.toNat ≠ []))
    (cid : seatN c.id = k)
    (hrb : ∀ m ∈ L, m.k = 3 ∨ m.k = 7 ∨ m.k = 8 → seatN m.c = k → m.c ≤ c.id ∧ (m.c = c.id → m.n ≤ c.renewal))
    (hvol : c.vol = short w.td w.tv) (hobj : c.obj = short w.td w.to) (hask : c.asked ≤ (w.seat k).clock) (htil : c.til ≤ (w.seat k).clock + short w.td w.tv) (hsnt : c.sent ≤ (w.seat k).clock)
    (hlb : c.ep ≤ (logL w.rs).ep ∧ ∀ s, w.sv = some s → c.ep = s.epoch → c.ses ≤ s.ses k)
    (hdead : ∀ e ss, Dead w L k e ss → Dead w' L k e ss)
    (hvk : ∀ s, w.sv = some s → Lv w s k c.ep c.ses c.til)
    (hvg : ∀ s, w.sv = some s → ∀ g ∈ L, g.k = 7 → g.c = c.id → g.n = c.renewal → Lv w s k g.e g.s (c.asked + c.vol))
    (hck : ∀ x ∈ c.kept, 0 ≤ x.o ∧ x.o < 8 ∧ Cl w L k x.o.toNat x.v x.u c.ep c.ses)
    (hcp : ∀ m, Pend w' L k m → Cl w L k c.cob.toNat m.v (c.sent + c.obj) m.e m.s)
    (hac : ∀ s, w.sv = some s → ∀ m ∈ L', m.k = 4 → seatN m.c = k → m.e = s.epoch → m.v = s.vv m.o.toNat + 1 → NoCl w' L k m.o) : Fr w' H' L' := by
  have old : ∀ m ∈ L', m.k = 5 ∨ m.k = 7 ∨ m.k = 8 ∨ m.k = 9 → m ∈ L := fun m hm hk => by
    rcases new m hm with q | q | q | q | q
    · exact q
    all_goals omega
  have n7 : ∀ m ∈ L', m.k = 7 → m ∈ L := fun m hm q => old m hm (.inr (.inl q))
  have n5 : ∀ m ∈ L', m.k = 5 → m ∈ L := fun m hm q => old m hm (.inl q)
  have lv : ∀ j s e ss x, Lv w s j e ss x → (w'.seat j).clock = (w.seat j).clock → Lv w' s j e ss x := fun j s e ss x q p => q.congr e1 e2 e4 p
  have cj : ∀ j, (w'.seat j).clock = (w.seat j).clock := fun j => by
    by_cases e : j = k
    · subst e; exact e10
    · rw [e8 j e]
  refine ⟨by rw [e1]; exact f.d0, by rw [e1]; exact f.d1, by rw [e2]; exact f.v0, fun s hs => by rw [e2, e3]; exact f.sv s (by rw [← e7]; exact hs), by rw [e6]; exact f.ep, ?_, ?_, ?_, ?_, ?_, ?_, hfr⟩
  · intro m hm hk
    rw [e6]
    have q := f.lb m (old m hm (by omega)) hk
    exact ⟨q.1, fun s hs => q.2 s (by rw [← e7]; exact hs)⟩
  · intro m hm hk
    rw [e6]
    rcases new m hm with q | q | q | q | q
    · exact f.ib m q hk
    · omega
    · omega
    · omega
    · exact ⟨q.2.2.1, q.2.2.2.1, q.2.2.2.2.1, q.2.2.2.2.2.1⟩
  · intro m hm hk j hj ej
    rw [e5] at hj
    by_cases e : j = k
    · subst e
      rw [e9]
      rcases new m hm with q | q | q | q | q
      · exact hrb m q hk ej
      · omega
      · omega
      · exact ⟨by omega, fun _ => q.2.2⟩
      · omega
    · rw [e8 j e]
      rcases new m hm with q | q | q | q | q
      · exact f.rb m q hk j hj ej
      · omega
      · omega
      · exfalso; rw [q.2.1, cid] at ej; exact e ej.symm
      · omega
  · intro s hs m hm hk q1 q2
    exact f.iv s (by rw [← e7]; exact hs) m (old m hm (by omega)) hk q1 q2
  · intro s hs m hm hk q1 q2
    rw [e7] at hs
    have hw : s.waits m.o.toNat ≠ [] := by
      rcases new m hm with q | q | q | q | q
      · exact (f.ac s hs m q hk q1 q2).1
      · omega
      · omega
      · omega
      · exact q.2.2.2.2.2.2 s hs q1 q2
    refine ⟨hw, fun hn => ?_⟩
    rw [e5] at hn
    have grow : ∀ j o, NoCl w' L j o → NoCl w' L' j o := fun j o q => ⟨q.1, fun ec x hx => q.2 ec x (hx.sub n5)⟩
    by_cases e : seatN m.c = k
    · rw [e]; exact grow _ _ (hac s hs m hm hk e q1 q2)
    · apply grow
      have hmL : m ∈ L := by
        rcases new m hm with q | q | q | q | q
        · exact q
        · omega
        · omega
        · omega
        · exfalso; rw [q.2.1, cid] at e; exact e rfl
      have := (f.ac s hs m hmL hk q1 q2).2 hn
      unfold NoCl at *
      rw [e8 _ e]
      exact ⟨this.1, fun ec x hx => this.2 ec x ⟨hx.mem, hx.k5, hx.l, by have := hx.c; rw [e8 _ e] at this; exact this, by have := hx.n; rw [e8 _ e] at this; exact this, by have := hx.o; rw [e8 _ e] at this; exact this, by have := hx.cm; rw [e8 _ e] at this; exact this⟩⟩
  · intro j hj
    rw [e5] at hj
    have g := f.st j hj
    by_cases e : j = k
    · subst e
      have dl : ∀ e ss, Dead w L j e ss → Dead w' L' j e ss := fun e ss q => (hdead e ss q).congr rfl n7
      refine ⟨by rw [e10]; exact g.t0, by rw [e9, e1, e2]; exact hvol, by rw [e9, e1, e3]; exact hobj, by rw [e9, e10]; exact hask, by rw [e9, e10, e1, e2]; exact htil, by rw [e9, e10]; exact hsnt, by rw [e9, e6, e7]; exact hlb, ?_, ?_, ?_, ?_⟩
      · intro s hs; rw [e7] at hs; rw [e9]; exact lv _ _ _ _ _ (hvk s hs) e10
      · intro s hs y hy y7 y1 y2; rw [e7] at hs; rw [e9] at y1 y2 ⊢; exact lv _ _ _ _ _ (hvg s hs y (n7 y hy y7) y7 y1 y2) e10
      · intro x hx; rw [e9] at hx ⊢; exact ⟨(hck x hx).1, (hck x hx).2.1, (hck x hx).2.2.congr e1 e3 e4 e10 e6 e7 (dl _ _)⟩
      · intro x hx; rw [e9]; exact (hcp x (hx.sub n5)).congr e1 e3 e4 e10 e6 e7 (dl _ _)
    · have es := e8 j e
      have dl : ∀ e ss, Dead w L j e ss → Dead w' L' j e ss := fun e ss q => q.congr es n7
      refine ⟨by rw [es]; exact g.t0, by rw [es, e1, e2]; exact g.vol, by rw [es, e1, e3]; exact g.obj, by rw [es]; exact g.ask, by rw [es, e1, e2]; exact g.til, by rw [es]; exact g.snt, by rw [es, e6, e7]; exact g.lb, ?_, ?_, ?_, ?_⟩
      · intro s hs; rw [e7] at hs; rw [es]; exact lv _ _ _ _ _ (g.vk s hs) (by rw [es])
      · intro s hs y hy y7 y1 y2; rw [e7] at hs; rw [es] at y1 y2 ⊢; exact lv _ _ _ _ _ (g.vg s hs y (n7 y hy y7) y7 y1 y2) (by rw [es])
      · intro x hx; rw [es] at hx ⊢; exact ⟨(g.ck x hx).1, (g.ck x hx).2.1, (g.ck x hx).2.2.congr e1 e3 e4 (by rw [es]) e6 e7 (dl _ _)⟩
      · intro x hx
        rw [es]
        have hx' : Pend w L j x := ⟨n5 x hx.mem hx.k5, hx.k5, hx.l, by have := hx.c; rw [es] at this; exact this, by have := hx.n; rw [es] at this; exact this, by have := hx.o; rw [es] at this; exact this, by have := hx.cm; rw [es] at this; exact this⟩
        exact (g.cp x hx').congr e1 e3 e4 (by rw [es]) e6 e7 (dl _ _)

theorem Fr.same {w w' : Wd} {H : List Hc} {L : List M} (f : Fr w H L) (e1 : w'.td = w.td) (e2 : w'.tv = w.tv) (e3 : w'.to = w.to) (e4 : w'.clock = w.clock) (e5 : w'.n = w.n) (e6 : w'.rs = w.rs) (e7 : w'.sv = w.sv) (e8 : w'.seat = w.seat) (e9 : w'.events = w.events) : Fr w' H L := by
  obtain ⟨a1, a2, a3, a4, a5, a6, a7, a8, a9, a10, a11, a12, a13⟩ := w
  obtain ⟨b1, b2, b3, b4, b5, b6, b7, b8, b9, b10, b11, b12, b13⟩ := w'
  dsimp only at e1 e2 e3 e4 e5 e6 e7 e8 e9
  subst e1 e2 e3 e4 e5 e6 e7 e8 e9
  exact ⟨f.d0, f.d1, f.v0, f.sv, f.ep, f.lb, f.ib, f.rb, f.iv, fun s hs m hm h1 h2 h3 => ⟨(f.ac s hs m hm h1 h2 h3).1, fun hn => ⟨((f.ac s hs m hm h1 h2 h3).2 hn).1, fun ec x hx => ((f.ac s hs m hm h1 h2 h3).2 hn).2 ec x ⟨hx.mem, hx.k5, hx.l, hx.c, hx.n, hx.o, hx.cm⟩⟩⟩,
    fun k hk => ⟨(f.st k hk).t0, (f.st k hk).vol, (f.st k hk).obj, (f.st k hk).ask, (f.st k hk).til, (f.st k hk).snt, (f.st k hk).lb, (f.st k hk).vk, (f.st k hk).vg, (f.st k hk).ck, fun m hm => (f.st k hk).cp m ⟨hm.mem, hm.k5, hm.l, hm.c, hm.n, hm.o, hm.cm⟩⟩, f.fr⟩

theorem Fr.put {w : Wd} {H : List Hc} {L : List M} (f : Fr w H L) (t : Int) (m : M) : Fr (w.put t m) H L := by
  unfold Wd.put
  split
  · exact f.same rfl rfl rfl rfl rfl rfl rfl rfl rfl
  · exact f

theorem Fr.send {H : List Hc} {L : List M} (t : Int) : ∀ (l : List M) {w : Wd}, Fr w H L → Fr (w.send t l) H L
  | [], _, f => f
  | m :: l, _, f => Fr.send t l (f.put t m)

theorem Fr.tells {H : List Hc} {L : List M} : ∀ (l : List M) {w : Wd}, Fr w H L → Fr (w.tells l) H L
  | [], _, f => f
  | m :: l, _, f => Fr.tells l (f.put (seatN m.c : Nat) m)

theorem Cl.noSv {w w' : Wd} {L : List M} {k o : Nat} {v u e ss : Int} (h : Cl w L k o v u e ss) (h1 : w'.sv = none) (h2 : w'.seat = w.seat) (h3 : w'.rs = w.rs) : Cl w' L k o v u e ss := by
  unfold Cl at *
  rw [h1, h2, h3]
  exact h.imp id fun q => q.imp (fun p => ⟨p.1.congr (congrFun h2 k) fun _ q _ => q, fun s hs => by cases hs⟩) fun p => ⟨p.1, fun s hs => by cases hs⟩

theorem Fr.noSv {w : Wd} {H : List Hc} {L : List M} (f : Fr w H L) : Fr { w with sv := none } H L :=
  ⟨f.d0, f.d1, f.v0, (fun s hs => by cases hs), f.ep, fun m hm hk => ⟨(f.lb m hm hk).1, fun s hs => by cases hs⟩, f.ib, f.rb, (fun s hs => by cases hs), (fun s hs => by cases hs),
    fun k hk => ⟨(f.st k hk).t0, (f.st k hk).vol, (f.st k hk).obj, (f.st k hk).ask, (f.st k hk).til, (f.st k hk).snt, ⟨(f.st k hk).lb.1, fun s hs => by cases hs⟩, (fun s hs => by cases hs), (fun s hs => by cases hs), fun x hx => ⟨((f.st k hk).ck x hx).1, ((f.st k hk).ck x hx).2.1, ((f.st k hk).ck x hx).2.2.noSv rfl rfl rfl⟩, fun m hm => ((f.st k hk).cp m ⟨hm.mem, hm.k5, hm.l, hm.c, hm.n, hm.o, hm.cm⟩).noSv rfl rfl rfl⟩, f.fr⟩

theorem Fr.fallen {w : Wd} {H : List Hc} {L : List M} (f : Fr w H L) : Fr w.fallen H L := by
  unfold Wd.fallen
  split
  · exact f
  · split
    · exact f.noSv
    · exact f

theorem Fr.ss {H : List Hc} {B : Nat} (hB : H.length + B < 200) {T : Int} {s s' : Sv} {L L' : List M} (k : Ss T s L s' L') : ∀ {w : Wd}, w.clock = T → Inv w H L B → Fr w H L → w.sv = some s → Fr (w.served s') H L' := by
  induction k with
  | refl s L => exact fun {w} _ h f hs => f.mild h hs (h.sv s hs).1 rfl rfl rfl rfl rfl rfl rfl (fun _ q => q) (fun _ q => .inl q)
  | head k1 _ ih =>
    intro w hT h f hs
    subst hT
    exact ih (w := w.served _) rfl (h.s1 hB hs k1) (f.s1 h hB hs k1) rfl

theorem Fr.answer {w : Wd} {H : List Hc} {L : List M} {B : Nat} (f : Fr w H L) (h : Inv w H L B) (hB : H.length + B < 200) {s : Sv} (hs : w.sv = some s) {r : Sv × List M} (hr : Ss w.clock s L r.1 (L ++ r.2)) : Fr (w.answer r) H (L ++ r.2) :=
  (Fr.tells r.2 (Fr.ss hB hr rfl h f hs)).fallen

theorem Fr.stepped {w : Wd} {H : List Hc} {L : List M} (f : Fr w H L) : Fr { w with step := w.step + 1 } H L := f.same rfl rfl rfl rfl rfl rfl rfl rfl rfl

theorem Fr.failing {w : Wd} {H : List Hc} {L : List M} {B : Nat} (f : Fr w H L) (h : Inv w H L B) (x t : Int) : Fr (w.failing x t) H L := by
  unfold Wd.failing
  split
  · exact f.same rfl rfl rfl rfl rfl rfl rfl rfl rfl
  · rename_i s hs
    exact f.mild h hs ((h.sv s hs).1.same rfl rfl rfl) rfl rfl rfl rfl rfl rfl rfl (fun _ q => q) (fun _ q => .inl q)

theorem Fr.gone {w : Wd} {H : List Hc} {L : List M} (f : Fr w H L) {b : Int} {by_ : Nat → Int} (hb : w.clock + b < 549755813888) (hk : ∀ k, k < w.n → 0 ≤ by_ k ∧ (w.seat k).clock + by_ k < 549755813888 ∧ b * (1000 - w.td) ≤ by_ k * (1000 + w.td)) : Fr (w.gone b by_) H L := by
  have et : (w.gone b by_).clock = w.clock + b := if_pos hb
  have es : ∀ k, k < w.n → ((w.gone b by_).seat k).clock = (w.seat k).clock + by_ k := fun k hkn => if_pos (hk k hkn).2.1
  have ek : ∀ k, ((w.gone b by_).seat k).k = (w.seat k).k := fun _ => rfl
  have dead : ∀ k, k < w.n → ∀ e ss, Dead w L k e ss → Dead (w.gone b by_) L k e ss := fun k hkn e ss q => by
    have := (hk k hkn).1
    unfold Dead at *
    rw [es k hkn, ek]
    exact ⟨fun a1 a2 => by have := q.1 a1 a2; omega, fun g hg a1 a2 a3 a4 a5 => by have := q.2 g hg a1 a2 a3 a4 a5; omega⟩
  have qr : ∀ k, k < w.n → ∀ V y x, Qr w.td V w.clock (w.seat k).clock y x → Qr w.td V (w.clock + b) ((w.seat k).clock + by_ k) y x := fun k hkn V y x q => q.time (hk k hkn).2.2
  have lv : ∀ k, k < w.n → ∀ s e ss x, Lv w s k e ss x → Lv (w.gone b by_) s k e ss x := fun k hkn s e ss x q => by
    have := (hk k hkn).1
    unfold Lv at *
    rw [es k hkn, et]
    rcases q with q | ⟨q1, q2, q3⟩ | ⟨q1, q2⟩
    · exact .inl (by omega)
    · exact .inr (.inl ⟨q1, q2, qr k hkn _ _ _ q3⟩)
    · exact .inr (.inr ⟨q1, qr k hkn _ _ _ q2⟩)
  have cl : ∀ k, k < w.n → ∀ o v u e ss, Cl w L k o v u e ss → Cl (w.gone b by_) L k o v u e ss := fun k hkn o v u e ss q => by
    have := (hk k hkn).1
    unfold Cl at *
    rw [es k hkn, et]
    rcases q with q | ⟨q1, q2⟩ | ⟨q1, q2⟩
    · exact .inl (by omega)
    · exact .inr (.inl ⟨dead k hkn _ _ q1, q2⟩)
    · exact .inr (.inr ⟨q1, fun s hs a1 a2 => ⟨(q2 s hs a1 a2).1, qr k hkn _ _ _ (q2 s hs a1 a2).2⟩⟩)
  refine ⟨f.d0, f.d1, f.v0, f.sv, f.ep, f.lb, f.ib, f.rb, f.iv, fun s hs m hm h1 h2 h3 => ⟨(f.ac s hs m hm h1 h2 h3).1, fun hn => ⟨((f.ac s hs m hm h1 h2 h3).2 hn).1, fun ec x hx => ((f.ac s hs m hm h1 h2 h3).2 hn).2 ec x ⟨hx.mem, hx.k5, hx.l, hx.c, hx.n, hx.o, hx.cm⟩⟩⟩, fun k hkn => ?_, f.fr⟩
  have g := f.st k hkn
  have h0 := (hk k hkn).1
  refine ⟨by rw [es k hkn]; have := g.t0; omega, g.vol, g.obj, by rw [es k hkn]; have := g.ask; show (w.seat k).k.asked ≤ _; omega, by rw [es k hkn]; have := g.til; show (w.seat k).k.til ≤ (w.seat k).clock + by_ k + short w.td w.tv; omega, by rw [es k hkn]; have := g.snt; show (w.seat k).k.sent ≤ _; omega, g.lb, fun s hs => lv k hkn _ _ _ _ (g.vk s hs), fun s hs y hy y7 y1 y2 => lv k hkn _ _ _ _ (g.vg s hs y hy y7 y1 y2), fun x hx => ⟨(g.ck x hx).1, (g.ck x hx).2.1, cl k hkn _ _ _ _ _ (g.ck x hx).2.2⟩, fun m hm => cl k hkn _ _ _ _ _ (g.cp m ⟨hm.mem, hm.k5, hm.l, hm.c, hm.n, hm.o, hm.cm⟩)⟩

theorem Fr.start {w : Wd} {H : List Hc} {L : List M} {B : Nat} (f : Fr w H L) (h : Inv w H L B) (hB : H.length + B < 200) : Fr w.start H L := by
  have hroom := h.room
  obtain ⟨e, he, h1, h2, h3, _, h5, h6, h7, h8, h9, h10, h11, _⟩ := new_is w.to w.tv w.td w.clock w.rs (by omega)
  obtain ⟨s', hs'⟩ : ∃ s', s' = Sv.new w.to w.tv w.td w.rs false 0 w.clock := ⟨_, rfl⟩
  have ew : w.start = w.served s' := by rw [hs']; rfl
  rw [← hs'] at h1 h2 h3 h5 h6 h7 h8 h9 h10 h11
  rw [ew]
  have hsv : ∀ v, (w.served s').sv = some v → s' = v := fun v hv => Option.some.inj hv
  have eE : (logL s'.rs).ep = e := by rw [← congrArg L4.ep (h2.trans (by rw [h1])), ← h5]; rfl
  have eV : (logL s'.rs).vv = (logL w.rs).vv := by rw [h1, logL_app]; rfl
  have hready : s'.ready = w.clock + w.tv := by rw [h9, if_pos (by have := f.ep; omega)]
  have lvn : ∀ k, k < w.n → ∀ e' ss x, e' ≤ (logL w.rs).ep → x ≤ (w.seat k).clock + short w.td w.tv → Lv (w.served s') s' k e' ss x := fun k _ e' ss x q1 q2 => by
    refine .inr (.inr ⟨by rw [h5]; omega, Qr.new f.d0 f.d1 ?_ q2⟩)
    rw [hready]; exact Int.le_refl _
  have cln : ∀ k, k < w.n → ∀ o v u e' ss, e' ≤ (logL w.rs).ep → Cl w L k o v u e' ss → Cl (w.served s') L k o v u e' ss := fun k _ o v u e' ss q1 q => by
    rcases q with q | ⟨p1, _⟩ | ⟨p1, _⟩
    · exact .inl q
    · refine .inr (.inl ⟨p1.congr rfl fun _ q _ => q, fun v hv => ?_⟩)
      rw [← hsv v hv, h5]
      rintro ⟨r1, _⟩
      omega
    · refine .inr (.inr ⟨by show v = (logL s'.rs).vv o; rw [eV]; exact p1, fun v hv r1 _ => ?_⟩)
      rw [← hsv v hv, h5] at r1
      omega
  refine ⟨f.d0, f.d1, f.v0, fun v hv => by rw [← hsv v hv]; exact ⟨h11, h10, by rw [h8]; exact DOk.empty⟩, by show 1 ≤ (logL s'.rs).ep; rw [eE]; have := f.ep; omega, ?_, ?_, f.rb, ?_, ?_, ?_, f.fr⟩
  · intro m hm hk
    have := (f.lb m hm hk).1
    refine ⟨by show m.e ≤ (logL s'.rs).ep; rw [eE]; omega, fun v hv q => ?_⟩
    rw [← hsv v hv, h5] at q
    omega
  · intro m hm hk
    obtain ⟨q1, q2, q3, q4⟩ := f.ib m hm hk
    refine ⟨q1, q2, by show m.e ≤ (logL s'.rs).ep; rw [eE]; omega, fun q => ?_⟩
    have q' : m.e = (logL s'.rs).ep := q
    rw [eE] at q'
    omega
  · intro v hv m hm hk q
    rw [← hsv v hv, h5] at q
    have := (f.ib m hm (.inl hk)).2.2.1
    omega
  · intro v hv m hm hk q
    rw [← hsv v hv, h5] at q
    have := (f.ib m hm (.inr hk)).2.2.1
    omega
  · intro k hk
    have g := f.st k hk
    refine ⟨g.t0, g.vol, g.obj, g.ask, g.til, g.snt, ⟨by show _ ≤ (logL s'.rs).ep; rw [eE]; have := g.lb.1; show (w.seat k).k.ep ≤ e; omega, fun v hv q => ?_⟩, fun v hv => ?_, fun v hv y hy y7 y1 y2 => ?_, fun x hx => ⟨(g.ck x hx).1, (g.ck x hx).2.1, cln k hk _ _ _ _ _ g.lb.1 (g.ck x hx).2.2⟩, fun m hm => ?_⟩
    · rw [← hsv v hv, h5] at q
      have := g.lb.1
      have q' : (w.seat k).k.ep = e := q
      omega
    · rw [← hsv v hv]; exact lvn k hk _ _ _ g.lb.1 g.til
    · rw [← hsv v hv]
      refine lvn k hk _ _ _ (f.lb y hy (.inr (.inl y7))).1 ?_
      show (w.seat k).k.asked + (w.seat k).k.vol ≤ _
      have := g.ask
      rw [g.vol]
      omega
    · have hm' : Pend w L k m := ⟨hm.mem, hm.k5, hm.l, hm.c, hm.n, hm.o, hm.cm⟩
      exact cln k hk _ _ _ _ _ (f.lb m hm'.mem (.inl hm'.k5)).1 (g.cp m hm')

end Go.Proofs.YtbebfliimjjohaaGreatDoor.Wld
end
