/-
  Parts of the proof: WldW WrmK WrmL.
-/
import Derived.Test.YtbebfliimjjohaaGreatDoorLa26
import Derived.Test.YtbebfliimjjohaaGreatDoorLa24
import Derived.Laws.Tables
import Derived.Test.YtbebfliimjjohaaGreatDoorLa15
import Derived.Maps.RangeWalk
section
namespace Go.Proofs.YtbebfliimjjohaaGreatDoor.Wld
open Go.RowKit Go.Maps
open Lease (upd upd_same upd_other hol dels mx kk isH)
open Cache (E era putL)
open Wal (R mayB timeB)
open Num (M okB)
theorem began_over (w : Wd) (k : Nat) (c0 c : K) (h0 : c0.over = false) : w.began k c = ((w.began k c0).setK k c).note k := by
  have hs : (w.opens k c).seat k = ⟨c, (w.seat k).clock, (w.seat k).life, w.events.length⟩ := updN_same _ _ _
  have hb := began_is w k c0 h0
  have hs2 : (w.began k c0).seat k = ⟨c0, (w.seat k).clock, (w.seat k).life, w.events.length⟩ := by rw [hb]; exact updN_same _ _ _
  rw [note_open _ _ _ (by rw [hs2]; dsimp only; omega)]
  unfold Wd.wrote
  rw [hs2, hb]
  unfold Wd.began Wd.note
  rw [if_neg (by rw [hs]; dsimp only; omega), hs]
  unfold Wd.opens
  dsimp only
  have e1 : ∀ (e e2 : Ev), e.client = e2.client → e.began = e2.began → e.ended = e2.ended → e.life = e2.life → (w.events ++ [e]).modify ((w.events.length : Int)).toNat (fun e => e.noted c (w.step + 1)) = (w.events ++ [e2]).modify ((w.events.length : Int)).toNat (fun e => e.noted c (w.step + 1)) := by
    intro e e2 q1 q2 q3 q4
    apply List.ext_getElem?
    intro i
    rw [get_modify, get_modify]
    by_cases hi : i < w.events.length
    · have hq : ¬ ((w.events.length : Int)).toNat = i := by omega
      simp only [hq, if_false, List.getElem?_append_left hi]
    · rw [List.getElem?_append_right (by omega), List.getElem?_append_right (by omega)]
      by_cases h0 : i - w.events.length = 0
      · have hq : ((w.events.length : Int)).toNat = i := by omega
        simp only [hq, if_true, h0]
        show some (e.noted c (w.step + 1)) = some (e2.noted c (w.step + 1))
        unfold Ev.noted
        rw [q1, q2, q3, q4]
      · have hq : ¬ ((w.events.length : Int)).toNat = i := by omega
        simp only [hq, if_false, List.getElem?_singleton, h0]
  have e2 : ∀ (a b d : St), updN (updN w.seat k a) k d = updN (updN w.seat k b) k d := by
    intro a b d
    funext j
    unfold updN
    split <;> simp_all
  rw [e1 ⟨k, 0, 0, ⟨#[]⟩, 0, false, false, w.step + 1, 0, (w.seat k).life⟩ ⟨k, c0.kind, c0.cob, c0.d, c0.ver, false, c0.hit, w.step + 1, 0, (w.seat k).life⟩ rfl rfl rfl rfl, e2 ⟨c, (w.seat k).clock, (w.seat k).life, w.events.length⟩ ⟨c0, (w.seat k).clock, (w.seat k).life, w.events.length⟩ _]

theorem mem_looked {k : K} {o : Int} {x : E} (h : x ∈ (k.looked o).kept) : x ∈ k.kept := by
  unfold K.looked at h
  split at h
  · exact h
  · rename_i y hy
    rcases mem_putL h with q | q
    · rw [q]; exact List.mem_of_find?_eq_some hy
    · exact q

theorem looked_is (k : K) (o : Int) : (k.looked o).id = k.id ∧ (k.looked o).num = k.num ∧ (k.looked o).kind = k.kind ∧ (k.looked o).cob = k.cob ∧ (k.looked o).d = k.d ∧ (k.looked o).seen = k.seen ∧ (k.looked o).over = k.over ∧ (k.looked o).ep = k.ep ∧ (k.looked o).ses = k.ses ∧ (k.looked o).til = k.til ∧ (k.looked o).sent = k.sent ∧ (k.looked o).obj = k.obj ∧ (k.looked o).vol = k.vol ∧ (k.looked o).asked = k.asked ∧ (k.looked o).renewal = k.renewal ∧ (k.looked o).coming = k.coming := by
  unfold K.looked
  split <;> exact ⟨rfl, rfl, rfl, rfl, rfl, rfl, rfl, rfl, rfl, rfl, rfl, rfl, rfl, rfl, rfl, rfl⟩

theorem has_is {k : K} {o now : Int} {x : E} (h : k.has o now = some x) : x ∈ k.kept ∧ x.o = o ∧ now < x.u ∧ now < k.til ∧ k.seen o ≤ x.v := by
  unfold K.has at h
  split at h
  · cases h
  · rename_i y hy
    split at h
    · cases h
    · rename_i hn
      have e : y = x := Option.some.inj h
      subst e
      have h1 := List.find?_some hy
      have h2 := List.mem_of_find?_eq_some hy
      exact ⟨h2, of_decide_eq_true h1, by omega, by omega, by omega⟩

def K.readB (k : K) (o now : Int) : K := (k.begin 1 o ⟨#[]⟩ 0 false false now).looked o

theorem readB_is (k : K) (o now : Int) : (k.readB o now).id = k.id ∧ (k.readB o now).num = k.num + 1 ∧ (k.readB o now).kind = 1 ∧ (k.readB o now).cob = o ∧ (k.readB o now).seen = k.seen ∧ (k.readB o now).over = false ∧ (k.readB o now).ep = k.ep ∧ (k.readB o now).ses = k.ses ∧ (k.readB o now).til = k.til ∧ (k.readB o now).sent = now ∧ (k.readB o now).obj = k.obj ∧ (k.readB o now).vol = k.vol ∧ (k.readB o now).asked = k.asked ∧ (k.readB o now).renewal = k.renewal ∧ (k.readB o now).coming = 0 ∧ ∀ x ∈ (k.readB o now).kept, x ∈ k.kept := by
  obtain ⟨h1, h2, h3, h4, _, h6, h7, h8, h9, h10, h11, h12, h13, h14, h15, h16⟩ := looked_is (k.begin 1 o ⟨#[]⟩ 0 false false now) o
  exact ⟨h1, h2, h3, h4, h6, h7, h8, h9, h10, h11, h12, h13, h14, h15, h16, fun x hx => mem_looked (k := k.begin 1 o ⟨#[]⟩ 0 false false now) (o := o) hx⟩

theorem Inv.readBegan {w : Wd} {H : List Hc} {L : List M} {B : Nat} (h : Inv w H L B) {k : Nat} (hk : k < w.n) (hst : 0 ≤ w.step) {o : Int} (ho : 0 ≤ o) (ho8 : o < 8) (hf : (w.seat k).k.isOpen = false) : Inv (w.began k ((w.seat k).k.reads o (w.seat k).clock)) (H ++ [w.hc k ((w.seat k).k.readB o (w.seat k).clock)]) L B := by
  have hs := h.st k hk
  obtain ⟨r1, r2, r3, r4, r5, r6, _, _, _, _, _, _, _, _, _, r16⟩ := readB_is (w.seat k).k o (w.seat k).clock
  have hb : KBegin w k ((w.seat k).k.readB o (w.seat k).clock) := ⟨r1, r2, .inl r3, by rw [r4]; exact ho, by rw [r4]; exact ho8, fun x hx => hs.kept x (r16 x hx), r5, r6⟩
  have h1 := h.began hk hst hb hf fun q => by rw [r3] at q; exact absurd q (by decide)
  unfold K.reads
  split
  · exact h1
  · rename_i x hx
    obtain ⟨x1, x2, x3, x4, x5⟩ := has_is hx
    rw [began_over w k ((w.seat k).k.readB o (w.seat k).clock) _ r6]
    have hs2 : (w.began k ((w.seat k).k.readB o (w.seat k).clock)).seat k = ⟨(w.seat k).k.readB o (w.seat k).clock, (w.seat k).clock, (w.seat k).life, w.events.length⟩ := by rw [began_is w k _ r6]; exact updN_same _ _ _
    have hrs : (w.began k ((w.seat k).k.readB o (w.seat k).clock)).rs = w.rs := by rw [began_is w k _ r6]
    have hn : (w.began k ((w.seat k).k.readB o (w.seat k).clock)).n = w.n := by rw [began_is w k _ r6]
    refine h1.noted (by rw [hn]; exact hk) ?_
    have hval : IsVal w.rs o x.v x.d := by rw [← x2]; exact hs.kept x x1
    refine ⟨by rw [hs2]; rfl, by rw [hs2]; rfl, by rw [hs2]; rfl, by rw [hs2]; rfl, fun q => ?_, ?_, ?_, .inr ⟨?_, rfl, ?_, fun _ => ⟨?_, ?_⟩, fun q => ?_⟩⟩
    · rw [hs2] at q; dsimp only at q; rw [r3] at q; exact absurd q (by decide)
    · rw [hrs]; exact fun y hy => hs.kept y (r16 y hy)
    · rw [hs2]; exact fun y => le_upd (le_mx1 _ _) y
    · rw [hs2]; show K.isOpen _ = true; rw [K.isOpen_iff, r3, r6]; exact ⟨by decide, rfl⟩
    · show x.v ≤ upd _ _ _ _
      exact Int.le_trans (le_mx2 _ _) (Int.le_of_eq (upd_same _ _ _).symm)
    · rw [hrs]; show IsVal w.rs ((w.seat k).k.readB o (w.seat k).clock).cob x.v x.d; rw [r4]; exact hval
    · rw [hs2]; show ((w.seat k).k.readB o (w.seat k).clock).seen ((w.seat k).k.readB o (w.seat k).clock).cob ≤ x.v; rw [r4, r5]; exact x5
    · rw [hs2] at q; dsimp only at q; rw [r3] at q; exact absurd q (by decide)

theorem began_n (w : Wd) (k : Nat) (c : K) : (w.began k c).n = w.n := note_n _ k

theorem Inv.writeBegan {w : Wd} {H : List Hc} {L : List M} {B : Nat} (h : Inv w H L B) {k : Nat} (hk : k < w.n) (hst : 0 ≤ w.step) {o : Int} (ho : 0 ≤ o) (ho8 : o < 8) (hf : (w.seat k).k.isOpen = false) {d : ByteArray} (hd : d ≠ ⟨#[]⟩) (hdd : ∀ g ∈ H, g.kd = 2 → g.d ≠ d) : Inv (w.began k ((w.seat k).k.begin 2 o d 0 false false (w.seat k).clock)) (H ++ [w.hc k ((w.seat k).k.begin 2 o d 0 false false (w.seat k).clock)]) L B := by
  have hs := h.st k hk
  exact h.began hk hst ⟨rfl, rfl, .inr rfl, ho, ho8, hs.kept, rfl, rfl⟩ hf fun _ => ⟨hd, hdd⟩

theorem Inv.enter {w : Wd} {H : List Hc} {L : List M} {B : Nat} (h : Inv w H L B) {k : Nat} (hk : k < w.n) : Inv (w.enter k ((w.seat k).life + 1)) H L B := by
  have hs := h.st k hk
  have hn4 := h.n4
  refine ⟨h.n4, h.len, h.eh, h.an, h.bg, h.mo, h.bef, h.lol, h.hs, h.hd, h.hne, h.n1, h.net, h.msg, h.sv, h.log, h.epc, fun j hj => ?_⟩
  by_cases e : j = k
  · subst e
    obtain ⟨sj, hsj⟩ : ∃ sj : St, sj = { w.seat j with k := K.new (((w.seat j).life + 1) * 4 + j) (short w.td w.to) (short w.td w.tv), life := (w.seat j).life + 1, call := -1 } := ⟨_, rfl⟩
    have es : (w.enter j ((w.seat j).life + 1)).seat j = sj := by rw [hsj]; exact updN_same _ _ _
    have f1 : sj.k = K.new (((w.seat j).life + 1) * 4 + j) (short w.td w.to) (short w.td w.tv) ∧ sj.life = (w.seat j).life + 1 ∧ sj.call = -1 := by rw [hsj]; exact ⟨rfl, rfl, rfl⟩
    obtain ⟨f1, f2, f3⟩ := f1
    have hid := hs.id
    have hno : ∀ (i : Nat) x g, w.events[i]? = some x → H[i]? = some g → x.client = j → x.life ≤ (w.seat j).life := fun i x g hx hg e1 => by
      have hE := h.eh i x g hx hg
      have h1 := hE.c
      have h2 : seatN g.c = j := by
        unfold seatN
        rw [h1, e1]
        have := hE.l0
        omega
      have h3 := hs.liv g (List.mem_of_getElem? hg) h2
      omega
    refine ⟨by rw [es, f1, f2]; rfl, by rw [es, f2]; have := hs.l0; omega, by rw [es, f1]; exact Int.le_refl 0, ?_, ?_, by rw [es, f3]; intro q; omega, by rw [es, f1, f3]; rfl, by rw [es, f1]; intro x hx; exact (by cases hx), ?_⟩
    · rw [es, f1]
      intro g hg e1
      exfalso
      have e1' : g.c = ((w.seat j).life + 1) * 4 + j := e1
      have h2 : seatN g.c = j := by
        unfold seatN
        rw [e1']
        have := hs.l0
        omega
      have h3 := hs.liv g hg h2
      omega
    · rw [es, f1]
      intro g hg e1
      have h3 := hs.liv g hg e1
      show g.c ≤ ((w.seat j).life + 1) * 4 + j
      omega
    · rw [es, f2]
      intro x hx e1 e2 e3
      exfalso
      obtain ⟨i, hi⟩ := List.getElem?_of_mem hx
      have hl : i < H.length := by rw [h.len]; exact (List.getElem?_eq_some_iff.1 hi).1
      have := hno i x _ hi (List.getElem?_eq_getElem hl) e1
      omega
  · have hsj := h.st j hj
    have es : (w.enter k ((w.seat k).life + 1)).seat j = w.seat j := updN_other _ _ e
    exact ⟨by rw [es]; exact hsj.id, by rw [es]; exact hsj.l0, by rw [es]; exact hsj.n0, by rw [es]; exact hsj.num, by rw [es]; exact hsj.liv, by rw [es]; exact hsj.opn, by rw [es]; exact hsj.isO, by rw [es]; exact hsj.kept, by rw [es]; exact hsj.seen⟩

theorem Inv.reborn {w : Wd} {H : List Hc} {L : List M} {B : Nat} (h : Inv w H L B) {k : Nat} (hk : k < w.n) : Inv (w.reborn k) H L B := Inv.enter (w := { w with step := w.step + 1 }) h.stepped hk

def Wd.bare (to' tv td : Int) (n : Nat) : Wd := ⟨to', tv, td, [], false, 0, [], none, 0, n, fun k => ⟨K.new k (short td to') (short td tv), 0, 0, -1⟩, [], 0⟩

theorem Inv.bare (to' tv td : Int) {n : Nat} (hn : n ≤ 4) : Inv (Wd.bare to' tv td n) [] [] 0 :=
  ⟨hn, rfl, fun i e h he _ => by simp [Wd.bare] at he, fun i e h he _ => by simp [Wd.bare] at he, fun e he => by simp [Wd.bare] at he, fun i j e x _ he _ => by simp [Wd.bare] at he, fun e he => by simp [Wd.bare] at he, fun h hh => by simp at hh, by simp, by simp, by simp, by simp, fun p hp => by simp [Wd.bare] at hp, by simp, fun s hs => by simp [Wd.bare] at hs, LogIs.zero [], by simp [Wd.bare],
    fun k _ => ⟨by simp [Wd.bare, K.new], Int.le_refl 0, Int.le_refl 0, by simp, by simp, fun q => by simp [Wd.bare] at q, rfl, fun x hx => by simp [Wd.bare, K.new] at hx, fun e he => by simp [Wd.bare] at he⟩⟩

theorem commit_up {s : Sv} (m : M) (o : Nat) (hd : s.down = false) (hf : s.fails = false) : (s.commit m o).2.2 = true ∧ (s.commit m o).1.down = false ∧ (s.commit m o).1.fails = false := by
  have ha : s.add (s.recd m o) = if s.rs.length = 200 then (s, 12) else ({ s with rs := s.rs ++ [s.recd m o], left := if s.fails = true then s.left - 1 else s.left }, 0) := by
    unfold Sv.add
    rw [if_neg (by rw [hd]; decide)]
    split
    · rfl
    · rw [if_neg (by rw [hf]; simp)]
  unfold Sv.commit
  rw [ha]
  by_cases h : s.rs.length = 200
  · rw [if_pos h, if_neg (show ¬ (12 : Int) = 0 by decide)]
    exact ⟨by dsimp only; rw [hd]; rfl, hd, hf⟩
  · rw [if_neg h, if_pos rfl]
    obtain ⟨_, _, _, h4, h5, _⟩ := applied_terms { s with rs := s.rs ++ [s.recd m o], left := if s.fails = true then s.left - 1 else s.left } (s.recd m o)
    exact ⟨rfl, h4.trans hd, h5.trans hf⟩

theorem S1.up {T : Int} {s s' : Sv} {L L' : List M} (k : S1 T s L s' L') (hd : s.down = false) (hf : s.fails = false) : s'.down = false ∧ s'.fails = false := by
  cases k with
  | flush => exact ⟨hd, hf⟩
  | commit o m rest => exact ⟨(commit_up m o hd hf).2.1, (commit_up m o hd hf).2.2⟩
  | fall o m rest ho hd' hw ok => rw [(commit_up m o hd hf).1] at ok; cases ok
  | enq => exact ⟨hd, hf⟩
  | value o m => unfold Sv.lent; split <;> exact ⟨hd, hf⟩
  | grant => exact ⟨hd, hf⟩
  | flushM => exact ⟨hd, hf⟩
  | inval => exact ⟨hd, hf⟩
  | drop => exact ⟨hd, hf⟩
  | redone => exact ⟨hd, hf⟩

theorem Ss.up {T : Int} {s s' : Sv} {L L' : List M} (k : Ss T s L s' L') : s.down = false → s.fails = false → s'.down = false ∧ s'.fails = false := by
  induction k with
  | refl => exact fun a b => ⟨a, b⟩
  | head k1 _ ih => exact fun a b => ih (k1.up a b).1 (k1.up a b).2

def Wd.pen (w : Wd) : Nat := match w.sv with
  | none => 1
  | some s => if s.fails = true then 1 else 0

theorem pen_le (w : Wd) : w.pen ≤ 1 := by unfold Wd.pen; split <;> (try split) <;> omega

structure InvB (w : Wd) (H : List Hc) (L : List M) (b : Nat) : Prop where
  inv : ∃ B, Inv w H L B ∧ B + w.pen ≤ b
  up : ∀ s, w.sv = some s → s.down = false
  st : 0 ≤ w.step

theorem put_sv (w : Wd) (t : Int) (m : M) : (w.put t m).sv = w.sv ∧ (w.put t m).step = w.step ∧ (w.put t m).n = w.n := by
  unfold Wd.put
  split <;> exact ⟨rfl, rfl, rfl⟩

theorem send_sv (t : Int) : ∀ (l : List M) (w : Wd), (w.send t l).sv = w.sv ∧ (w.send t l).step = w.step
  | [], _ => ⟨rfl, rfl⟩
  | m :: l, w => ⟨(send_sv t l (w.put t m)).1.trans (put_sv w t m).1, (send_sv t l (w.put t m)).2.trans (put_sv w t m).2.1⟩

theorem tells_svs : ∀ (l : List M) (w : Wd), (w.tells l).sv = w.sv ∧ (w.tells l).step = w.step
  | [], _ => ⟨rfl, rfl⟩
  | m :: l, w => ⟨(tells_svs l (w.put (seatN m.c : Nat) m)).1.trans (put_sv w _ m).1, (tells_svs l (w.put (seatN m.c : Nat) m)).2.trans (put_sv w _ m).2.1⟩

theorem note_sv (w : Wd) (k : Nat) : (w.note k).sv = w.sv ∧ (w.note k).step = w.step := by
  unfold Wd.note
  split <;> exact ⟨rfl, rfl⟩

theorem InvB.same {w w' : Wd} {H H' : List Hc} {L L' : List M} {b : Nat} (h : InvB w H L b) (hs : w'.sv = w.sv) (ht : w.step ≤ w'.step) (hi : ∀ B, Inv w H L B → Inv w' H' L' B) : InvB w' H' L' b :=
  ⟨h.inv.imp fun B k => ⟨hi B k.1, by have : w'.pen = w.pen := by unfold Wd.pen; rw [hs]
                                      omega⟩, fun s hq => h.up s (by rw [← hs]; exact hq), by have := h.st; omega⟩

theorem InvB.mono {w : Wd} {H : List Hc} {L : List M} {b c : Nat} (h : InvB w H L b) (hb : b ≤ c) : InvB w H L c := ⟨h.inv.imp fun B k => ⟨k.1, by omega⟩, h.up, h.st⟩

theorem answer_sv (w : Wd) (r : Sv × List M) : (w.answer r).sv = (if r.1.down = true then none else some r.1) ∧ (w.answer r).step = w.step := by
  have e1 : ((w.served r.1).tells r.2).sv = some r.1 := (tells_svs r.2 _).1
  have e2 : ((w.served r.1).tells r.2).step = w.step := (tells_svs r.2 _).2
  unfold Wd.answer Wd.fallen
  rw [e1]
  dsimp only
  by_cases h : r.1.down = true
  · rw [if_pos h, if_pos h]; exact ⟨rfl, e2⟩
  · rw [if_neg h, if_neg h]; exact ⟨e1, e2⟩

theorem InvB.answer {w : Wd} {H : List Hc} {L : List M} {b : Nat} (h : InvB w H L b) (hb : H.length + b < 200) {s : Sv} (hs : w.sv = some s) {r : Sv × List M} (hr : Ss w.clock s L r.1 (L ++ r.2)) : InvB (w.answer r) H (L ++ r.2) b := by
  obtain ⟨e1, e2⟩ := answer_sv w r
  refine ⟨h.inv.imp fun B k => ⟨k.1.answer (by omega) hs hr, ?_⟩, ?_, by rw [e2]; exact h.st⟩
  · have hp : (w.answer r).pen ≤ w.pen := by
      cases hf : s.fails
      · have := hr.up (h.up s hs) hf
        unfold Wd.pen
        rw [e1, if_neg (by rw [this.1]; decide)]
        dsimp only
        rw [this.2]
        simp
      · have : w.pen = 1 := by unfold Wd.pen; rw [hs]; dsimp only; rw [hf]; rfl
        rw [this]
        exact pen_le _
    omega
  · intro s' hs'
    rw [e1] at hs'
    split at hs'
    · cases hs'
    · rename_i q
      rw [← Option.some.inj hs']
      simpa using q

end Go.Proofs.YtbebfliimjjohaaGreatDoor.Wld
end

section
namespace Go.Proofs.YtbebfliimjjohaaGreatDoor.Wld
open Go.RowKit Go.Maps
open Lease (Ob I64 upd TabIs hol dels objB HasI map_block map_ne mx)
open Cache (tp row_kept row_below)
open Wal (R WalIs DiskIs Oq Fw rcells)
open Num (M okB strOf ints)
open Net (NetIs Only pcells)
def isZ : Value → Bool
  | .int .u8 0 => true
  | _ => false

theorem isZ_eq {v : Value} (h : isZ v = true) : v = .int .u8 0 := by
  unfold isZ at h
  split at h
  · rfl
  · cases h

theorem wz_disk : ((Tryz.zeroCells75.toList.drop 3).take 12400).all isZ = true := by kernel_rfl

theorem wz_tail : Tryz.zeroCells75.toList.drop 12403 = [.bool false, .int .i64 0, .slice none 0 0, .int .i64 0, .pointer none, .int .i64 0, .slice none 0 0, .slice none 0 0, .int .i64 0] := by kernel_rfl

theorem wz_len : Tryz.zeroCells75.toList.length = 12412 := by
  have := congrArg List.length wz_tail
  rw [List.length_drop] at this
  simp only [List.length_cons, List.length_nil] at this
  omega

theorem wz_at (i : Nat) (h : i < 12400) : Tryz.zeroCells75[3 + i]? = some (.int .u8 0) := by
  have hl := wz_len
  rw [← Array.getElem?_toList]
  have hi : 3 + i < Tryz.zeroCells75.toList.length := by omega
  have hm : ((Tryz.zeroCells75.toList.drop 3).take 12400)[i]? = some Tryz.zeroCells75.toList[3 + i] := by
    rw [List.getElem?_take, if_pos h, List.getElem?_drop, List.getElem?_eq_getElem hi]
  rw [List.getElem?_eq_getElem hi, isZ_eq (List.all_eq_true.1 wz_disk _ (List.mem_of_getElem? hm))]

theorem wz_end (i : Nat) : Tryz.zeroCells75[12403 + i]? = [Value.bool false, .int .i64 0, .slice none 0 0, .int .i64 0, .pointer none, .int .i64 0, .slice none 0 0, .slice none 0 0, .int .i64 0][i]? := by
  rw [← Array.getElem?_toList, ← List.getElem?_drop, wz_tail]

def wcells (z : Array Value) (tob tv td : Int) (G n : Nat) : Array Value := (((z.setIfInBounds 0 (.int .i64 tob)).setIfInBounds 1 (.int .i64 tv)).setIfInBounds 2 (.int .i64 td)).setIfInBounds 12409 (.slice (some ⟨G, 0, none⟩) n n)

theorem wcells_other (tob tv td : Int) (G n i : Nat) (h0 : 3 ≤ i) (h1 : i ≠ 12409) : (wcells Tryz.zeroCells75 tob tv td G n)[i]? = Tryz.zeroCells75[i]? := by
  unfold wcells
  rw [Array.getElem?_setIfInBounds_ne (by omega), Array.getElem?_setIfInBounds_ne (by omega), Array.getElem?_setIfInBounds_ne (by omega), Array.getElem?_setIfInBounds_ne (by omega)]

theorem wz_size : Tryz.zeroCells75.size = 12412 := by rw [← Array.length_toList]; exact wz_len

theorem wcells_0 (tob tv td : Int) (G n : Nat) : (wcells Tryz.zeroCells75 tob tv td G n)[0]? = some (.int .i64 tob) := by
  unfold wcells
  rw [Array.getElem?_setIfInBounds_ne (by omega), Array.getElem?_setIfInBounds_ne (by omega), Array.getElem?_setIfInBounds_ne (by omega), Array.getElem?_setIfInBounds_self_of_lt (by rw [wz_size]; omega)]

theorem wcells_1 (tob tv td : Int) (G n : Nat) : (wcells Tryz.zeroCells75 tob tv td G n)[1]? = some (.int .i64 tv) := by
  unfold wcells
  rw [Array.getElem?_setIfInBounds_ne (by omega), Array.getElem?_setIfInBounds_ne (by omega), Array.getElem?_setIfInBounds_self_of_lt (by rw [Array.size_setIfInBounds, wz_size]; omega)]

theorem wcells_2 (tob tv td : Int) (G n : Nat) : (wcells Tryz.zeroCells75 tob tv td G n)[2]? = some (.int .i64 td) := by
  unfold wcells
  rw [Array.getElem?_setIfInBounds_ne (by omega), Array.getElem?_setIfInBounds_self_of_lt (by rw [Array.size_setIfInBounds, Array.size_setIfInBounds, wz_size]; omega)]

theorem wcells_s (tob tv td : Int) (G n : Nat) : (wcells Tryz.zeroCells75 tob tv td G n)[12409]? = some (.slice (some ⟨G, 0, none⟩) n n) := by
  unfold wcells
  rw [Array.getElem?_setIfInBounds_self_of_lt (by rw [Array.size_setIfInBounds, Array.size_setIfInBounds, Array.size_setIfInBounds, wz_size]; omega)]

structure Nb (w wr : World) (Q G n k : Nat) (tob tv td : Int) (c m : Nat → Nat) : Prop where
  bl : Below w.heap.size w wr
  q : wr.heap[Q]? = some (.cells (wcells Tryz.zeroCells75 tob tv td G n) 75)
  g : isC wr G 84
  gf : ∀ i, wr.frozen? ⟨G, i, none⟩ = false
  seats : ∀ i, i < k → SeatIs wr G i (c i) ⟨K.new i (short td tob) (short td tv), 0, 0, -1⟩
  rest : ∀ i, k ≤ i → i < n → wr.cell? ⟨G, i * 4, none⟩ = some (.pointer none) ∧ wr.cell? ⟨G, i * 4 + 1, none⟩ = some (.int .i64 0) ∧ wr.cell? ⟨G, i * 4 + 2, none⟩ = some (.int .i64 0) ∧ wr.cell? ⟨G, i * 4 + 3, none⟩ = some (.int .i64 0)
  cli : ∀ i, i < k → CliIs wr (c i) (m i) (K.new i (short td tob) (short td tv))
  lo : ∀ i, i < k → Q < c i ∧ Q < m i
  ap : ∀ i j, i < k → j < k → i ≠ j → c i ≠ c j ∧ m i ≠ m j

theorem Nb.cell {w wr : World} {Q G n k : Nat} {tob tv td : Int} {c m : Nat → Nat} (h : Nb w wr Q G n k tob tv td c m) (i : Nat) : wr.cell? ⟨Q, i, none⟩ = (wcells Tryz.zeroCells75 tob tv td G n)[i]? := cell_of_row _ _ _ _ _ _ h.q

theorem Nb.done {w wr : World} {Q G n : Nat} {tob tv td : Int} {c m : Nat → Nat} (h : Nb w wr Q G n n tob tv td c m) (hn1 : 1 ≤ n) (hn4 : n ≤ 4) (a : Ad) : WdIs wr ⟨Q, G, c, m, a⟩ (Wd.bare tob tv td n) := by
  have hQ : Q < wr.heap.size := (Array.getElem?_eq_some_iff.1 h.q).1
  have hf : ∀ i, wr.frozen? ⟨Q, i, none⟩ = false := fun i => by
    simp [World.frozen?, h.q]
  have e : ∀ i, 3 ≤ i → i ≠ 12409 → wr.cell? ⟨Q, i, none⟩ = Tryz.zeroCells75[i]? := fun i h0 h1 => (h.cell i).trans (wcells_other _ _ _ _ _ _ h0 h1)
  refine ⟨⟨⟨_, _, h.q⟩, hf, (h.cell 0).trans (wcells_0 ..), (h.cell 1).trans (wcells_1 ..), (h.cell 2).trans (wcells_2 ..), (e 12407 (by omega) (by omega)).trans (wz_end 4), (e 12408 (by omega) (by omega)).trans (wz_end 5), (h.cell 12409).trans (wcells_s ..), (e 12411 (by omega) (by omega)).trans (wz_end 8)⟩, ?_, ?_, ⟨.slice none 0 0, (e 12410 (by omega) (by omega)).trans (wz_end 7), ?_⟩, h.g, h.gf, h.seats, h.cli, h.ap, fun v hv => (by cases hv), hn1, hn4⟩
  · refine ⟨fun k hk => (by simp [Wd.bare] at hk), fun k hk j hj => ⟨by rw [e _ (by omega) (by omega), show 3 + k * 62 + j = 3 + (k * 62 + j) by omega, wz_at _ (by omega)]; rfl, hf _⟩, fun k _ hk => ?_, (e 12403 (by omega) (by omega)).trans (wz_end 0), (e 12404 (by omega) (by omega)).trans (wz_end 1), hf, by simp [Wd.bare], by simp [Wd.bare]⟩
    rw [e _ (by omega) (by omega), show 3 + k * 62 + 61 = 3 + (k * 62 + 61) by omega, wz_at _ (by omega)]
  · exact ⟨⟨.slice none 0 0, (e 12405 (by omega) (by omega)).trans (wz_end 2), ⟨rfl, .inl ⟨rfl, rfl⟩⟩⟩, ⟨0, (e 12406 (by omega) (by omega)).trans (wz_end 3)⟩, hf, by show Q < Q + 1; omega, by show Q + 1 ≤ wr.heap.size; omega, by simp [Wd.bare]⟩
  · exact ⟨rfl, .inl ⟨rfl, rfl⟩⟩

theorem Nb.more {w wr w2 : World} {Q G n k : Nat} {tob tv td : Int} {c m : Nat → Nat} (h : Nb w wr Q G n k tob tv td c m) (hk : k < n) (hQG : G < Q) (hw : w.heap.size ≤ G) {x q : Nat} (hb : Below wr.heap.size wr w2) (hC : CliIs w2 x q (K.new k (short td tob) (short td tv))) (hx : wr.heap.size ≤ x) (hq : wr.heap.size ≤ q) :
    Nb w (seated w2 G k x 0) Q G n (k + 1) tob tv td (updN c k x) (updN m k q) := by
  have hQ : Q < wr.heap.size := (Array.getElem?_eq_some_iff.1 h.q).1
  obtain ⟨m1, m2, m3, m4⟩ := seated_meta w2 G k x 0
  have hs2 := hb.size
  have o : ∀ y, y ≠ G → (seated w2 G k x 0).heap[y]? = w2.heap[y]? := fun y hy => seated_other w2 G k x 0 y hy
  have r := h.rest k (by omega) hk
  have hG : G < wr.heap.size := h.g.lt
  have cG : ∀ i, w2.cell? ⟨G, i, none⟩ = wr.cell? ⟨G, i, none⟩ := fun i => hb.cell (p := ⟨G, i, none⟩) hG
  obtain ⟨n0, n2, n3⟩ := seated_new w2 G k x 0 ((cG _).trans r.1) ((cG _).trans r.2.2.1) ((cG _).trans r.2.2.2)
  have ot : ∀ i, i ≠ k → ∀ j, j < 4 → (seated w2 G k x 0).cell? ⟨G, i * 4 + j, none⟩ = wr.cell? ⟨G, i * 4 + j, none⟩ := fun i hi j hj => (seated_cell w2 G k x 0 _ (by omega) (by omega) (by omega)).trans (cG _)
  have hbl := h.bl.size
  refine ⟨⟨m2.trans (hb.os.trans h.bl.os), m3.trans (hb.tape.trans h.bl.tape), m4.trans (hb.output.trans h.bl.output), by omega, fun y hy => (o y (by omega)).trans ((hb.block y (by omega)).trans (h.bl.block y hy))⟩, (o Q (by omega)).trans ((hb.block Q hQ).trans h.q), ?_, fun i => ?_, fun i hi => ?_, fun i h1 h2 => ?_, fun i hi => ?_, fun i hi => ?_, fun i j hi hj hij => ?_⟩
  · unfold seated
    exact Wal.typ_setCell (Wal.typ_setCell (Wal.typ_setCell (h.g.same (hb.block G hG))))
  · rw [seated_fro, hb.frozen (p := ⟨G, i, none⟩) hG]; exact h.gf i
  · by_cases e : i = k
    · subst e
      rw [updN_same]
      exact ⟨n0, (seated_cell w2 G i x 0 (i * 4 + 1) (by omega) (by omega) (by omega)).trans ((cG _).trans r.2.1), n2, n3⟩
    · rw [updN_other _ _ e]
      have y := h.seats i (by omega)
      exact ⟨(ot i e 0 (by omega)).trans y.c0, (ot i e 1 (by omega)).trans y.c1, (ot i e 2 (by omega)).trans y.c2, (ot i e 3 (by omega)).trans y.c3⟩
  · have y := h.rest i (by omega) h2
    have e : i ≠ k := by omega
    exact ⟨(ot i e 0 (by omega)).trans y.1, (ot i e 1 (by omega)).trans y.2.1, (ot i e 2 (by omega)).trans y.2.2.1, (ot i e 3 (by omega)).trans y.2.2.2⟩
  · by_cases e : i = k
    · subst e
      rw [updN_same, updN_same]
      exact hC.blocks (o x (by omega)) (o q (by omega))
    · rw [updN_other _ _ e, updN_other _ _ e]
      have y := h.cli i (by omega)
      have lo := h.lo i (by omega)
      have lt := y.lt
      exact y.blocks ((o _ (by omega)).trans (hb.block _ lt.1)) ((o _ (by omega)).trans (hb.block _ lt.2))
  · by_cases e : i = k
    · subst e; rw [updN_same, updN_same]; omega
    · rw [updN_other _ _ e, updN_other _ _ e]; exact h.lo i (by omega)
  · unfold updN
    have li : i ≠ k → c i < wr.heap.size ∧ m i < wr.heap.size := fun e => (h.cli i (by omega)).lt
    have lj : j ≠ k → c j < wr.heap.size ∧ m j < wr.heap.size := fun e => (h.cli j (by omega)).lt
    by_cases e1 : i = k
    · have e2 : j ≠ k := by omega
      have := lj e2
      rw [if_pos e1, if_neg e2, if_pos e1, if_neg e2]
      omega
    · by_cases e2 : j = k
      · have := li e1
        rw [if_neg e1, if_pos e2, if_neg e1, if_pos e2]
        omega
      · rw [if_neg e1, if_neg e2, if_neg e1, if_neg e2]
        exact h.ap i j (by omega) (by omega) hij

theorem WdB.bare {tob tv td : Int} {n : Nat} (h1 : 1 ≤ tv) (h2 : tv ≤ tob) (h3 : tob ≤ 274877906944) (h4 : 0 ≤ td) (h5 : td ≤ 500) : WdB (Wd.bare tob tv td n) 0 := by
  have s1 := short_bounds h4 h5 (t := tob) (by omega) h3
  have s2 := short_bounds h4 h5 (t := tv) (by omega) (by omega)
  refine ⟨by show 0 ≤ tob; omega, h3, by show 0 ≤ tv; omega, by show tv ≤ _; omega, h4, h5, Int.le_refl 0, by simp [Wd.bare, K.new], fun i _ => ⟨⟨by simp [Wd.bare, K.new], by simp [Wd.bare, K.new], by simp [Wd.bare, K.new], by simp [Wd.bare, K.new], by simp [Wd.bare, K.new], by simp [Wd.bare, K.new], by simp [Wd.bare, K.new], s1.1, ?_, s2.1, ?_, by simp [Wd.bare, K.new], by simp [Wd.bare, K.new], by simp [Wd.bare, K.new], by simp [Wd.bare, K.new], fun x hx => (by cases hx), by show (⟨#[]⟩ : ByteArray).size ≤ 20; decide⟩, by simp [Wd.bare, K.new], by simp [Wd.bare, K.new], by simp [Wd.bare, K.new], by simp [Wd.bare, K.new], by simp [Wd.bare, K.new], by show (-1 : Int) < _; simp [Wd.bare]⟩, by simp [Wd.bare, K.new], by simp [Wd.bare, K.new], by simp [Wd.bare], fun p hp => (by simp [Wd.bare] at hp), by simp [Wd.bare], fun v hv => (by cases hv), fun r hr => (by simp [Wd.bare] at hr), by simp [Wd.bare], by simp [Wd.bare, K.new], by simp [Wd.bare, K.new]⟩
  · show short td tob ≤ _; omega
  · show short td tv ≤ _; omega

set_option maxRecDepth 100000 in
theorem mayW_any (tob tv td : Int) (w : World) (h1 : 1 ≤ tv) (h2 : tv ≤ tob) (h3 : tob ≤ 274877906944) (h4 : 0 ≤ td) (h5 : td ≤ 500) :
    Calls Tryz.prog 33 #[.agg #[.int .i64 tob, .int .i64 tv, .int .i64 td]] w fun e w' => e = .returned (.bool true) ∧ Below w.heap.size w w' ∧ w'.heap.size = w.heap.size + 1 := by
  have hb : Below w.heap.size w (w.alloc (.cells #[.int .i64 tob, .int .i64 tv, .int .i64 td] 32)) := (Below.refl _ _).alloc (Nat.le_refl _) _
  go_enter Tryz.func33, Tryz.ntmps33
  go_wp2
  go_ret
  exact ⟨by simp, hb, by simp⟩

end Go.Proofs.YtbebfliimjjohaaGreatDoor.Wld
end

section
namespace Go.Proofs.YtbebfliimjjohaaGreatDoor.Wld
open Go.RowKit Go.Maps
open Lease (Ob I64 upd TabIs hol dels objB HasI map_block map_ne mx)
open Cache (tp row_kept row_below)
open Wal (R WalIs DiskIs Oq Fw rcells)
open Num (M okB strOf ints)
open Net (NetIs Only pcells hasB)
set_option maxHeartbeats 1000000 in
set_option maxRecDepth 100000 in
theorem deliver_no (A : Wa) (s : Wd) (k : Int) (w : World) (h : WdIs w A s) (hk : hasB k s.net.length = false) :
    Calls Tryz.prog 23 #[tp A.Q, .int .i64 k] w fun e w' => (∃ v, e = .returned v) ∧ Below w.heap.size w w' := by
  have htk := Net.take_no (A.Q + 1) A.Q (s.net.map encN) k w h.net (by rw [List.length_map]; exact hk)
  clear h
  go_enter Tryz.func23, Tryz.ntmps23
  go_wp2_with fail
  refine htk.mono ?_
  rintro e w2 ⟨rfl, hb⟩
  have hb2 : ∀ o, Below w.heap.size w (w2.alloc o) := fun o => hb.alloc hb.size o
  clear htk
  go_wp2_with fail
  go_ret
  exact ⟨⟨_, rfl⟩, hb2 _⟩

set_option maxRecDepth 100000 in
theorem lose_no (A : Wa) (s : Wd) (k : Int) (w : World) (h : WdIs w A s) (hk : hasB k s.net.length = false) :
    Calls Tryz.prog 24 #[tp A.Q, .int .i64 k] w fun e w' => (∃ v, e = .returned v) ∧ Below w.heap.size w w' := by
  have htk := Net.take_no (A.Q + 1) A.Q (s.net.map encN) k w h.net (by rw [List.length_map]; exact hk)
  clear h
  go_enter Tryz.func24, Tryz.ntmps24
  go_wp2_with fail
  refine htk.mono ?_
  rintro e w2 ⟨rfl, hb⟩
  have hb2 : ∀ o, Below w.heap.size w (w2.alloc o) := fun o => hb.alloc hb.size o
  clear htk
  go_wp2_with fail
  go_ret
  exact ⟨⟨_, rfl⟩, hb2 _⟩

set_option maxRecDepth 100000 in
theorem twice_no (A : Wa) (s : Wd) (k : Int) (w : World) (h : WdIs w A s) (hk : hasB k s.net.length = false) :
    Calls Tryz.prog 25 #[tp A.Q, .int .i64 k] w fun e w' => (∃ v, e = .returned v) ∧ Below w.heap.size w w' := by
  have htk := Net.twice_no (A.Q + 1) A.Q (s.net.map encN) k w h.net (by rw [List.length_map]; exact hk)
  clear h
  go_enter Tryz.func25, Tryz.ntmps25
  go_wp2_with fail
  refine htk.mono ?_
  rintro e w2 ⟨rfl, rfl⟩
  clear htk
  go_wp2_with fail
  go_ret
  exact ⟨⟨_, rfl⟩, Below.refl _ _⟩

def zseats : Nat → List Value
  | 0 => []
  | n + 1 => [.pointer none, .int .i64 0, .int .i64 0, .int .i64 0] ++ zseats n

theorem zseats_at : ∀ (n i : Nat), i < n → (zseats n)[i * 4]? = some (.pointer none) ∧ (zseats n)[i * 4 + 1]? = some (.int .i64 0) ∧ (zseats n)[i * 4 + 2]? = some (.int .i64 0) ∧ (zseats n)[i * 4 + 3]? = some (.int .i64 0)
  | n + 1, 0, _ => ⟨rfl, rfl, rfl, rfl⟩
  | n + 1, i + 1, h => by
    have e : ∀ j, (zseats (n + 1))[(i + 1) * 4 + j]? = (zseats n)[i * 4 + j]? := fun j => by
      show ([Value.pointer none, .int .i64 0, .int .i64 0, .int .i64 0] ++ zseats n)[(i + 1) * 4 + j]? = _
      rw [List.getElem?_append_right (by simp; omega)]
      congr 1
      simp
      omega
    have h1 := zseats_at n i (by omega)
    exact ⟨(e 0).trans h1.1, (e 1).trans h1.2.1, (e 2).trans h1.2.2.1, (e 3).trans h1.2.2.2⟩

set_option maxRecDepth 100000 in
theorem make_seats (n : Nat) (h1 : 1 ≤ n) (h4 : n ≤ 4) (w : World) : (Instr.makeSlice 73 (.int .i64 n) (.int .i64 n)).run Tryz.prog w = .ok (.slice (some ⟨w.heap.size, 0, none⟩) n n) (w.alloc (.cells (zseats n).toArray 84)) := by
  obtain rfl | rfl | rfl | rfl : n = 1 ∨ n = 2 ∨ n = 3 ∨ n = 4 := by omega
  all_goals kernel_rfl

def Low (N : Nat) (w : World) (A : Wa) (s : Wd) : Prop := ∀ k, wfoot w A s k → N ≤ k

theorem Low.step {N : Nat} {w w' : World} {A A' : Wa} {s s' : Wd} (h : Low N w A s) (hf : Fz A s w A' s' w') (hN : N ≤ w.heap.size) : Low N w' A' s' := fun k hk => by
  by_cases hl : k < w.heap.size
  · exact h k (hf.grows k hl hk)
  · omega

theorem Fz.below {N : Nat} {w w' : World} {A A' : Wa} {s s' : Wd} (hf : Fz A s w A' s' w') (h : Low N w A s) (hQ : A.Q < w.heap.size) : Below N w w' :=
  ⟨hf.os, hf.tape, hf.output, hf.size, fun k hk => hf.blk k (by have := h A.Q (.Q rfl); omega) (fun q => by have := h k q; omega) (fun q => by have := h A.Q (.Q rfl); omega)⟩

theorem Nb.low {w wr : World} {Q G n : Nat} {tob tv td : Int} {c m : Nat → Nat} (h : Nb w wr Q G n n tob tv td c m) (hG : w.heap.size ≤ G) (hQ : w.heap.size ≤ Q) (a : Ad) : Low w.heap.size wr ⟨Q, G, c, m, a⟩ (Wd.bare tob tv td n) := fun k hk => by
  rcases hk with q | q | ⟨v, q1, q2⟩ | ⟨i, hi, q⟩ | ⟨i, hi, q⟩ | ⟨q, _⟩
  · rw [q]; exact hQ
  · rw [q]; exact hG
  · rw [h.cell 12410, wcells_other _ _ _ _ _ _ (by omega) (by omega), wz_end 7] at q1
    have e : v = .slice none 0 0 := (Option.some.inj q1).symm
    rw [e] at q2
    cases q2
  · have := h.lo i hi; rw [q]; show w.heap.size ≤ c i; omega
  · have := h.lo i hi; rw [q]; show w.heap.size ≤ m i; omega
  · cases q

theorem fill_two (z : Array Value) (hz : z.size = 12412) (tob tv td : Int) (G n : Nat) : Instr.fill (fun x => ([(0, 3), (3, 12402), (12405, 2), (12407, 1), (12408, 1), (12409, 1), (12410, 1), (12411, 1)] : List (Nat × Nat)).toArray[x]?) z [(0, .agg #[.int .i64 tob, .int .i64 tv, .int .i64 td]), (5, .slice (some ⟨G, 0, none⟩) n n)] = some (wcells z tob tv td G n) := by
  simp [Instr.fill, Value.cells, hz, wcells]

set_option maxRecDepth 100000 in
theorem built_world (tob tv td : Int) (G n : Nat) : Tryz.prog.built 75 [(0, .agg #[.int .i64 tob, .int .i64 tv, .int .i64 td]), (5, .slice (some ⟨G, 0, none⟩) n n)] = some (wcells Tryz.zeroCells75 tob tv td G n) := by
  have hi : (Tryz.prog.info? 75).map (·.zero) = some (some (.agg Tryz.zeroCells75)) := by kernel_rfl
  obtain ⟨it, h1, h2⟩ := Option.map_eq_some_iff.1 hi
  unfold Program.built
  rw [h1, Tryz.underlying75]
  dsimp only
  rw [h2]
  generalize hg : List.mapM (m := Option) (β := Nat × Nat) _ _ = r
  have hr : r = some [(0, 3), (3, 12402), (12405, 2), (12407, 1), (12408, 1), (12409, 1), (12410, 1), (12411, 1)] := by rw [← hg]; kernel_rfl
  rw [hr]
  exact fill_two _ wz_size tob tv td G n

theorem wp_buildIs {o : Oper} {a : Act} {w : World} {K : Act → World → Prop} {Q : Exit → Act → World → Prop} (t : TypeId) (parts : Array (Nat × Operand)) (ho : o.op = .build t parts) (cells : Array Value) (hf : Tryz.prog.built t (parts.map fun (i, x) => (i, a.eval x)).toList = some cells) (h : K (a.put o.dst (.agg cells)) w) : o.wp Tryz.prog a w K Q :=
  wp_build t parts ho (by rw [hf]; rfl) (by rw [hf]; exact h)

set_option maxHeartbeats 4000000 in
set_option maxRecDepth 100000 in
theorem newW_any (tob tv td : Int) (n : Nat) (w : World) (n1 : 1 ≤ n) (n4 : n ≤ 4) (h1 : 1 ≤ tv) (h2 : tv ≤ tob) (h3 : tob ≤ 274877906944) (h4 : 0 ≤ td) (h5 : td ≤ 500) :
    Calls Tryz.prog 15 #[.agg #[.int .i64 tob, .int .i64 tv, .int .i64 td], .int .i64 n] w fun e w' => ∃ A, e = .returned (.tuple #[tp A.Q, .nilIface]) ∧ WdIs w' A (Wd.bare tob tv td n).start ∧ Below w.heap.size w w' ∧ Low w.heap.size w' A (Wd.bare tob tv td n).start := by
  go_enter Tryz.func15, Tryz.ntmps15
  go_upto_region 1 with fail
  generalize hW : w.alloc (.cells #[.int .i64 tob, .int .i64 tv, .int .i64 td] 32) = w1
  have hb1 : Below w.heap.size w w1 := by rw [← hW]; exact (Below.refl _ _).alloc (Nat.le_refl _) _
  have hs1 : w1.heap.size = w.heap.size + 1 := by rw [← hW]; simp
  have t0 : w1.cell? ⟨w.heap.size, 0, none⟩ = some (.int .i64 tob) := by rw [← hW]; exact cell_of_row _ _ _ _ _ _ (heap_alloc_new w _)
  have t1 : w1.cell? ⟨w.heap.size, 1, none⟩ = some (.int .i64 tv) := by rw [← hW]; exact cell_of_row _ _ _ _ _ _ (heap_alloc_new w _)
  have t2 : w1.cell? ⟨w.heap.size, 2, none⟩ = some (.int .i64 td) := by rw [← hW]; exact cell_of_row _ _ _ _ _ _ (heap_alloc_new w _)
  clear hW
  have hmay := mayW_any tob tv td w1 h1 h2 h3 h4 h5
  have g1 : ¬ (n : Int) < 1 := by omega
  have g4 : ¬ (4 : Int) < (n : Int) := by omega
  go_wp2_with fail
  refine hmay.mono ?_
  rintro e w2 ⟨rfl, hb2, hs2⟩
  have s0 := (hb2.cell (p := ⟨w.heap.size, 0, none⟩) (by dsimp only; omega)).trans t0
  have s1 := (hb2.cell (p := ⟨w.heap.size, 1, none⟩) (by dsimp only; omega)).trans t1
  have s2 := (hb2.cell (p := ⟨w.heap.size, 2, none⟩) (by dsimp only; omega)).trans t2
  have HS : Hid (w2.heap.size = w.heap.size + 2) := (by omega : w2.heap.size = w.heap.size + 2)
  have hbw2 : Below w.heap.size w w2 := hb1.trans (hb2.mono (by omega))
  clear hmay t0 t1 t2 hs1 hs2 hb1 hb2
  go_upto_region 3 with fail
  refine Gen.start (S := fun w' => w'.cell? ⟨w.heap.size, 0, none⟩ = some (.int .i64 tob) ∧ w'.cell? ⟨w.heap.size, 1, none⟩ = some (.int .i64 tv) ∧ w'.cell? ⟨w.heap.size, 2, none⟩ = some (.int .i64 td)) (by kernel_rfl) ⟨s0, s1, s2⟩ (fun hHeld => ?_)
  refine Gen.tk 0 3 ?_ rfl rfl (Or.inl ⟨by rfl, ?_⟩) hHeld ?_
  rotate_left
  · intro w' hSw
    obtain ⟨s0, s1, s2⟩ := hSw
    go_simp
    try with_reducible rfl
  go_frame
  refine Gen.tk 1 2 ?_ rfl rfl (Or.inl ⟨by rfl, ?_⟩) hHeld ?_
  rotate_left
  · intro w' hSw
    go_simp
    try with_reducible rfl
  go_frame
  refine Gen.one (i := 2) (by kernel_rfl) rfl rfl (fun K hK => ?_)
  have hmk := make_seats n n1 n4 w2.drew
  go_simp
  have hS2 := HS.out
  have cs : ∀ i, i < 3 → ∀ u, w2.cell? ⟨w.heap.size, i, none⟩ = some u → (w2.alloc (.cells (zseats n).toArray 84)).drew.cell? ⟨w.heap.size, i, none⟩ = some u := fun i _ u hu => (World.cell?_alloc_lt w2 _ ⟨w.heap.size, i, none⟩ (by dsimp only; omega)).trans hu
  clear hS2
  refine hK.out _ _ ⟨cs 0 (by omega) _ s0, cs 1 (by omega) _ s1, cs 2 (by omega) _ s2⟩ (fun hHeld => ?_)
  clear hK K cs
  try go_frame
  refine Gen.one (i := 3) (by kernel_rfl) rfl rfl (fun K hK => ?_)
  refine wp_buildIs 75 #[(0, .tmp 20), (5, .tmp 22)] rfl (wcells Tryz.zeroCells75 tob tv td w2.heap.size n) ?_ ?_
  · have hbw := built_world tob tv td w2.heap.size n
    simpa [Act.eval] using hbw
  refine hK.out _ _ hHeld (fun hHeld => ?_)
  clear hK K
  try go_frame
  refine Gen.one (i := 4) (by kernel_rfl) rfl rfl (fun K hK => ?_)
  obtain ⟨zc, hzc⟩ : ∃ zc, wcells Tryz.zeroCells75 tob tv td w2.heap.size n = zc := ⟨_, rfl⟩
  have HZ : Hid (wcells Tryz.zeroCells75 tob tv td w2.heap.size n = zc) := hzc
  rw [hzc]
  clear hzc
  go_simp
  obtain ⟨G, hG⟩ : ∃ G, w2.heap.size = G := ⟨_, rfl⟩
  rw [hG] at HZ HS
  rw [hG]
  have hS2 := HS.out
  have HN : Hid (Nb w ((w2.alloc (.cells (zseats n).toArray 84)).alloc (.cells zc 75)).drew (G + 1) G n 0 tob tv td (fun _ => 0) (fun _ => 0)) := by
    have bl : Below w.heap.size w ((w2.alloc (.cells (zseats n).toArray 84)).alloc (.cells zc 75)).drew := ((hbw2.alloc (by omega) _).alloc (by simp; omega) _).drew
    have eG : ((w2.alloc (.cells (zseats n).toArray 84)).alloc (.cells zc 75)).drew.heap[G]? = some (.cells (zseats n).toArray 84) := by
      have hbb := (Below.refl (w2.alloc (.cells (zseats n).toArray 84)).heap.size (w2.alloc (.cells (zseats n).toArray 84))).alloc (Nat.le_refl _) (.cells zc 75)
      have e1 := hbb.block w2.heap.size (by simp)
      rw [heap_alloc_new] at e1
      rw [← hG]
      exact e1
    have eQ : ((w2.alloc (.cells (zseats n).toArray 84)).alloc (.cells zc 75)).drew.heap[G + 1]? = some (.cells zc 75) := by
      have e1 := heap_alloc_new (w2.alloc (.cells (zseats n).toArray 84)) (.cells zc 75)
      rw [show (w2.alloc (.cells (zseats n).toArray 84)).heap.size = G + 1 by rw [← hG]; simp] at e1
      exact e1
    have cG : ∀ i, ((w2.alloc (.cells (zseats n).toArray 84)).alloc (.cells zc 75)).drew.cell? ⟨G, i, none⟩ = (zseats n)[i]? := fun i => by
      rw [cell_of_row _ _ _ _ _ _ eG, List.getElem?_toArray]
    refine ⟨bl, by rw [HZ.out]; exact eQ, ⟨_, _, eG⟩, fun i => by simp [World.frozen?, eG], fun i hi => by omega, fun i _ hi => ?_, fun i hi => by omega, fun i hi => by omega, fun i j hi => by omega⟩
    have hz := zseats_at n i hi
    exact ⟨(cG _).trans hz.1, (cG _).trans hz.2.1, (cG _).trans hz.2.2.1, (cG _).trans hz.2.2.2⟩
  have HT : Hid (((w2.alloc (.cells (zseats n).toArray 84)).alloc (.cells zc 75)).drew.cell? ⟨w.heap.size, 0, none⟩ = some (.int .i64 tob) ∧ ((w2.alloc (.cells (zseats n).toArray 84)).alloc (.cells zc 75)).drew.cell? ⟨w.heap.size, 1, none⟩ = some (.int .i64 tv) ∧ ((w2.alloc (.cells (zseats n).toArray 84)).alloc (.cells zc 75)).drew.cell? ⟨w.heap.size, 2, none⟩ = some (.int .i64 td)) := by
    have hb4 : Below w2.heap.size w2 ((w2.alloc (.cells (zseats n).toArray 84)).alloc (.cells zc 75)).drew := (((Below.refl w2.heap.size w2).alloc (Nat.le_refl _) _).alloc (by simp) _).drew
    exact ⟨(hb4.cell (p := ⟨w.heap.size, 0, none⟩) (by dsimp only; omega)).trans s0, (hb4.cell (p := ⟨w.heap.size, 1, none⟩) (by dsimp only; omega)).trans s1, (hb4.cell (p := ⟨w.heap.size, 2, none⟩) (by dsimp only; omega)).trans s2⟩
  generalize ((w2.alloc (.cells (zseats n).toArray 84)).alloc (.cells zc 75)).drew = w3 at *
  clear hG hS2 hbw2 s0 s1 s2 HZ hmk
  refine hK.out _ _ HT.out (fun hHeld => ?_)
  clear hK K HT
  try go_frame
  refine Gen.last (i := 5) (by kernel_rfl) rfl rfl (by kernel_rfl) (by kernel_rfl) (fun K hK => ?_)
  go_simp
  refine hK.out _ _ ?_
  clear hK K hHeld
  have sts : w3.cell? ⟨G + 1, 12409, none⟩ = some (.slice (some ⟨G, 0, none⟩) n n) := (HN.out.cell 12409).trans (wcells_s ..)
  go_wp2_with fail
  go_loopw [30] (fun i wr => ∃ (k : Nat) (c m : Nat → Nat), k ≤ n ∧ i = .int .i64 k ∧ Nb w wr (G + 1) G n k tob tv td c m) (fun i _ => n - (intOf i).toNat)
  case atStart => exact ⟨0, _, _, by omega, rfl, HN.out⟩
  case round =>
    obtain ⟨k, c, m, hk, rfl, N⟩ := hrel
    by_cases hlt : k < n
    · have r := N.rest k (by omega) hlt
      have hS2 := HS.out
      have hen := enter_low (G + 1) G n k tob tv td 0 wr ((N.cell 12409).trans (wcells_s ..)) ((N.cell 0).trans (wcells_0 ..)) ((N.cell 1).trans (wcells_1 ..)) ((N.cell 2).trans (wcells_2 ..)) hlt n4 _ _ _ r.1 r.2.2.1 r.2.2.2 N.gf (by omega) (by omega) (by omega) (by omega) h4 h5 (by omega) (by omega)
      rw [show (0 : Int) * 4 + (k : Int) = k by omega] at hen
      have hkI : (k : Int) < (n : Int) := by omega
      have hkI0 : (0 : Int) ≤ (k : Int) := by omega
      have HX : Hid (∀ w2 x q, Below wr.heap.size wr w2 → CliIs w2 x q (K.new k (short td tob) (short td tv)) → wr.heap.size ≤ x → wr.heap.size ≤ q → ∃ c m, Nb w (seated w2 G k x 0) (G + 1) G n (k + 1) tob tv td c m) := fun w2 x q a1 a2 a3 a4 => ⟨_, _, N.more hlt (by omega) (by omega) a1 a2 a3 a4⟩
      clear N r HN sts hS2
      go_wp2_with fail
      refine hen.mono ?_
      rintro e w7 ⟨rfl, x, q, w6, a1, a2, a3, a4, hw7⟩
      have HN7 : Hid (∃ c m, Nb w w7 (G + 1) G n (k + 1) tob tv td c m) := by rw [hw7]; exact HX.out w6 x q a1 a2 a3 a4
      clear HX hen a1 a2 hw7
      go_wp2_with fail
      go_roundw
      case rel =>
        obtain ⟨c', m', hN7⟩ := HN7.out
        exact ⟨k + 1, c', m', by omega, by go_num, hN7⟩
      case measure => simp [intOf]; omega
    · obtain rfl : k = n := by omega
      have hS2 := HS.out
      have hD := N.done n1 n4 ⟨0, 0, 0, 0, 0⟩
      have hL := N.low (by omega) (by omega) ⟨0, 0, 0, 0, 0⟩
      have hst := start_any ⟨G + 1, G, c, m, ⟨0, 0, 0, 0, 0⟩⟩ (Wd.bare tob tv td k) 0 wr hD rfl (WdB.bare h1 h2 h3 h4 h5) (by simp [Wd.bare]) (fun r hr => by simp [Wd.bare] at hr)
      have HX : Hid (∀ (a : Ad) w', WdIs w' ⟨G + 1, G, c, m, a⟩ (Wd.bare tob tv td k).start → Fz ⟨G + 1, G, c, m, ⟨0, 0, 0, 0, 0⟩⟩ (Wd.bare tob tv td k) wr ⟨G + 1, G, c, m, a⟩ (Wd.bare tob tv td k).start w' → Below w.heap.size w w' ∧ Low w.heap.size w' ⟨G + 1, G, c, m, a⟩ (Wd.bare tob tv td k).start) := fun a w' _ b2 => ⟨N.bl.trans (b2.below hL hD.lt), hL.step b2 N.bl.size⟩
      clear N HN sts hS2 hD hL
      go_wp2_with fail
      refine hst.mono ?_
      rintro e w7 ⟨rfl, a, d1, d2⟩
      have HF := HX.out a w7 d1 d2
      clear HX hst d2
      go_wp2_with fail
      exact bodyPost_ret (v := .tuple #[tp (G + 1), .nilIface]) (by simp [results, Tryz.results15, go_sem]) rfl ⟨⟨G + 1, G, c, m, a⟩, rfl, d1, HF.1, HF.2⟩

end Go.Proofs.YtbebfliimjjohaaGreatDoor.Wld
end
