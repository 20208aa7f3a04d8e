/-
  Parts of the proof: WldT WldU.
-/
import Derived.Test.YtbebfliimjjohaaGreatDoorLi35
namespace Go.Proofs.YtbebfliimjjohaaGreatDoor
section
namespace Wld
open Go.RowKit Go.Maps
open Lease (upd upd_same upd_other hol dels mx kk isH)
open Wal (R mayB timeB)
open Num (M okB)
theorem Inv.again {w : Wd} {H : List Hc} {L : List M} {B : Nat} (h : Inv w H L B) {s : Sv} (hs : w.sv = some s) : Inv (w.served s) H L B := h.still hs rfl rfl rfl (fun _ q => q) (fun _ q => .inl q)
theorem Inv.ss {H : List Hc} {B : Nat} (hB : H.length + B < 200) {T : Int} {s s' : Sv} {L L' : List M} (k : Ss T s L s' L') : ∀ {w : Wd}, w.clock = T → Inv w H L B → w.sv = some s → Inv (w.served s') H L' B := by
 induction k with
 | refl s L => exact fun _ h hs => h.again hs
 | head k1 _ ih =>
   intro w hT h hs
   subst hT
   exact ih (w := w.served _) rfl (h.s1 hB hs k1) rfl
theorem Inv.netted {w : Wd} {H : List Hc} {L : List M} {B : Nat} (h : Inv w H L B) {l : List (Int × M)} (hl : ∀ p ∈ l, p.2 ∈ L ∧ (p.2.k = 9 → p.1 = p.2.c)) : Inv { w with net := l } H L B :=
 ⟨h.n4, h.len, h.eh, h.an, h.bg, h.mo, h.bef, h.lol, h.hs, h.hd, h.hne, h.n1, hl, h.msg, h.sv, h.log, h.epc, fun k hk => ⟨(h.st k hk).id, (h.st k hk).l0, (h.st k hk).n0, (h.st k hk).num, (h.st k hk).liv, (h.st k hk).opn, (h.st k hk).isO, (h.st k hk).kept, (h.st k hk).seen⟩⟩
theorem Inv.put {w : Wd} {H : List Hc} {L : List M} {B : Nat} (h : Inv w H L B) (t : Int) {m : M} (hm : m ∈ L) (ht : m.k = 9 → t = m.c) : Inv (w.put t m) H L B := by
 unfold Wd.put
 split
 · exact h.netted fun p hp => by
     rcases List.mem_append.1 hp with q | q
     · exact h.net p q
     · rw [List.mem_singleton.1 q]; exact ⟨hm, ht⟩
 · exact h
theorem Inv.send {H : List Hc} {L : List M} {B : Nat} (t : Int) : ∀ (l : List M) {w : Wd}, Inv w H L B → (∀ m ∈ l, m ∈ L ∧ m.k ≠ 9) → Inv (w.send t l) H L B
 | [], _, h, _ => h
 | m :: l, _, h, hl => Inv.send t l (h.put t (hl m (by simp)).1 fun q => absurd q (hl m (by simp)).2) fun x hx => hl x (List.mem_cons_of_mem _ hx)
theorem Inv.tells {H : List Hc} {L : List M} {B : Nat} : ∀ (l : List M) {w : Wd}, Inv w H L B → (∀ m ∈ l, m ∈ L) → Inv (w.tells l) H L B
 | [], _, h, _ => h
 | m :: l, _, h, hl => Inv.tells l (h.put (seatN m.c : Nat) (hl m (by simp)) fun q => by
     have := (h.msg m (hl m (by simp))).iv q
     rw [seatN_eq]
     omega) fun x hx => hl x (List.mem_cons_of_mem _ hx)
theorem Inv.noSv {w : Wd} {H : List Hc} {L : List M} {B : Nat} (h : Inv w H L B) : Inv { w with sv := none } H L B :=
 ⟨h.n4, h.len, h.eh, h.an, h.bg, h.mo, h.bef, h.lol, h.hs, h.hd, h.hne, h.n1, h.net, h.msg, (fun s hs => by cases hs), h.log, h.epc, fun k hk => ⟨(h.st k hk).id, (h.st k hk).l0, (h.st k hk).n0, (h.st k hk).num, (h.st k hk).liv, (h.st k hk).opn, (h.st k hk).isO, (h.st k hk).kept, (h.st k hk).seen⟩⟩
theorem Inv.fallen {w : Wd} {H : List Hc} {L : List M} {B : Nat} (h : Inv w H L B) : Inv w.fallen H L B := by
 unfold Wd.fallen
 split
 · exact h
 · split
   · exact h.noSv
   · exact h
theorem Inv.answer {w : Wd} {H : List Hc} {L : List M} {B : Nat} (h : Inv w H L B) (hB : H.length + B < 200) {s : Sv} (hs : w.sv = some s) {r : Sv × List M} (hr : Ss w.clock s L r.1 (L ++ r.2)) : Inv (w.answer r) H (L ++ r.2) B :=
 (Inv.tells r.2 (Inv.ss hB hr rfl h hs) fun _ hm => List.mem_append_right _ hm).fallen
theorem Inv.stepped {w : Wd} {H : List Hc} {L : List M} {B : Nat} (h : Inv w H L B) : Inv { w with step := w.step + 1 } H L B :=
 ⟨h.n4, h.len, h.eh, h.an, fun e he => by
   have := h.bg e he
   exact ⟨this.1, by show e.began ≤ w.step + 1; omega, this.2.2.1, by show e.ended ≤ w.step + 1; omega⟩, h.mo, h.bef, h.lol, h.hs, h.hd, h.hne, h.n1, h.net, h.msg, h.sv, h.log, h.epc, fun k hk => ⟨(h.st k hk).id, (h.st k hk).l0, (h.st k hk).n0, (h.st k hk).num, (h.st k hk).liv, (h.st k hk).opn, (h.st k hk).isO, (h.st k hk).kept, (h.st k hk).seen⟩⟩
theorem Inv.lose {w : Wd} {H : List Hc} {L : List M} {B : Nat} (h : Inv w H L B) (k : Nat) : Inv (w.lose k) H L B := h.netted fun p hp => h.net p (List.mem_of_mem_eraseIdx hp)
theorem Inv.twice {w : Wd} {H : List Hc} {L : List M} {B : Nat} (h : Inv w H L B) (k : Nat) : Inv (w.twice k) H L B := by
 unfold Wd.twice
 split
 · exact h
 · rename_i p hp
   split
   · exact h.netted fun q hq => by
       rcases List.mem_append.1 hq with x | x
       · exact h.net q x
       · rw [List.mem_singleton.1 x]; exact h.net p (List.mem_of_getElem? hp)
   · exact h
theorem Inv.crash {w : Wd} {H : List Hc} {L : List M} {B : Nat} (h : Inv w H L B) : Inv w.crash H L B := h.stepped.noSv
theorem Inv.failing {w : Wd} {H : List Hc} {L : List M} {B : Nat} (h : Inv w H L B) (x t : Int) : Inv (w.failing x t) H L B := by
 unfold Wd.failing
 split
 · exact ⟨h.n4, h.len, h.eh, h.an, h.bg, h.mo, h.bef, h.lol, h.hs, h.hd, h.hne, h.n1, h.net, h.msg, h.sv, h.log, h.epc, fun k hk => ⟨(h.st k hk).id, (h.st k hk).l0, (h.st k hk).n0, (h.st k hk).num, (h.st k hk).liv, (h.st k hk).opn, (h.st k hk).isO, (h.st k hk).kept, (h.st k hk).seen⟩⟩
 · rename_i s hs
   exact h.still hs rfl rfl rfl (fun _ q => q) (fun _ q => .inl q)
theorem Inv.gone {w : Wd} {H : List Hc} {L : List M} {B : Nat} (h : Inv w H L B) (b : Int) (f : Nat → Int) : Inv (w.gone b f) H L B := by
 have h := h.stepped
 exact ⟨h.n4, h.len, h.eh, h.an, h.bg, h.mo, h.bef, h.lol, h.hs, h.hd, h.hne, h.n1, h.net, h.msg, h.sv, h.log, h.epc, fun k hk => ⟨(h.st k hk).id, (h.st k hk).l0, (h.st k hk).n0, (h.st k hk).num, (h.st k hk).liv, (h.st k hk).opn, (h.st k hk).isO, (h.st k hk).kept, (h.st k hk).seen⟩⟩
theorem new_is (to' tv td now : Int) (rs : List R) (hl : rs.length < 200) : ∃ e, (logL rs).ep + 1 = e ∧ (Sv.new to' tv td rs false 0 now).rs = rs ++ [epochR e] ∧ (Sv.new to' tv td rs false 0 now).l4 = logL (rs ++ [epochR e]) ∧ (Sv.new to' tv td rs false 0 now).waits = (fun _ => []) ∧ (Sv.new to' tv td rs false 0 now).down = false ∧ (Sv.new to' tv td rs false 0 now).epoch = e ∧ (Sv.new to' tv td rs false 0 now).ses = (fun _ => 0) ∧ (Sv.new to' tv td rs false 0 now).vol = (fun _ => 0) ∧ (Sv.new to' tv td rs false 0 now).D = .map [] ∧ (Sv.new to' tv td rs false 0 now).ready = (if 0 < (logL rs).ep then now + tv else 0) ∧ (Sv.new to' tv td rs false 0 now).to = to' ∧ (Sv.new to' tv td rs false 0 now).tv = tv ∧ (Sv.new to' tv td rs false 0 now).fails = false ∧ (Sv.new to' tv td rs false 0 now).left = 0 := by
 have hz := foldl_l4 rs (Sv.zero to' tv td rs false 0)
 have hk := applied_all rs (Sv.zero to' tv td rs false 0)
 have hrs : (Sv.opened to' tv td rs false 0).rs = rs := by
   have : ∀ (l : List R) (s : Sv), (l.foldl Sv.applied s).rs = s.rs := fun l => by
     induction l with
     | nil => exact fun _ => rfl
     | cons r l ih => exact fun s => (ih _).trans (applied_rs s r)
   exact this rs _
 obtain ⟨s, hs⟩ : ∃ s : Sv, s = Sv.opened to' tv td rs false 0 := ⟨_, rfl⟩
 have hl4 : s.l4 = logL rs := by rw [hs]; exact hz
 have hep : s.epoch = (logL rs).ep := congrArg L4.ep hl4
 have hk' : s.to = to' ∧ s.tv = tv ∧ s.td = td ∧ s.down = false ∧ s.fails = false ∧ s.left = 0 ∧ s.waits = (fun _ => []) ∧ s.ready = 0 ∧ s.torn = 0 ∧ s.D = .map [] ∧ s.vol = (fun _ => 0) ∧ s.ses = (fun _ => 0) := by
   rw [hs]
   obtain ⟨a1, a2, a3, a4, a5, a6, a7, a8, a9, a10, a11, a12, _⟩ := hk
   exact ⟨a1, a2, a3, a4, a5, a6, a7, a8, a9, a10, a11, a12⟩
 obtain ⟨a1, a2, a3, a4, a5, a6, a7, a8, a9, a10, a11, a12⟩ := hk'
 rw [← hs] at hrs
 have hnew : Sv.new to' tv td rs false 0 now = { s.readied now with rs := s.rs ++ [epochR (s.epoch + 1)], left := 0 } := by
   unfold Sv.new
   rw [← hs]
   unfold Sv.add
   rw [if_neg (show ¬ (s.readied now).down = true by show ¬ s.down = true; rw [a4]; decide), if_neg (show ¬ (s.readied now).rs.length = 200 by show ¬ s.rs.length = 200; rw [hrs]; omega), if_neg (show ¬ ((s.readied now).fails = true ∧ (s.readied now).left = 0) by show ¬ (s.fails = true ∧ s.left = 0); rw [a5]; simp)]
   have e1 : (s.readied now).fails = false := a5
   have e2 : (s.readied now).left = 0 := a6
   dsimp only
   rw [e1, e2]
   rfl
 rw [hnew]
 refine ⟨s.epoch + 1, by rw [hep], by rw [hrs], ?_, a7, a4, rfl, a12, a11, a10, ?_, a1, a2, a5, rfl⟩
 · rw [logL_app, ← hl4]; rfl
 · show (if 0 < s.epoch then now + s.tv else s.ready) = _
   rw [hep, a2, a8]
theorem Inv.start {w : Wd} {H : List Hc} {L : List M} {B : Nat} (h : Inv w H L B) (hB : H.length + B < 200) : Inv w.start H L (B + 1) := by
 have hroom := h.room
 obtain ⟨e, he, h1, h2, h3, _⟩ := new_is w.to w.tv w.td w.clock w.rs (by omega)
 have hlog : LogIs H (w.rs ++ [epochR e]) (logL (w.rs ++ [epochR e])) := by rw [logL_app]; exact h.log.epoch e (by omega)
 refine h.serve (s' := Sv.new w.to w.tv w.td w.rs false 0 w.clock) (fun r hr => by rw [h1]; exact List.mem_append_left _ hr) (fun o => by rw [h1, logL_app]; exact Int.le_refl _) ?_ (by rw [h1]; exact hlog) ?_ (fun _ q => q) (fun _ q => .inl q)
 · exact ⟨by rw [h1]; exact h2, fun o m hm => by rw [h3] at hm; simp at hm, fun o m hm => by rw [h3] at hm; simp at hm, fun o => by rw [h3]; simp⟩
 · rw [h1, List.filter_append, List.length_append]
   have := h.epc
   have : ([epochR e].filter fun r => decide (r.o < 0)).length ≤ 1 := List.length_filter_le _ _
   omega
end Wld
end
section
namespace Wld
open Go.RowKit Go.Maps
open Lease (upd upd_same upd_other hol dels mx kk isH)
open Cache (E era putL)
open Wal (R mayB timeB)
open Num (M okB)
theorem get_modify (l : List Ev) (i j : Nat) (f : Ev → Ev) : (l.modify i f)[j]? = if i = j then (l[j]?).map f else l[j]? := by
 rw [List.getElem?_modify]
 split <;> simp
structure KNext (w : Wd) (k : Nat) (c : K) : Prop where
 id : c.id = (w.seat k).k.id
 num : c.num = (w.seat k).k.num
 kind : c.kind = (w.seat k).k.kind
 cob : c.cob = (w.seat k).k.cob
 d : (w.seat k).k.kind = 2 → c.d = (w.seat k).k.d
 kept : ∀ x ∈ c.kept, IsVal w.rs x.o x.v x.d
 seen : ∀ o, (w.seat k).k.seen o ≤ c.seen o
 how : c.over = (w.seat k).k.over ∨ ((w.seat k).k.isOpen = true ∧ c.over = true ∧ c.ver ≤ c.seen c.cob ∧ ((w.seat k).k.kind = 1 → IsVal w.rs c.cob c.ver c.d ∧ (w.seat k).k.seen c.cob ≤ c.ver) ∧ ((w.seat k).k.kind = 2 → ∃ r ∈ w.rs, 0 ≤ r.o ∧ r.c = c.id ∧ r.n = c.num ∧ r.v = c.ver))
theorem setK_seat (w : Wd) (k j : Nat) (c : K) : (w.setK k c).seat j = if j = k then { w.seat k with k := c } else w.seat j := rfl
def Wd.wrote (w : Wd) (k : Nat) (c : K) : Wd := { w with events := w.events.modify (w.seat k).call.toNat fun e => e.noted c w.step, seat := updN w.seat k ⟨c, (w.seat k).clock, (w.seat k).life, if c.over = true then -1 else (w.seat k).call⟩ }
theorem note_shut (w : Wd) (k : Nat) (c : K) (h : (w.seat k).call < 0) : (w.setK k c).note k = w.setK k c := by
 unfold Wd.note
 rw [if_pos (by rw [setK_seat, if_pos rfl]; exact h)]
theorem note_open (w : Wd) (k : Nat) (c : K) (h : ¬ (w.seat k).call < 0) : (w.setK k c).note k = w.wrote k c := by
 unfold Wd.note Wd.wrote
 have e : (w.setK k c).seat k = { w.seat k with k := c } := by rw [setK_seat, if_pos rfl]
 rw [if_neg (by rw [e]; exact h), e]
 have : updN (w.setK k c).seat k (⟨c, (w.seat k).clock, (w.seat k).life, if c.over = true then -1 else (w.seat k).call⟩ : St) = updN w.seat k ⟨c, (w.seat k).clock, (w.seat k).life, if c.over = true then -1 else (w.seat k).call⟩ := by
   funext j
   unfold updN
   split
   · rfl
   · rename_i hj; rw [setK_seat, if_neg hj]
 dsimp only at this ⊢
 rw [this]
 rfl
theorem K.isOpen_iff (k : K) : k.isOpen = true ↔ k.kind ≠ 0 ∧ k.over = false := by unfold K.isOpen; simp
theorem Inv.setK {w : Wd} {H : List Hc} {L : List M} {B : Nat} (h : Inv w H L B) {k : Nat} (hk : k < w.n) {c : K} (hc : KNext w k c) (ho : c.over = (w.seat k).k.over) : Inv (w.setK k c) H L B := by
 have hop : c.isOpen = (w.seat k).k.isOpen := by unfold K.isOpen; rw [hc.kind, ho]
 refine ⟨h.n4, h.len, h.eh, h.an, h.bg, h.mo, h.bef, h.lol, h.hs, h.hd, h.hne, h.n1, h.net, h.msg, h.sv, h.log, h.epc, fun j hj => ?_⟩
 by_cases e : j = k
 · subst e
   have hs := h.st j hj
   have es : (w.setK j c).seat j = { w.seat j with k := c } := by rw [setK_seat, if_pos rfl]
   refine ⟨by rw [es]; exact hc.id.trans hs.id, by rw [es]; exact hs.l0, by rw [es]; show 0 ≤ c.num; rw [hc.num]; exact hs.n0, ?_, ?_, ?_, by rw [es]; exact hop.trans hs.isO, by rw [es]; exact hc.kept, ?_⟩
   · rw [es]; intro g hg e1; show g.n ≤ c.num; rw [hc.num]; exact hs.num g hg (e1.trans hc.id)
   · rw [es]; intro g hg e1; show g.c ≤ c.id; rw [hc.id]; exact hs.liv g hg e1
   · rw [es]
     intro h0
     obtain ⟨x, g, a1, a2, a3, a4, a5, a6, a7, a8⟩ := hs.opn h0
     exact ⟨x, g, a1, a2, a3.trans hc.id.symm, a4.trans hc.num.symm, a5.trans hc.kind.symm, a6.trans hc.cob.symm, fun q => (a7 q).trans (hc.d (a5.symm.trans q)).symm, a8⟩
   · rw [es]; intro x hx e1 e2 e3; exact Int.le_trans (hs.seen x hx e1 e2 e3) (hc.seen _)
 · have hs := h.st j hj
   have es : (w.setK k c).seat j = w.seat j := by rw [setK_seat, if_neg e]
   exact ⟨by rw [es]; exact hs.id, by rw [es]; exact hs.l0, by rw [es]; exact hs.n0, by rw [es]; exact hs.num, by rw [es]; exact hs.liv, by rw [es]; exact hs.opn, by rw [es]; exact hs.isO, by rw [es]; exact hs.kept, by rw [es]; exact hs.seen⟩
theorem Inv.lastOne {w : Wd} {H : List Hc} {L : List M} {B : Nat} (h : Inv w H L B) {k : Nat} (hk : k < w.n) {i j : Nat} {a b : Hc} (ha : H[i]? = some a) (hb : H[j]? = some b) (hij : i < j) (e1 : a.c = (w.seat k).k.id) (e2 : a.n = (w.seat k).k.num) (e3 : b.c = a.c) : False := by
 obtain ⟨hi, hi'⟩ := List.getElem?_eq_some_iff.1 ha
 obtain ⟨hj, hj'⟩ := List.getElem?_eq_some_iff.1 hb
 have h1 := List.pairwise_iff_getElem.1 h.hs i j hi hj hij
 rw [hi', hj'] at h1
 have h2 := h1 e3.symm
 have h3 := (h.st k hk).num b (List.mem_of_getElem? hb) (e3.trans e1)
 omega
theorem Inv.noted {w : Wd} {H : List Hc} {L : List M} {B : Nat} (h : Inv w H L B) {k : Nat} (hk : k < w.n) {c : K} (hc : KNext w k c) : Inv ((w.setK k c).note k) H L B := by
 have hs := h.st k hk
 by_cases hcall : (w.seat k).call < 0
 · rw [note_shut w k c hcall]
   refine h.setK hk hc ?_
   rcases hc.how with q | q
   · exact q
   · rw [hs.isO] at q
     have := of_decide_eq_true q.1
     omega
 · rw [note_open w k c hcall]
   obtain ⟨e0, g0, a1, a2, a3, a4, a5, a6, a7, a8⟩ := hs.opn (by omega)
   obtain ⟨i, hi⟩ : ∃ i : Nat, i = (w.seat k).call.toNat := ⟨_, rfl⟩
   rw [← hi] at a1 a2
   have hopen : (w.seat k).k.isOpen = true := by rw [hs.isO]; exact decide_eq_true (by omega)
   have hov : (w.seat k).k.over = false := ((K.isOpen_iff _).1 hopen).2
   have hE := h.eh i e0 g0 a1 a2
   have hidk : ∀ x ∈ w.events, ∀ g, EvH w.n x g → (g.c = (w.seat k).k.id ↔ x.client = k ∧ x.life = (w.seat k).life) := fun x _ g hx => by
     have h1 := hx.c
     have h2 := hx.c0
     have h3 := hx.c4
     have h4 := hs.id
     have h5 := h.n4
     omega
   have hck := (hidk e0 (List.mem_of_getElem? a1) g0 hE).1 a3
   obtain ⟨e', he'⟩ : ∃ e', e' = e0.noted c w.step := ⟨_, rfl⟩
   have hget : ∀ j x, (w.wrote k c).events[j]? = some x → (j = i ∧ x = e') ∨ (j ≠ i ∧ w.events[j]? = some x) := fun j x hx => by
     have hx' : (w.events.modify (w.seat k).call.toNat fun e => e.noted c w.step)[j]? = some x := hx
     rw [get_modify, ← hi] at hx'
     split at hx'
     · rename_i q; subst q; rw [a1] at hx'; left; refine ⟨rfl, ?_⟩; rw [he']; exact (Option.some.inj hx').symm
     · rename_i q; exact .inr ⟨fun p => q p.symm, hx'⟩
   have hput : ∀ j x, w.events[j]? = some x → (w.wrote k c).events[j]? = some (if j = i then e' else x) := fun j x hx => by
     show (w.events.modify (w.seat k).call.toNat fun e => e.noted c w.step)[j]? = _
     rw [get_modify, ← hi]
     by_cases q : i = j
     · subst q; rw [if_pos rfl, if_pos rfl, a1, he']; rfl
     · rw [if_neg q, if_neg (fun p => q p.symm), hx]
   have hmem : ∀ x ∈ (w.wrote k c).events, x = e' ∨ x ∈ w.events := fun x hx => by
     obtain ⟨j, hj⟩ := List.getElem?_of_mem hx
     exact (hget j x hj).imp (fun q => q.2) fun q => List.mem_of_getElem? q.2
   have n1 : e'.client = e0.client ∧ e'.life = e0.life ∧ e'.began = e0.began ∧ e'.kind = c.kind ∧ e'.obj = c.cob ∧ e'.d = c.d ∧ e'.ver = c.ver ∧ e'.ended = if c.over = true then w.step else 0 := by
     rw [he']; exact ⟨rfl, rfl, rfl, rfl, rfl, rfl, rfl, by unfold Ev.noted; dsimp only; rw [a8]⟩
   obtain ⟨b1, b2, b3, b4, b5, b6, b7, b8⟩ := n1
   have hbg0 := h.bg e0 (List.mem_of_getElem? a1)
   have hE' : EvH w.n e' g0 := ⟨by rw [b1, b2]; exact hE.c, by rw [b4, hc.kind]; exact a5, by rw [b5, hc.cob]; exact a6, fun q => by
     rw [b6, hc.d (by rw [← hc.kind, ← b4]; exact q)]; exact a7 (by rw [a5, ← hc.kind, ← b4]; exact q), by rw [b1]; exact hE.c0, by rw [b1]; exact hE.c4, by rw [b4, hc.kind, ← a5, hE.kd]; exact hE.kk, by rw [b5, hc.cob, ← a6, hE.o]; exact hE.o0, by rw [b5, hc.cob, ← a6, hE.o]; exact hE.o8, by rw [b2]; exact hE.l0⟩
   have hrel : ∀ x ∈ w.events, x.kind = 2 → ∃ y ∈ (w.wrote k c).events, y.kind = 2 ∧ y.obj = x.obj ∧ y.d = x.d ∧ y.began = x.began := fun x hx hx2 => by
     obtain ⟨j, hj⟩ := List.getElem?_of_mem hx
     have hp := hput j x hj
     by_cases q : j = i
     · subst q
       rw [a1] at hj
       have ex : e0 = x := Option.some.inj hj
       subst ex
       rw [if_pos rfl] at hp
       refine ⟨e', List.mem_of_getElem? hp, by rw [b4, hc.kind, ← a5, hE.kd]; exact hx2, by rw [b5, hc.cob, ← a6, hE.o], ?_, b3⟩
       have hk2 : (w.seat k).k.kind = 2 := by rw [← a5, hE.kd]; exact hx2
       rw [b6, hc.d hk2, ← a7 (a5.trans hk2)]
       exact hE.d hx2
     · rw [if_neg q] at hp
       exact ⟨x, List.mem_of_getElem? hp, hx2, rfl, rfl, rfl⟩
   have hover : e'.ended ≠ 0 → c.over = true ∧ e'.ended = w.step ∧ ((w.seat k).k.isOpen = true ∧ c.over = true ∧ c.ver ≤ c.seen c.cob ∧ ((w.seat k).k.kind = 1 → IsVal w.rs c.cob c.ver c.d ∧ (w.seat k).k.seen c.cob ≤ c.ver) ∧ ((w.seat k).k.kind = 2 → ∃ r ∈ w.rs, 0 ≤ r.o ∧ r.c = c.id ∧ r.n = c.num ∧ r.v = c.ver)) := fun q => by
     rw [b8] at q
     by_cases p : c.over = true
     · rw [if_pos p] at b8
       refine ⟨p, b8, ?_⟩
       rcases hc.how with r | r
       · rw [r, hov] at p; cases p
       · exact r
     · rw [if_neg p] at q; exact absurd rfl q
   refine ⟨h.n4, ?_, ?_, ?_, ?_, ?_, ?_, h.lol, h.hs, h.hd, h.hne, h.n1, h.net, h.msg, h.sv, h.log, h.epc, ?_⟩
   · show H.length = (w.events.modify _ _).length
     rw [List.length_modify]; exact h.len
   · intro j x g hx hg
     rcases hget j x hx with ⟨rfl, rfl⟩ | ⟨_, q⟩
     · rw [a2] at hg
       have : g0 = g := Option.some.inj hg
       subst this
       exact hE'
     · exact h.eh j x g q hg
   · intro j x g hx hg hn
     rcases hget j x hx with ⟨rfl, rfl⟩ | ⟨_, q⟩
     · rw [a2] at hg
       have : g0 = g := Option.some.inj hg
       subst this
       obtain ⟨p1, p2, _, _, p3, p4, p5⟩ := hover hn
       refine ⟨fun q => ?_, fun q => ?_⟩
       · have hk1 : (w.seat k).k.kind = 1 := by rw [← hc.kind, ← b4]; exact q
         obtain ⟨v1, v2⟩ := p4 hk1
         rw [b5, b7, b6]
         refine ⟨v1, fun hv => ?_⟩
         rcases v1 with v1 | ⟨r, hr, r0, r1, r2, r3⟩
         · omega
         · obtain ⟨_, g, hg, g1, g2, g3, g4, g5, _⟩ := h.log.wr r hr r0
           obtain ⟨j', hj'⟩ := List.getElem?_of_mem hg
           have hlt : j' < w.events.length := by rw [← h.len]; exact (List.getElem?_eq_some_iff.1 hj').1
           obtain ⟨y, hy⟩ : ∃ y, w.events[j']? = some y := ⟨_, List.getElem?_eq_getElem hlt⟩
           have hyE := h.eh j' y g hy hj'
           have hy2 : y.kind = 2 := hyE.kd.symm.trans g3
           obtain ⟨z, hz, z1, z2, z3, z4⟩ := hrel y (List.mem_of_getElem? hy) hy2
           have := h.bg y (List.mem_of_getElem? hy)
           exact ⟨z, hz, z1, by rw [z2, ← hyE.o, g4, r1], by rw [z3, ← hyE.d hy2, g5, r3], by omega⟩
       · have hk2 : (w.seat k).k.kind = 2 := by rw [← hc.kind, ← b4]; exact q
         obtain ⟨r, hr, r0, r1, r2, r3⟩ := p5 hk2
         exact ⟨r, hr, r0, by rw [r1, hc.id, a3], by rw [r2, hc.num, a4], by rw [r3, b7]⟩
     · exact (h.an j x g q hg hn).mono hrel fun _ p => p
   · intro x hx
     rcases hmem x hx with q | q
     · rw [q, b3, b8]
       refine ⟨hbg0.1, hbg0.2.1, ?_, ?_⟩
       · split
         · omega
         · omega
       · show _ ≤ w.step
         split
         · omega
         · omega
     · exact h.bg x q
   · intro i1 j1 x y hij hx hy k1 k2 c1 c2 c3 o1 o2
     rcases hget i1 x hx with ⟨p1, p2⟩ | ⟨p1, p2⟩ <;> rcases hget j1 y hy with ⟨q1, q2⟩ | ⟨q1, q2⟩
     · omega
     · exfalso
       have hjl : j1 < H.length := by rw [h.len]; exact (List.getElem?_eq_some_iff.1 q2).1
       have hg : H[j1]? = some H[j1] := List.getElem?_eq_getElem hjl
       have hyE := h.eh j1 y _ q2 hg
       refine h.lastOne hk a2 hg (by omega) a3 a4 ?_
       rw [hyE.c, hE'.c, ← p2, c1, c2]
     · have hxl : i1 < H.length := by rw [h.len]; exact (List.getElem?_eq_some_iff.1 p2).1
       obtain ⟨r1, r2, _, _, r3, r4, r5⟩ := hover (by rw [← q2]; exact o2)
       have hk1 : (w.seat k).k.kind = 1 := by rw [← hc.kind, ← b4, ← q2]; exact k2
       have h1 := hs.seen x (List.mem_of_getElem? p2) (by rw [c1, q2, b1]; exact hck.1) (by rw [c2, q2, b2]; exact hck.2) o1
       have h2 := (r4 hk1).2
       rw [c3, q2, b5] at h1
       rw [q2, b7]
       omega
     · exact h.mo i1 j1 x y hij p2 q2 k1 k2 c1 c2 c3 o1 o2
   · intro x hx hn j y g hy hg ho hb
     rcases hmem x hx with q | q
     · subst q
       obtain ⟨_, r2, _⟩ := hover hn
       have hyb : y.began ≤ w.step := by
         rcases hget j y hy with ⟨_, p2⟩ | ⟨_, p2⟩
         · rw [p2, b3]; exact hbg0.2.1
         · exact (h.bg y (List.mem_of_getElem? p2)).2.1
       omega
     · rcases hget j y hy with ⟨p1, p2⟩ | ⟨_, p2⟩
       · subst p1
         exact h.bef x q hn j e0 g a1 hg (by rw [ho, p2, b5, hc.cob, ← a6, hE.o]) (by rw [p2, b3] at hb; exact hb)
       · exact h.bef x q hn j y g p2 hg ho hb
   · intro j hj
     by_cases e : j = k
     · subst e
       have es : (w.wrote j c).seat j = ⟨c, (w.seat j).clock, (w.seat j).life, if c.over = true then -1 else (w.seat j).call⟩ := updN_same _ _ _
       refine ⟨by rw [es]; exact hc.id.trans hs.id, by rw [es]; exact hs.l0, by rw [es]; show 0 ≤ c.num; rw [hc.num]; exact hs.n0, ?_, ?_, ?_, ?_, by rw [es]; exact hc.kept, ?_⟩
       · rw [es]; intro g hg e1; show g.n ≤ c.num; rw [hc.num]; exact hs.num g hg (e1.trans hc.id)
       · rw [es]; intro g hg e1; show g.c ≤ c.id; rw [hc.id]; exact hs.liv g hg e1
       · rw [es]
         intro h0
         have hno : ¬ c.over = true := fun q => by
           have h0' : 0 ≤ (if c.over = true then -1 else (w.seat j).call) := h0
           rw [if_pos q] at h0'; omega
         have ec : (if c.over = true then -1 else (w.seat j).call) = (w.seat j).call := if_neg hno
         have hp := hput i e0 a1
         rw [if_pos rfl] at hp
         refine ⟨e', g0, ?_, ?_, a3.trans hc.id.symm, a4.trans hc.num.symm, a5.trans hc.kind.symm, a6.trans hc.cob.symm, fun q => (a7 q).trans (hc.d (a5.symm.trans q)).symm, by rw [b8, if_neg hno]⟩
         · show (w.wrote j c).events[(if c.over = true then -1 else (w.seat j).call).toNat]? = _
           rw [ec, ← hi]; exact hp
         · show H[(if c.over = true then -1 else (w.seat j).call).toNat]? = _
           rw [ec, ← hi]; exact a2
       · rw [es]
         show c.isOpen = decide (0 ≤ (if c.over = true then -1 else (w.seat j).call))
         have hkd : c.kind ≠ 0 := by rw [hc.kind]; exact ((K.isOpen_iff _).1 hopen).1
         unfold K.isOpen
         cases hov2 : c.over
         · rw [if_neg (by decide), decide_eq_true hkd, decide_eq_true (show 0 ≤ (w.seat j).call by omega)]; rfl
         · rw [if_pos rfl]; simp
       · rw [es]
         intro x hx e1 e2 e3
         show x.ver ≤ c.seen x.obj
         rcases hmem x hx with q | q
         · subst q
           obtain ⟨_, _, _, _, r3, _⟩ := hover e3
           rw [b7, b5]; exact r3
         · exact Int.le_trans (hs.seen x q e1 e2 e3) (hc.seen _)
     · have hsj := h.st j hj
       have es : (w.wrote k c).seat j = w.seat j := updN_other _ _ e
       refine ⟨by rw [es]; exact hsj.id, by rw [es]; exact hsj.l0, by rw [es]; exact hsj.n0, by rw [es]; exact hsj.num, by rw [es]; exact hsj.liv, ?_, by rw [es]; exact hsj.isO, by rw [es]; exact hsj.kept, ?_⟩
       · rw [es]
         intro h0
         obtain ⟨x, g, d1, d2, d3, d4⟩ := hsj.opn h0
         have hne : (w.seat j).call.toNat ≠ i := fun q => by
           rw [q, a2] at d2
           have : g0 = g := Option.some.inj d2
           subst this
           have h1 := hsj.id
           have h2 := hs.id
           have := h.n4
           have hj' : j < w.n := hj
           omega
         have hp := hput _ x d1
         rw [if_neg hne] at hp
         exact ⟨x, g, hp, d2, d3, d4⟩
       · rw [es]
         intro x hx e1 e2 e3
         rcases hmem x hx with q | q
         · exfalso
           rw [q, b1, hck.1] at e1
           omega
         · exact hsj.seen x q e1 e2 e3
theorem le_mx1 (a b : Int) : a ≤ mx a b := by unfold Lease.mx; split <;> omega
theorem le_mx2 (a b : Int) : b ≤ mx a b := by unfold Lease.mx; split <;> omega
theorem le_upd {f : Int → Int} {o x : Int} (h : f o ≤ x) (y : Int) : f y ≤ upd f o x y := by
 unfold Lease.upd
 split
 · rename_i e; rw [e]; exact h
 · exact Int.le_refl _
theorem SeatI.next {w : Wd} {H : List Hc} {k : Nat} (hs : SeatI w H k) : KNext w k (w.seat k).k := ⟨rfl, rfl, rfl, rfl, fun _ => rfl, hs.kept, fun _ => Int.le_refl _, .inl rfl⟩
theorem hear_next {w : Wd} {H : List Hc} {L : List M} {B : Nat} (h : Inv w H L B) {k : Nat} (hk : k < w.n) {m : M} (hm : m ∈ L) : KNext w k ((w.seat k).k.hear m).1 := by
 have hs := h.st k hk
 have hmsg := h.msg m hm
 unfold K.hear
 split
 · unfold K.forget
   split
   · exact ⟨rfl, rfl, rfl, rfl, fun _ => rfl, fun x hx => hs.kept x (mem_era hx), fun _ => Int.le_refl _, .inl rfl⟩
   · exact ⟨rfl, rfl, rfl, rfl, fun _ => rfl, fun x hx => hs.kept x (mem_era hx), fun _ => Int.le_refl _, .inl rfl⟩
 · split
   · exact hs.next
   · rename_i hid
     have hid' : m.c = (w.seat k).k.id := by omega
     split
     · unfold K.granted
       split
       · exact ⟨rfl, rfl, rfl, rfl, fun _ => rfl, hs.kept, fun _ => Int.le_refl _, .inl rfl⟩
       · exact hs.next
     · split
       · unfold K.flush
         split
         · exact hs.next
         · exact ⟨rfl, rfl, rfl, rfl, fun _ => rfl, fun x hx => (by cases hx), fun _ => Int.le_refl _, .inl rfl⟩
       · split
         · rename_i hw
           obtain ⟨hk5, hw⟩ := hw
           unfold K.waits at hw
           simp only [Bool.and_eq_true, decide_eq_true_eq] at hw
           obtain ⟨⟨w1, w2⟩, w3⟩ := hw
           obtain ⟨⟨g, hg, g1, g2, g3, g4, _⟩, hval⟩ := hmsg.va hk5
           have hcall : 0 ≤ (w.seat k).call := by rw [hs.isO] at w1; exact of_decide_eq_true w1
           obtain ⟨e0, g0, a1, a2, a3, a4, a5, a6, a7, a8⟩ := hs.opn hcall
           have eg : g = g0 := pw_uniq h.hu hg (List.mem_of_getElem? a2) ⟨by omega, by omega⟩
           have ho : m.o = (w.seat k).k.cob := by rw [← g4, eg, a6]
           rw [ho] at hval
           unfold K.read
           split
           · exact hs.next
           · rename_i hv
             have hv' : (w.seat k).k.seen (w.seat k).k.cob ≤ m.v := by omega
             have key : ∀ c : K, (c = (w.seat k).k ∨ c = { (w.seat k).k with kept := putL (w.seat k).k.kept ⟨(w.seat k).k.cob, m.d, m.v, (w.seat k).k.sent + (w.seat k).k.obj⟩ }) → KNext w k (c.overWith m.d m.v) := by
               intro c hc
               have hkept : ∀ x ∈ c.kept, IsVal w.rs x.o x.v x.d := by
                 rcases hc with q | q
                 · rw [q]; exact hs.kept
                 · rw [q]
                   intro x hx
                   rcases mem_putL hx with p | p
                   · rw [p]; exact hval
                   · exact hs.kept x p
               have hc' : c.id = (w.seat k).k.id ∧ c.num = (w.seat k).k.num ∧ c.kind = (w.seat k).k.kind ∧ c.cob = (w.seat k).k.cob ∧ c.seen = (w.seat k).k.seen := by rcases hc with q | q <;> rw [q] <;> exact ⟨rfl, rfl, rfl, rfl, rfl⟩
               obtain ⟨q1, q2, q3, q4, q5⟩ := hc'
               refine ⟨q1, q2, q3, q4, fun q => by omega, hkept, ?_, .inr ⟨w1, rfl, ?_, fun _ => ⟨?_, ?_⟩, fun q => by omega⟩⟩
               · intro o
                 show (w.seat k).k.seen o ≤ upd c.seen c.cob (mx (c.seen c.cob) m.v) o
                 rw [q5]
                 exact le_upd (le_mx1 _ _) o
               · show m.v ≤ upd c.seen c.cob (mx (c.seen c.cob) m.v) c.cob
                 rw [upd_same]; exact le_mx2 _ _
               · show IsVal w.rs c.cob m.v m.d
                 rw [q4]; exact hval
               · show (w.seat k).k.seen c.cob ≤ m.v
                 rw [q4]; exact hv'
             split
             · exact key _ (.inr rfl)
             · exact key _ (.inl rfl)
         · split
           · rename_i hw
             obtain ⟨hk6, hw⟩ := hw
             unfold K.waits at hw
             simp only [Bool.and_eq_true, decide_eq_true_eq] at hw
             obtain ⟨⟨w1, w2⟩, w3⟩ := hw
             obtain ⟨r, hr, r0, r1, r2, r3⟩ := hmsg.dn hk6
             refine ⟨rfl, rfl, rfl, rfl, fun _ => rfl, hs.kept, ?_, .inr ⟨w1, rfl, ?_, fun q => by omega, fun _ => ⟨r, hr, r0, ?_, ?_, r3⟩⟩⟩
             · intro o
               exact le_upd (le_mx1 _ _) o
             · show m.v ≤ upd (w.seat k).k.seen (w.seat k).k.cob (mx ((w.seat k).k.seen (w.seat k).k.cob) m.v) (w.seat k).k.cob
               rw [upd_same]; exact le_mx2 _ _
             · show r.c = (w.seat k).k.id
               omega
             · show r.n = (w.seat k).k.num
               omega
           · exact hs.next
theorem Inv.said {w : Wd} {H : List Hc} {L : List M} {B : Nat} (h : Inv w H L B) (l : List M) (hl : ∀ m ∈ l, MsgOk H w.rs m) : Inv w H (L ++ l) B :=
 ⟨h.n4, h.len, h.eh, h.an, h.bg, h.mo, h.bef, h.lol, h.hs, h.hd, h.hne, h.n1, fun p hp => ⟨List.mem_append_left _ (h.net p hp).1, (h.net p hp).2⟩, fun m hm => (List.mem_append.1 hm).elim (h.msg m) (hl m), h.sv, h.log, h.epc, h.st⟩
theorem send_note (w : Wd) (k : Nat) (t : Int) (l : List M) : (w.send t l).note k = (w.note k).send t l := by
 have hput : ∀ (w : Wd) (m : M), (w.put t m).note k = (w.note k).put t m := fun w m => by
   have e : ∀ x : Wd, x.note k = if (x.seat k).call < 0 then x else { x with events := x.events.modify (x.seat k).call.toNat fun e => e.noted (x.seat k).k x.step, seat := updN x.seat k { x.seat k with call := if (x.seat k).k.over = true then -1 else (x.seat k).call } } := fun _ => rfl
   by_cases h : okB m = true ∧ w.net.length < 200
   · have e1 : w.put t m = { w with net := w.net ++ [(t, m)] } := if_pos h
     rw [e1, e, e]
     by_cases q : (w.seat k).call < 0
     · rw [if_pos q, if_pos q]; exact e1.symm
     · rw [if_neg q, if_neg q]; exact (if_pos h).symm
   · have e1 : w.put t m = w := if_neg h
     rw [e1, e]
     by_cases q : (w.seat k).call < 0
     · rw [if_pos q]; exact e1.symm
     · rw [if_neg q]; exact (if_neg h).symm
 induction l generalizing w with
 | nil => rfl
 | cons m l ih => exact (ih (w.put t m)).trans (congrArg (fun x : Wd => x.send t l) (hput w m))
end Wld
end
end Go.Proofs.YtbebfliimjjohaaGreatDoor
