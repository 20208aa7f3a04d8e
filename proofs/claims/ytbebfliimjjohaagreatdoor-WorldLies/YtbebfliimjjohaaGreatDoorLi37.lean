/-
  Parts of the proof: WldV WldW.
-/
import Derived.Test.YtbebfliimjjohaaGreatDoorLi36
namespace Go.Proofs.YtbebfliimjjohaaGreatDoor
section
namespace Wld
open Go.RowKit Go.Maps
open Lease (upd upd_same upd_other hol dels mx kk isH)
open Cache (E era putL)
open Wal (R mayB timeB)
open Num (M okB)
theorem mem_snoc {A : Type} {l : List A} {x y : A} (h : y ∈ l ++ [x]) : y ∈ l ∨ y = x := (List.mem_append.1 h).imp id fun k => List.mem_singleton.1 k
theorem get_snoc {A : Type} {l : List A} {x y : A} {i : Nat} (h : (l ++ [x])[i]? = some y) : (i < l.length ∧ l[i]? = some y) ∨ (i = l.length ∧ y = x) := by
 by_cases hi : i < l.length
 · rw [List.getElem?_append_left hi] at h; exact .inl ⟨hi, h⟩
 · rw [List.getElem?_append_right (by omega)] at h
   by_cases h0 : i - l.length = 0
   · rw [h0] at h; exact .inr ⟨by omega, (Option.some.inj h).symm⟩
   · rw [List.getElem?_singleton, if_neg h0] at h; cases h
def Wd.hc (w : Wd) (k : Nat) (c : K) : Hc := ⟨(w.seat k).k.id, (w.seat k).k.num + 1, c.kind, c.cob, c.d, (logL w.rs).vv c.cob.toNat⟩
def Wd.began (w : Wd) (k : Nat) (c : K) : Wd := (w.opens k c).note k
structure KBegin (w : Wd) (k : Nat) (c : K) : Prop where
 id : c.id = (w.seat k).k.id
 num : c.num = (w.seat k).k.num + 1
 kind : c.kind = 1 ∨ c.kind = 2
 o0 : 0 ≤ c.cob
 o8 : c.cob < 8
 kept : ∀ x ∈ c.kept, IsVal w.rs x.o x.v x.d
 seen : c.seen = (w.seat k).k.seen
 over : c.over = false
theorem began_is (w : Wd) (k : Nat) (c : K) (ho : c.over = false) : w.began k c = { w with step := w.step + 1, events := w.events ++ [⟨k, c.kind, c.cob, c.d, c.ver, false, c.hit, w.step + 1, 0, (w.seat k).life⟩], seat := updN w.seat k ⟨c, (w.seat k).clock, (w.seat k).life, w.events.length⟩ } := by
 have hs : (w.opens k c).seat k = ⟨c, (w.seat k).clock, (w.seat k).life, w.events.length⟩ := updN_same _ _ _
 unfold Wd.began Wd.note
 rw [if_neg (by rw [hs]; dsimp only; omega), hs]
 have e1 : (w.events ++ [(⟨k, 0, 0, ⟨#[]⟩, 0, false, false, w.step + 1, 0, (w.seat k).life⟩ : Ev)]).modify ((w.events.length : Int)).toNat (fun e => e.noted c (w.step + 1)) = w.events ++ [⟨k, c.kind, c.cob, c.d, c.ver, false, c.hit, w.step + 1, 0, (w.seat k).life⟩] := by
   apply List.ext_getElem?
   intro i
   rw [get_modify]
   by_cases hi : i < w.events.length
   · rw [List.getElem?_append_left hi, List.getElem?_append_left hi, if_neg (by omega)]
   · rw [List.getElem?_append_right (by omega), List.getElem?_append_right (by omega)]
     by_cases h0 : i - w.events.length = 0
     · rw [if_pos (by omega), h0]
       simp [Ev.noted, ho]
     · rw [if_neg (by omega), List.getElem?_singleton, List.getElem?_singleton, if_neg h0, if_neg h0]
 have e2 : updN (updN w.seat k (⟨c, (w.seat k).clock, (w.seat k).life, (w.events.length : Int)⟩ : St)) k (⟨c, (w.seat k).clock, (w.seat k).life, if c.over = true then -1 else (w.events.length : Int)⟩ : St) = updN w.seat k ⟨c, (w.seat k).clock, (w.seat k).life, w.events.length⟩ := by
   funext j
   unfold updN
   rw [ho]
   split <;> simp
 unfold Wd.opens
 dsimp only at e1 e2 ⊢
 rw [e1, e2]
theorem Inv.began {w : Wd} {H : List Hc} {L : List M} {B : Nat} (h : Inv w H L B) {k : Nat} (hk : k < w.n) (hst : 0 ≤ w.step) {c : K} (hc : KBegin w k c) (hfree : (w.seat k).k.isOpen = false) (hd : c.kind = 2 → c.d ≠ ⟨#[]⟩ ∧ ∀ g ∈ H, g.kd = 2 → g.d ≠ c.d) : Inv (w.began k c) (H ++ [w.hc k c]) L B := by
 have hs := h.st k hk
 rw [began_is w k c hc.over]
 obtain ⟨e', he'⟩ : ∃ e' : Ev, e' = ⟨k, c.kind, c.cob, c.d, c.ver, false, c.hit, w.step + 1, 0, (w.seat k).life⟩ := ⟨_, rfl⟩
 obtain ⟨g', hg'⟩ : ∃ g', g' = w.hc k c := ⟨_, rfl⟩
 rw [← he', ← hg']
 have hn4 := h.n4
 have hsub : ∀ g ∈ H, g ∈ H ++ [g'] := fun _ q => List.mem_append_left _ q
 have hesub : ∀ x ∈ w.events, x ∈ w.events ++ [e'] := fun _ q => List.mem_append_left _ q
 have hlt : ∀ {i : Nat} {x : Ev}, w.events[i]? = some x → i < w.events.length := fun q => (List.getElem?_eq_some_iff.1 q).1
 have hE : EvH w.n e' g' := by
   rw [he', hg']
   exact ⟨hs.id, rfl, rfl, fun _ => rfl, by show (0 : Int) ≤ k; omega, by show (k : Int) < w.n; omega, hc.kind, hc.o0, hc.o8, hs.l0⟩
 have hpair : ∀ (i : Nat) x g, (w.events ++ [e'])[i]? = some x → (H ++ [g'])[i]? = some g → (w.events[i]? = some x ∧ H[i]? = some g) ∨ (i = w.events.length ∧ x = e' ∧ g = g') := fun i x g hx hg => by
   rcases get_snoc hx with ⟨p1, p2⟩ | ⟨p1, p2⟩ <;> rcases get_snoc hg with ⟨q1, q2⟩ | ⟨q1, q2⟩
   · exact .inl ⟨p2, q2⟩
   · have := h.len; omega
   · have := h.len; omega
   · exact .inr ⟨p1, p2, q2⟩
 refine ⟨h.n4, ?_, ?_, ?_, ?_, ?_, ?_, ?_, ?_, ?_, ?_, ?_, h.net, ?_, ?_, h.log.mono hsub, h.epc, ?_⟩
 · show (H ++ [g']).length = (w.events ++ [e']).length
   rw [List.length_append, List.length_append, h.len]; rfl
 · intro i x g hx hg
   rcases hpair i x g hx hg with ⟨p, q⟩ | ⟨_, p, q⟩
   · exact h.eh i x g p q
   · rw [p, q]; exact hE
 · intro i x g hx hg hn
   rcases hpair i x g hx hg with ⟨p, q⟩ | ⟨_, p, q⟩
   · exact (h.an i x g p q hn).mono (fun y hy k2 => ⟨y, hesub y hy, k2, rfl, rfl, rfl⟩) fun _ r => r
   · rw [p, he'] at hn; exact absurd rfl hn
 · intro x hx
   rcases mem_snoc hx with q | q
   · have := h.bg x q
     exact ⟨this.1, by show x.began ≤ w.step + 1; omega, this.2.2.1, by show x.ended ≤ w.step + 1; omega⟩
   · rw [q, he']
     exact ⟨by show 0 < w.step + 1; omega, Int.le_refl _, Int.le_refl 0, by show 0 ≤ w.step + 1; omega⟩
 · intro i j x y hij hx hy k1 k2 c1 c2 c3 o1 o2
   rcases get_snoc hx with ⟨p1, p2⟩ | ⟨p1, p2⟩ <;> rcases get_snoc hy with ⟨q1, q2⟩ | ⟨q1, q2⟩
   · exact h.mo i j x y hij p2 q2 k1 k2 c1 c2 c3 o1 o2
   · rw [q2, he'] at o2; exact absurd rfl o2
   · omega
   · omega
 · intro x hx hn j y g hy hg ho hb
   rcases mem_snoc hx with q | q
   · rcases hpair j y g hy hg with ⟨p, r⟩ | ⟨_, p, r⟩
     · exact h.bef x q hn j y g p r ho hb
     · obtain ⟨i, hi⟩ := List.getElem?_of_mem q
       have hiH : i < H.length := by rw [h.len]; exact hlt hi
       have hans := h.an i x _ hi (List.getElem?_eq_getElem hiH) hn
       have hEx := h.eh i x _ hi (List.getElem?_eq_getElem hiH)
       have hxo : x.obj = c.cob := by rw [ho, p, he']
       have hlo : g.lo = (logL w.rs).vv x.obj.toNat := by rw [r, hg', hxo]; rfl
       rw [hlo]
       rcases hEx.kk with k1 | k2
       · exact ((hans.rd k1).1.le h.log).2
       · obtain ⟨r, hr, r0, r1, r2, r3⟩ := hans.wr k2
         obtain ⟨_, gg, hgg, g1, g2, g3, g4, g5, _⟩ := h.log.wr r hr r0
         have eg : gg = H[i] := pw_uniq h.hu hgg (List.getElem_mem hiH) ⟨by omega, by omega⟩
         have := (h.log.ver r hr r0).2
         rw [r3, ← g4, eg, hEx.o] at this
         exact this
   · rw [q, he'] at hn; exact absurd rfl hn
 · intro g hg
   rcases mem_snoc hg with q | q
   · exact h.lol g q
   · rw [q, hg']; exact Int.le_refl _
 · rw [List.pairwise_append]
   refine ⟨h.hs, by simp, fun a ha b hb e => ?_⟩
   rw [List.mem_singleton.1 hb, hg'] at e ⊢
   have := hs.num a ha e
   show a.n < (w.seat k).k.num + 1
   omega
 · rw [List.pairwise_append]
   refine ⟨h.hd, by simp, fun a ha b hb e1 e2 => ?_⟩
   rw [List.mem_singleton.1 hb, hg'] at e2 ⊢
   exact (hd e2).2 a ha e1
 · intro g hg e
   rcases mem_snoc hg with q | q
   · exact h.hne g q e
   · rw [q, hg'] at e ⊢; exact (hd e).1
 · intro g hg
   rcases mem_snoc hg with q | q
   · exact h.n1 g q
   · rw [q, hg']
     have := hs.n0
     show 0 < (w.seat k).k.num + 1
     omega
 · exact fun m hm => (h.msg m hm).mono hsub fun _ q => q
 · exact fun s hq => ⟨(h.sv s hq).1.mono hsub, (h.sv s hq).2⟩
 · intro j hj
   by_cases e : j = k
   · subst e
     obtain ⟨sj, hsj⟩ : ∃ sj : St, sj = ⟨c, (w.seat j).clock, (w.seat j).life, w.events.length⟩ := ⟨_, rfl⟩
     have es : updN w.seat j sj j = sj := updN_same _ _ _
     rw [← hsj]
     have h1 : sj.k = c ∧ sj.life = (w.seat j).life ∧ sj.call = w.events.length := by rw [hsj]; exact ⟨rfl, rfl, rfl⟩
     obtain ⟨f1, f2, f3⟩ := h1
     refine ⟨?_, ?_, ?_, ?_, ?_, ?_, ?_, ?_, ?_⟩
     · show (updN w.seat j sj j).k.id = (updN w.seat j sj j).life * 4 + j
       rw [es, f1, f2, hc.id]; exact hs.id
     · show 0 ≤ (updN w.seat j sj j).life
       rw [es, f2]; exact hs.l0
     · show 0 ≤ (updN w.seat j sj j).k.num
       rw [es, f1, hc.num]; have := hs.n0; omega
     · show ∀ h ∈ H ++ [g'], h.c = (updN w.seat j sj j).k.id → h.n ≤ (updN w.seat j sj j).k.num
       rw [es, f1, hc.num, hc.id]
       intro g hg e1
       rcases mem_snoc hg with q | q
       · have := hs.num g q e1; omega
       · rw [q, hg']; exact Int.le_refl _
     · show ∀ h ∈ H ++ [g'], seatN h.c = j → h.c ≤ (updN w.seat j sj j).k.id
       rw [es, f1, hc.id]
       intro g hg e1
       rcases mem_snoc hg with q | q
       · exact hs.liv g q e1
       · rw [q, hg']; exact Int.le_refl _
     · show 0 ≤ (updN w.seat j sj j).call → ∃ e h, (w.events ++ [e'])[(updN w.seat j sj j).call.toNat]? = some e ∧ (H ++ [g'])[(updN w.seat j sj j).call.toNat]? = some h ∧ h.c = (updN w.seat j sj j).k.id ∧ h.n = (updN w.seat j sj j).k.num ∧ h.kd = (updN w.seat j sj j).k.kind ∧ h.o = (updN w.seat j sj j).k.cob ∧ (h.kd = 2 → h.d = (updN w.seat j sj j).k.d) ∧ e.ended = 0
       rw [es, f1, f3]
       intro _
       refine ⟨e', g', ?_, ?_, ?_, ?_, ?_, ?_, ?_, ?_⟩
       · rw [List.getElem?_append_right (by omega)]; simp
       · rw [List.getElem?_append_right (by have := h.len; omega), h.len]; simp
       · rw [hg', hc.id]; rfl
       · rw [hg', hc.num]; rfl
       · rw [hg']; rfl
       · rw [hg']; rfl
       · intro _; rw [hg']; rfl
       · rw [he']
     · show (updN w.seat j sj j).k.isOpen = decide (0 ≤ (updN w.seat j sj j).call)
       rw [es, f1, f3]
       unfold K.isOpen
       rw [hc.over, decide_eq_true (show c.kind ≠ 0 by have := hc.kind; omega), decide_eq_true (show (0 : Int) ≤ w.events.length by omega)]
       rfl
     · show ∀ x ∈ (updN w.seat j sj j).k.kept, IsVal w.rs x.o x.v x.d
       rw [es, f1]; exact hc.kept
     · show ∀ e ∈ w.events ++ [e'], e.client = j → e.life = (updN w.seat j sj j).life → e.ended ≠ 0 → e.ver ≤ (updN w.seat j sj j).k.seen e.obj
       rw [es, f1, f2, hc.seen]
       intro x hx e1 e2 e3
       rcases mem_snoc hx with q | q
       · exact hs.seen x q e1 e2 e3
       · rw [q, he'] at e3; exact absurd rfl e3
   · have hj' : j < w.n := hj
     have hsj := h.st j hj'
     obtain ⟨sk, hsk⟩ : ∃ sk : St, sk = ⟨c, (w.seat k).clock, (w.seat k).life, w.events.length⟩ := ⟨_, rfl⟩
     have es : updN w.seat k sk j = w.seat j := updN_other _ _ e
     rw [← hsk]
     refine ⟨?_, ?_, ?_, ?_, ?_, ?_, ?_, ?_, ?_⟩
     · show (updN w.seat k sk j).k.id = (updN w.seat k sk j).life * 4 + j
       rw [es]; exact hsj.id
     · show 0 ≤ (updN w.seat k sk j).life
       rw [es]; exact hsj.l0
     · show 0 ≤ (updN w.seat k sk j).k.num
       rw [es]; exact hsj.n0
     · show ∀ h ∈ H ++ [g'], h.c = (updN w.seat k sk j).k.id → h.n ≤ (updN w.seat k sk j).k.num
       rw [es]
       intro g hg e1
       rcases mem_snoc hg with q | q
       · exact hsj.num g q e1
       · exfalso
         rw [q, hg'] at e1
         have e1' : (w.seat k).k.id = (w.seat j).k.id := e1
         have h1 := hs.id
         have h2 := hsj.id
         omega
     · show ∀ h ∈ H ++ [g'], seatN h.c = j → h.c ≤ (updN w.seat k sk j).k.id
       rw [es]
       intro g hg e1
       rcases mem_snoc hg with q | q
       · exact hsj.liv g q e1
       · exfalso
         rw [q, hg'] at e1
         have e1' : seatN (w.seat k).k.id = j := e1
         have h1 := hs.id
         have h2 := hs.l0
         unfold seatN at e1'
         omega
     · show 0 ≤ (updN w.seat k sk j).call → ∃ e h, (w.events ++ [e'])[(updN w.seat k sk j).call.toNat]? = some e ∧ (H ++ [g'])[(updN w.seat k sk j).call.toNat]? = some h ∧ h.c = (updN w.seat k sk j).k.id ∧ h.n = (updN w.seat k sk j).k.num ∧ h.kd = (updN w.seat k sk j).k.kind ∧ h.o = (updN w.seat k sk j).k.cob ∧ (h.kd = 2 → h.d = (updN w.seat k sk j).k.d) ∧ e.ended = 0
       rw [es]
       intro h0
       obtain ⟨x, g, d1, d2, d3⟩ := hsj.opn h0
       have hl1 := (List.getElem?_eq_some_iff.1 d1).1
       have hl2 := (List.getElem?_eq_some_iff.1 d2).1
       exact ⟨x, g, by rw [List.getElem?_append_left hl1]; exact d1, by rw [List.getElem?_append_left hl2]; exact d2, d3⟩
     · show (updN w.seat k sk j).k.isOpen = decide (0 ≤ (updN w.seat k sk j).call)
       rw [es]; exact hsj.isO
     · show ∀ x ∈ (updN w.seat k sk j).k.kept, IsVal w.rs x.o x.v x.d
       rw [es]; exact hsj.kept
     · show ∀ e ∈ w.events ++ [e'], e.client = j → e.life = (updN w.seat k sk j).life → e.ended ≠ 0 → e.ver ≤ (updN w.seat k sk j).k.seen e.obj
       rw [es]
       intro x hx e1 e2 e3
       rcases mem_snoc hx with q | q
       · exact hsj.seen x q e1 e2 e3
       · rw [q, he'] at e3; exact absurd rfl e3
end Wld
end
section
namespace Wld
open Go.RowKit Go.Maps
open Lease (upd upd_same upd_other hol dels mx kk isH)
open Cache (E era putL)
open Wal (R mayB timeB)
open Num (M okB)
theorem began_over (w : Wd) (k : Nat) (c0 c : K) (h0 : c0.over = false) : w.began k c = ((w.began k c0).setK k c).note k := by
 have hs : (w.opens k c).seat k = ⟨c, (w.seat k).clock, (w.seat k).life, w.events.length⟩ := updN_same _ _ _
 have hb := began_is w k c0 h0
 have hs2 : (w.began k c0).seat k = ⟨c0, (w.seat k).clock, (w.seat k).life, w.events.length⟩ := by rw [hb]; exact updN_same _ _ _
 rw [note_open _ _ _ (by rw [hs2]; dsimp only; omega)]
 unfold Wd.wrote
 rw [hs2, hb]
 unfold Wd.began Wd.note
 rw [if_neg (by rw [hs]; dsimp only; omega), hs]
 unfold Wd.opens
 dsimp only
 have e1 : ∀ (e e2 : Ev), e.client = e2.client → e.began = e2.began → e.ended = e2.ended → e.life = e2.life → (w.events ++ [e]).modify ((w.events.length : Int)).toNat (fun e => e.noted c (w.step + 1)) = (w.events ++ [e2]).modify ((w.events.length : Int)).toNat (fun e => e.noted c (w.step + 1)) := by
   intro e e2 q1 q2 q3 q4
   apply List.ext_getElem?
   intro i
   rw [get_modify, get_modify]
   by_cases hi : i < w.events.length
   · have hq : ¬ ((w.events.length : Int)).toNat = i := by omega
     simp only [hq, if_false, List.getElem?_append_left hi]
   · rw [List.getElem?_append_right (by omega), List.getElem?_append_right (by omega)]
     by_cases h0 : i - w.events.length = 0
     · have hq : ((w.events.length : Int)).toNat = i := by omega
       simp only [hq, if_true, h0]
       show some (e.noted c (w.step + 1)) = some (e2.noted c (w.step + 1))
       unfold Ev.noted
       rw [q1, q2, q3, q4]
     · have hq : ¬ ((w.events.length : Int)).toNat = i := by omega
       simp only [hq, if_false, List.getElem?_singleton, h0]
 have e2 : ∀ (a b d : St), updN (updN w.seat k a) k d = updN (updN w.seat k b) k d := by
   intro a b d
   funext j
   unfold updN
   split <;> simp_all
 rw [e1 ⟨k, 0, 0, ⟨#[]⟩, 0, false, false, w.step + 1, 0, (w.seat k).life⟩ ⟨k, c0.kind, c0.cob, c0.d, c0.ver, false, c0.hit, w.step + 1, 0, (w.seat k).life⟩ rfl rfl rfl rfl, e2 ⟨c, (w.seat k).clock, (w.seat k).life, w.events.length⟩ ⟨c0, (w.seat k).clock, (w.seat k).life, w.events.length⟩ _]
theorem mem_looked {k : K} {o : Int} {x : E} (h : x ∈ (k.looked o).kept) : x ∈ k.kept := by
 unfold K.looked at h
 split at h
 · exact h
 · rename_i y hy
   rcases mem_putL h with q | q
   · rw [q]; exact List.mem_of_find?_eq_some hy
   · exact q
theorem looked_is (k : K) (o : Int) : (k.looked o).id = k.id ∧ (k.looked o).num = k.num ∧ (k.looked o).kind = k.kind ∧ (k.looked o).cob = k.cob ∧ (k.looked o).d = k.d ∧ (k.looked o).seen = k.seen ∧ (k.looked o).over = k.over ∧ (k.looked o).ep = k.ep ∧ (k.looked o).ses = k.ses ∧ (k.looked o).til = k.til ∧ (k.looked o).sent = k.sent ∧ (k.looked o).obj = k.obj ∧ (k.looked o).vol = k.vol ∧ (k.looked o).asked = k.asked ∧ (k.looked o).renewal = k.renewal ∧ (k.looked o).coming = k.coming := by
 unfold K.looked
 split <;> exact ⟨rfl, rfl, rfl, rfl, rfl, rfl, rfl, rfl, rfl, rfl, rfl, rfl, rfl, rfl, rfl, rfl⟩
theorem has_is {k : K} {o now : Int} {x : E} (h : k.has o now = some x) : x ∈ k.kept ∧ x.o = o ∧ now < x.u ∧ now < k.til ∧ k.seen o ≤ x.v := by
 unfold K.has at h
 split at h
 · cases h
 · rename_i y hy
   split at h
   · cases h
   · rename_i hn
     have e : y = x := Option.some.inj h
     subst e
     have h1 := List.find?_some hy
     have h2 := List.mem_of_find?_eq_some hy
     exact ⟨h2, of_decide_eq_true h1, by omega, by omega, by omega⟩
def K.readB (k : K) (o now : Int) : K := (k.begin 1 o ⟨#[]⟩ 0 false false now).looked o
theorem readB_is (k : K) (o now : Int) : (k.readB o now).id = k.id ∧ (k.readB o now).num = k.num + 1 ∧ (k.readB o now).kind = 1 ∧ (k.readB o now).cob = o ∧ (k.readB o now).seen = k.seen ∧ (k.readB o now).over = false ∧ (k.readB o now).ep = k.ep ∧ (k.readB o now).ses = k.ses ∧ (k.readB o now).til = k.til ∧ (k.readB o now).sent = now ∧ (k.readB o now).obj = k.obj ∧ (k.readB o now).vol = k.vol ∧ (k.readB o now).asked = k.asked ∧ (k.readB o now).renewal = k.renewal ∧ (k.readB o now).coming = 0 ∧ ∀ x ∈ (k.readB o now).kept, x ∈ k.kept := by
 obtain ⟨h1, h2, h3, h4, _, h6, h7, h8, h9, h10, h11, h12, h13, h14, h15, h16⟩ := looked_is (k.begin 1 o ⟨#[]⟩ 0 false false now) o
 exact ⟨h1, h2, h3, h4, h6, h7, h8, h9, h10, h11, h12, h13, h14, h15, h16, fun x hx => mem_looked (k := k.begin 1 o ⟨#[]⟩ 0 false false now) (o := o) hx⟩
theorem Inv.readBegan {w : Wd} {H : List Hc} {L : List M} {B : Nat} (h : Inv w H L B) {k : Nat} (hk : k < w.n) (hst : 0 ≤ w.step) {o : Int} (ho : 0 ≤ o) (ho8 : o < 8) (hf : (w.seat k).k.isOpen = false) : Inv (w.began k ((w.seat k).k.reads o (w.seat k).clock)) (H ++ [w.hc k ((w.seat k).k.readB o (w.seat k).clock)]) L B := by
 have hs := h.st k hk
 obtain ⟨r1, r2, r3, r4, r5, r6, _, _, _, _, _, _, _, _, _, r16⟩ := readB_is (w.seat k).k o (w.seat k).clock
 have hb : KBegin w k ((w.seat k).k.readB o (w.seat k).clock) := ⟨r1, r2, .inl r3, by rw [r4]; exact ho, by rw [r4]; exact ho8, fun x hx => hs.kept x (r16 x hx), r5, r6⟩
 have h1 := h.began hk hst hb hf fun q => by rw [r3] at q; exact absurd q (by decide)
 unfold K.reads
 split
 · exact h1
 · rename_i x hx
   obtain ⟨x1, x2, x3, x4, x5⟩ := has_is hx
   rw [began_over w k ((w.seat k).k.readB o (w.seat k).clock) _ r6]
   have hs2 : (w.began k ((w.seat k).k.readB o (w.seat k).clock)).seat k = ⟨(w.seat k).k.readB o (w.seat k).clock, (w.seat k).clock, (w.seat k).life, w.events.length⟩ := by rw [began_is w k _ r6]; exact updN_same _ _ _
   have hrs : (w.began k ((w.seat k).k.readB o (w.seat k).clock)).rs = w.rs := by rw [began_is w k _ r6]
   have hn : (w.began k ((w.seat k).k.readB o (w.seat k).clock)).n = w.n := by rw [began_is w k _ r6]
   refine h1.noted (by rw [hn]; exact hk) ?_
   have hval : IsVal w.rs o x.v x.d := by rw [← x2]; exact hs.kept x x1
   refine ⟨by rw [hs2]; rfl, by rw [hs2]; rfl, by rw [hs2]; rfl, by rw [hs2]; rfl, fun q => ?_, ?_, ?_, .inr ⟨?_, rfl, ?_, fun _ => ⟨?_, ?_⟩, fun q => ?_⟩⟩
   · rw [hs2] at q; dsimp only at q; rw [r3] at q; exact absurd q (by decide)
   · rw [hrs]; exact fun y hy => hs.kept y (r16 y hy)
   · rw [hs2]; exact fun y => le_upd (le_mx1 _ _) y
   · rw [hs2]; show K.isOpen _ = true; rw [K.isOpen_iff, r3, r6]; exact ⟨by decide, rfl⟩
   · show x.v ≤ upd _ _ _ _
     exact Int.le_trans (le_mx2 _ _) (Int.le_of_eq (upd_same _ _ _).symm)
   · rw [hrs]; show IsVal w.rs ((w.seat k).k.readB o (w.seat k).clock).cob x.v x.d; rw [r4]; exact hval
   · rw [hs2]; show ((w.seat k).k.readB o (w.seat k).clock).seen ((w.seat k).k.readB o (w.seat k).clock).cob ≤ x.v; rw [r4, r5]; exact x5
   · rw [hs2] at q; dsimp only at q; rw [r3] at q; exact absurd q (by decide)
theorem began_n (w : Wd) (k : Nat) (c : K) : (w.began k c).n = w.n := note_n _ k
theorem Inv.writeBegan {w : Wd} {H : List Hc} {L : List M} {B : Nat} (h : Inv w H L B) {k : Nat} (hk : k < w.n) (hst : 0 ≤ w.step) {o : Int} (ho : 0 ≤ o) (ho8 : o < 8) (hf : (w.seat k).k.isOpen = false) {d : ByteArray} (hd : d ≠ ⟨#[]⟩) (hdd : ∀ g ∈ H, g.kd = 2 → g.d ≠ d) : Inv (w.began k ((w.seat k).k.begin 2 o d 0 false false (w.seat k).clock)) (H ++ [w.hc k ((w.seat k).k.begin 2 o d 0 false false (w.seat k).clock)]) L B := by
 have hs := h.st k hk
 exact h.began hk hst ⟨rfl, rfl, .inr rfl, ho, ho8, hs.kept, rfl, rfl⟩ hf fun _ => ⟨hd, hdd⟩
theorem Inv.enter {w : Wd} {H : List Hc} {L : List M} {B : Nat} (h : Inv w H L B) {k : Nat} (hk : k < w.n) : Inv (w.enter k ((w.seat k).life + 1)) H L B := by
 have hs := h.st k hk
 have hn4 := h.n4
 refine ⟨h.n4, h.len, h.eh, h.an, h.bg, h.mo, h.bef, h.lol, h.hs, h.hd, h.hne, h.n1, h.net, h.msg, h.sv, h.log, h.epc, fun j hj => ?_⟩
 by_cases e : j = k
 · subst e
   obtain ⟨sj, hsj⟩ : ∃ sj : St, sj = { w.seat j with k := K.new (((w.seat j).life + 1) * 4 + j) (short w.td w.to) (short w.td w.tv), life := (w.seat j).life + 1, call := -1 } := ⟨_, rfl⟩
   have es : (w.enter j ((w.seat j).life + 1)).seat j = sj := by rw [hsj]; exact updN_same _ _ _
   have f1 : sj.k = K.new (((w.seat j).life + 1) * 4 + j) (short w.td w.to) (short w.td w.tv) ∧ sj.life = (w.seat j).life + 1 ∧ sj.call = -1 := by rw [hsj]; exact ⟨rfl, rfl, rfl⟩
   obtain ⟨f1, f2, f3⟩ := f1
   have hid := hs.id
   have hno : ∀ (i : Nat) x g, w.events[i]? = some x → H[i]? = some g → x.client = j → x.life ≤ (w.seat j).life := fun i x g hx hg e1 => by
     have hE := h.eh i x g hx hg
     have h1 := hE.c
     have h2 : seatN g.c = j := by
       unfold seatN
       rw [h1, e1]
       have := hE.l0
       omega
     have h3 := hs.liv g (List.mem_of_getElem? hg) h2
     omega
   refine ⟨by rw [es, f1, f2]; rfl, by rw [es, f2]; have := hs.l0; omega, by rw [es, f1]; exact Int.le_refl 0, ?_, ?_, by rw [es, f3]; intro q; omega, by rw [es, f1, f3]; rfl, by rw [es, f1]; intro x hx; exact (by cases hx), ?_⟩
   · rw [es, f1]
     intro g hg e1
     exfalso
     have e1' : g.c = ((w.seat j).life + 1) * 4 + j := e1
     have h2 : seatN g.c = j := by
       unfold seatN
       rw [e1']
       have := hs.l0
       omega
     have h3 := hs.liv g hg h2
     omega
   · rw [es, f1]
     intro g hg e1
     have h3 := hs.liv g hg e1
     show g.c ≤ ((w.seat j).life + 1) * 4 + j
     omega
   · rw [es, f2]
     intro x hx e1 e2 e3
     exfalso
     obtain ⟨i, hi⟩ := List.getElem?_of_mem hx
     have hl : i < H.length := by rw [h.len]; exact (List.getElem?_eq_some_iff.1 hi).1
     have := hno i x _ hi (List.getElem?_eq_getElem hl) e1
     omega
 · have hsj := h.st j hj
   have es : (w.enter k ((w.seat k).life + 1)).seat j = w.seat j := updN_other _ _ e
   exact ⟨by rw [es]; exact hsj.id, by rw [es]; exact hsj.l0, by rw [es]; exact hsj.n0, by rw [es]; exact hsj.num, by rw [es]; exact hsj.liv, by rw [es]; exact hsj.opn, by rw [es]; exact hsj.isO, by rw [es]; exact hsj.kept, by rw [es]; exact hsj.seen⟩
theorem Inv.reborn {w : Wd} {H : List Hc} {L : List M} {B : Nat} (h : Inv w H L B) {k : Nat} (hk : k < w.n) : Inv (w.reborn k) H L B := Inv.enter (w := { w with step := w.step + 1 }) h.stepped hk
def Wd.bare (to' tv td : Int) (n : Nat) : Wd := ⟨to', tv, td, [], false, 0, [], none, 0, n, fun k => ⟨K.new k (short td to') (short td tv), 0, 0, -1⟩, [], 0⟩
theorem Inv.bare (to' tv td : Int) {n : Nat} (hn : n ≤ 4) : Inv (Wd.bare to' tv td n) [] [] 0 :=
 ⟨hn, rfl, fun i e h he _ => by simp [Wd.bare] at he, fun i e h he _ => by simp [Wd.bare] at he, fun e he => by simp [Wd.bare] at he, fun i j e x _ he _ => by simp [Wd.bare] at he, fun e he => by simp [Wd.bare] at he, fun h hh => by simp at hh, by simp, by simp, by simp, by simp, fun p hp => by simp [Wd.bare] at hp, by simp, fun s hs => by simp [Wd.bare] at hs, LogIs.zero [], by simp [Wd.bare],
   fun k _ => ⟨by simp [Wd.bare, K.new], Int.le_refl 0, Int.le_refl 0, by simp, by simp, fun q => by simp [Wd.bare] at q, rfl, fun x hx => by simp [Wd.bare, K.new] at hx, fun e he => by simp [Wd.bare] at he⟩⟩
theorem commit_up {s : Sv} (m : M) (o : Nat) (hd : s.down = false) (hf : s.fails = false) : (s.commit m o).2.2 = true ∧ (s.commit m o).1.down = false ∧ (s.commit m o).1.fails = false := by
 have ha : s.add (s.recd m o) = if s.rs.length = 200 then (s, 12) else ({ s with rs := s.rs ++ [s.recd m o], left := if s.fails = true then s.left - 1 else s.left }, 0) := by
   unfold Sv.add
   rw [if_neg (by rw [hd]; decide)]
   split
   · rfl
   · rw [if_neg (by rw [hf]; simp)]
 unfold Sv.commit
 rw [ha]
 by_cases h : s.rs.length = 200
 · rw [if_pos h, if_neg (show ¬ (12 : Int) = 0 by decide)]
   exact ⟨by dsimp only; rw [hd]; rfl, hd, hf⟩
 · rw [if_neg h, if_pos rfl]
   obtain ⟨_, _, _, h4, h5, _⟩ := applied_terms { s with rs := s.rs ++ [s.recd m o], left := if s.fails = true then s.left - 1 else s.left } (s.recd m o)
   exact ⟨rfl, h4.trans hd, h5.trans hf⟩
theorem S1.up {T : Int} {s s' : Sv} {L L' : List M} (k : S1 T s L s' L') (hd : s.down = false) (hf : s.fails = false) : s'.down = false ∧ s'.fails = false := by
 cases k with
 | flush => exact ⟨hd, hf⟩
 | commit o m rest => exact ⟨(commit_up m o hd hf).2.1, (commit_up m o hd hf).2.2⟩
 | fall o m rest ho hd' hw ok => rw [(commit_up m o hd hf).1] at ok; cases ok
 | enq => exact ⟨hd, hf⟩
 | value o m => unfold Sv.lent; split <;> exact ⟨hd, hf⟩
 | grant => exact ⟨hd, hf⟩
 | flushM => exact ⟨hd, hf⟩
 | inval => exact ⟨hd, hf⟩
 | drop => exact ⟨hd, hf⟩
 | redone => exact ⟨hd, hf⟩
theorem Ss.up {T : Int} {s s' : Sv} {L L' : List M} (k : Ss T s L s' L') : s.down = false → s.fails = false → s'.down = false ∧ s'.fails = false := by
 induction k with
 | refl => exact fun a b => ⟨a, b⟩
 | head k1 _ ih => exact fun a b => ih (k1.up a b).1 (k1.up a b).2
def Wd.pen (w : Wd) : Nat := match w.sv with
 | none => 1
 | some s => if s.fails = true then 1 else 0
theorem pen_le (w : Wd) : w.pen ≤ 1 := by unfold Wd.pen; split <;> (try split) <;> omega
structure InvB (w : Wd) (H : List Hc) (L : List M) (b : Nat) : Prop where
 inv : ∃ B, Inv w H L B ∧ B + w.pen ≤ b
 up : ∀ s, w.sv = some s → s.down = false
 st : 0 ≤ w.step
theorem put_sv (w : Wd) (t : Int) (m : M) : (w.put t m).sv = w.sv ∧ (w.put t m).step = w.step ∧ (w.put t m).n = w.n := by
 unfold Wd.put
 split <;> exact ⟨rfl, rfl, rfl⟩
theorem send_sv (t : Int) : ∀ (l : List M) (w : Wd), (w.send t l).sv = w.sv ∧ (w.send t l).step = w.step
 | [], _ => ⟨rfl, rfl⟩
 | m :: l, w => ⟨(send_sv t l (w.put t m)).1.trans (put_sv w t m).1, (send_sv t l (w.put t m)).2.trans (put_sv w t m).2.1⟩
theorem tells_svs : ∀ (l : List M) (w : Wd), (w.tells l).sv = w.sv ∧ (w.tells l).step = w.step
 | [], _ => ⟨rfl, rfl⟩
 | m :: l, w => ⟨(tells_svs l (w.put (seatN m.c : Nat) m)).1.trans (put_sv w _ m).1, (tells_svs l (w.put (seatN m.c : Nat) m)).2.trans (put_sv w _ m).2.1⟩
theorem note_sv (w : Wd) (k : Nat) : (w.note k).sv = w.sv ∧ (w.note k).step = w.step := by
 unfold Wd.note
 split <;> exact ⟨rfl, rfl⟩
theorem InvB.same {w w' : Wd} {H H' : List Hc} {L L' : List M} {b : Nat} (h : InvB w H L b) (hs : w'.sv = w.sv) (ht : w.step ≤ w'.step) (hi : ∀ B, Inv w H L B → Inv w' H' L' B) : InvB w' H' L' b :=
 ⟨h.inv.imp fun B k => ⟨hi B k.1, by have : w'.pen = w.pen := by unfold Wd.pen; rw [hs]
                                     omega⟩, fun s hq => h.up s (by rw [← hs]; exact hq), by have := h.st; omega⟩
theorem InvB.mono {w : Wd} {H : List Hc} {L : List M} {b c : Nat} (h : InvB w H L b) (hb : b ≤ c) : InvB w H L c := ⟨h.inv.imp fun B k => ⟨k.1, by omega⟩, h.up, h.st⟩
theorem answer_sv (w : Wd) (r : Sv × List M) : (w.answer r).sv = (if r.1.down = true then none else some r.1) ∧ (w.answer r).step = w.step := by
 have e1 : ((w.served r.1).tells r.2).sv = some r.1 := (tells_svs r.2 _).1
 have e2 : ((w.served r.1).tells r.2).step = w.step := (tells_svs r.2 _).2
 unfold Wd.answer Wd.fallen
 rw [e1]
 dsimp only
 by_cases h : r.1.down = true
 · rw [if_pos h, if_pos h]; exact ⟨rfl, e2⟩
 · rw [if_neg h, if_neg h]; exact ⟨e1, e2⟩
theorem InvB.answer {w : Wd} {H : List Hc} {L : List M} {b : Nat} (h : InvB w H L b) (hb : H.length + b < 200) {s : Sv} (hs : w.sv = some s) {r : Sv × List M} (hr : Ss w.clock s L r.1 (L ++ r.2)) : InvB (w.answer r) H (L ++ r.2) b := by
 obtain ⟨e1, e2⟩ := answer_sv w r
 refine ⟨h.inv.imp fun B k => ⟨k.1.answer (by omega) hs hr, ?_⟩, ?_, by rw [e2]; exact h.st⟩
 · have hp : (w.answer r).pen ≤ w.pen := by
     cases hf : s.fails
     · have := hr.up (h.up s hs) hf
       unfold Wd.pen
       rw [e1, if_neg (by rw [this.1]; decide)]
       dsimp only
       rw [this.2]
       simp
     · have : w.pen = 1 := by unfold Wd.pen; rw [hs]; dsimp only; rw [hf]; rfl
       rw [this]
       exact pen_le _
   omega
 · intro s' hs'
   rw [e1] at hs'
   split at hs'
   · cases hs'
   · rename_i q
     rw [← Option.some.inj hs']
     simpa using q
end Wld
end
end Go.Proofs.YtbebfliimjjohaaGreatDoor
