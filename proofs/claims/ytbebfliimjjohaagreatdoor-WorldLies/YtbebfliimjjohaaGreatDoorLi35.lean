/-
  Parts of the proof: WldR WldS.
-/
import Derived.Test.YtbebfliimjjohaaGreatDoorLi34
namespace Go.Proofs.YtbebfliimjjohaaGreatDoor
section
namespace Wld
open Go.RowKit Go.Maps
open Lease (upd upd_same upd_other hol dels mx kk isH)
open Wal (R mayB timeB)
open Num (M okB)
inductive S1 (T : Int) : Sv → List M → Sv → List M → Prop where
 | flush (s : Sv) (L : List M) (c : Nat) (hc : c < 4) (hv : ¬ T < s.vol c) : S1 T s L (s.flushed c) L
 | commit (s : Sv) (L : List M) (o : Nat) (m : M) (rest : List M) (ho : o < 8) (hd : s.down = false) (hw : s.waits o = m :: rest) (hr : s.ready ≤ T) (hh : ∀ c : Nat, c < 4 → isH s.D o T c = false) (ok : (s.commit m o).2.2 = true) :
     S1 T s L { (s.commit m o).1 with waits := updN (s.commit m o).1.waits o rest } (L ++ [Sv.doneM { (s.commit m o).1 with waits := updN (s.commit m o).1.waits o rest } m (s.commit m o).2.1])
 | fall (s : Sv) (L : List M) (o : Nat) (m : M) (rest : List M) (ho : o < 8) (hd : s.down = false) (hw : s.waits o = m :: rest) (ok : (s.commit m o).2.2 = false) : S1 T s L (s.commit m o).1 L
 | enq (s : Sv) (L : List M) (o : Nat) (m : M) (ho : o < 8) (hd : s.down = false) (hm : m ∈ L) (hk : m.k = 2) (h0 : m.o = o) (hc : 0 ≤ m.c) (hl : later m.c m.n (s.last (seatN m.c)) = true) (hs : (s.waits o).any (sameW m.c m.n) = false) (h10 : (s.waits o).length < 10) :
     S1 T s L { s with waits := updN s.waits o (s.waits o ++ [m]) } L
 | value (s : Sv) (L : List M) (o : Nat) (m : M) (ho : o < 8) (hd : s.down = false) (hm : m ∈ L) (hk : m.k = 1) (h0 : m.o = o) (hc : 0 ≤ m.c) : S1 T s L (s.lent m o T) (L ++ [s.valueM m o])
 | grant (s : Sv) (L : List M) (m : M) (hd : s.down = false) (hm : m ∈ L) (hk : m.k = 3) (hc : 0 ≤ m.c) (he : m.e = s.epoch) (hs : m.s = s.ses (seatN m.c : Nat)) : S1 T s L { s with vol := upd s.vol (seatN m.c : Nat) (mx (s.vol (seatN m.c : Nat)) (T + s.tv)) } (L ++ [s.answer 7 m])
 | flushM (s : Sv) (L : List M) (m : M) (hd : s.down = false) (hm : m ∈ L) (hk : m.k = 3) (hc : 0 ≤ m.c) (he : m.e ≠ s.epoch ∨ m.s ≠ s.ses (seatN m.c : Nat)) : S1 T s L s (L ++ [s.answer 8 m])
 | inval (s : Sv) (L : List M) (c o : Nat) (hc : c < 4) (ho : o < 8) (hd : s.down = false) (hw : s.waits o ≠ []) : S1 T s L s (L ++ [s.invalM c o])
 | drop (s : Sv) (L : List M) (o : Nat) (m : M) (ho : o < 8) (hd : s.down = false) (hm : m ∈ L) (hk : m.k = 4) (h0 : m.o = o) (hc : 0 ≤ m.c) (he : m.e = s.epoch) (hv : m.v = s.vv o + 1) : S1 T s L (s.dropped (seatN m.c) o) L
 | redone (s : Sv) (L : List M) (m : M) (hd : s.down = false) (hm : m ∈ L) (hk : m.k = 2) (h0 : 0 ≤ m.o) (h8 : m.o < 8) (hc : 0 ≤ m.c) (h1 : m.c = (s.last (seatN m.c)).c) (h2 : m.n = (s.last (seatN m.c)).n) : S1 T s L s (L ++ [s.doneM m (s.last (seatN m.c)).v])
inductive Ss (T : Int) : Sv → List M → Sv → List M → Prop where
 | refl (s : Sv) (L : List M) : Ss T s L s L
 | head {s : Sv} {L : List M} {s1 : Sv} {L1 : List M} {s2 : Sv} {L2 : List M} (h : S1 T s L s1 L1) (t : Ss T s1 L1 s2 L2) : Ss T s L s2 L2
theorem Ss.trans {T : Int} {s : Sv} {L : List M} {s1 : Sv} {L1 : List M} {s2 : Sv} {L2 : List M} (h : Ss T s L s1 L1) (k : Ss T s1 L1 s2 L2) : Ss T s L s2 L2 := by
 induction h with
 | refl => exact k
 | head h _ ih => exact .head h (ih k)
theorem Ss.one {T : Int} {s : Sv} {L : List M} {s1 : Sv} {L1 : List M} (h : S1 T s L s1 L1) : Ss T s L s1 L1 := .head h (.refl _ _)
theorem Ss.to {T : Int} {s : Sv} {L : List M} {s1 : Sv} {L1 L2 : List M} (h : Ss T s L s1 L1) (e : L1 = L2) : Ss T s L s1 L2 := e ▸ h
theorem has_of_del {D : Lease.Dat} {j k : Lit} (h : Maps.has (D.del k) j = true) : Maps.has D j = true ∧ j ≠ k ∧ ∀ z, (D.del k).atKey j z = D.atKey j z := by
 by_cases e : j = k
 · subst e; rw [has_del_same] at h; cases h
 · rw [has_del_other e] at h; exact ⟨h, e, fun z => atKey_del_other e z⟩
theorem isH_has {D : Lease.Dat} {o T : Int} {c : Nat} (h : isH D o T c = true) : Maps.has D (kk c o) = true := by
 unfold Lease.isH at h
 split at h
 · simp only [Bool.and_eq_true] at h; exact h.1
 · cases h
theorem isH_del {D : Lease.Dat} {o T : Int} {c : Nat} {k : Lit} (h : isH (D.del k) o T c = true) : isH D o T c = true ∧ kk c o ≠ k := by
 obtain ⟨h1, h2, h3⟩ := has_of_del (isH_has h)
 refine ⟨?_, h2⟩
 unfold Lease.isH at h ⊢
 rw [← h3]
 split at h
 · rw [has_del_other h2] at h; exact h
 · cases h
theorem isH_dels {D : Lease.Dat} {o T : Int} {c : Nat} {x : Int} : ∀ n, isH (dels D x n) o T c = true → isH D o T c = true ∧ ∀ i : Nat, i < n → kk c o ≠ kk x i
 | 0, h => ⟨h, fun i hi => by omega⟩
 | n + 1, h => by
   obtain ⟨h1, h2⟩ := isH_del h
   obtain ⟨h3, h4⟩ := isH_dels n h1
   refine ⟨h3, fun i hi => ?_⟩
   by_cases e : i = n
   · subst e; exact h2
   · exact h4 i (by omega)
theorem isH_hol {D : Lease.Dat} {o T : Int} {c k : Nat} (h : isH D o T c = true) (hc : c < k) : (c : Int) ∈ hol D o T k := by
 unfold Lease.hol
 exact List.mem_map.2 ⟨c, List.mem_filter.2 ⟨List.mem_range.2 hc, h⟩, rfl⟩
theorem await_ss (T : Int) (o : Nat) (ho : o < 8) (L : List M) : ∀ (cs : List Int) (s : Sv), (∀ c ∈ cs, ∃ n : Nat, n < 4 ∧ c = (n : Int)) → Ss T s L (s.await T cs).1 L ∧ (s.await T cs).1.down = s.down ∧ ((s.await T cs).2 = [] → ∀ c : Nat, isH (s.await T cs).1.D o T c = true → isH s.D o T c = true ∧ (c : Int) ∉ cs)
 | [], s, _ => ⟨.refl _ _, rfl, fun _ _ h => ⟨h, by simp⟩⟩
 | c :: cs, s, hcs => by
   rw [await_cons]
   by_cases hv : T < s.vol c
   · rw [if_pos hv]
     obtain ⟨h1, h2, _⟩ := await_ss T o ho L cs s fun x hx => hcs x (List.mem_cons_of_mem _ hx)
     exact ⟨h1, h2, fun h => by simp at h⟩
   · rw [if_neg hv]
     obtain ⟨n, hn, rfl⟩ := hcs c (by simp)
     obtain ⟨h1, h2, h3⟩ := await_ss T o ho L cs (s.flushed n) fun x hx => hcs x (List.mem_cons_of_mem _ hx)
     refine ⟨.head (.flush s L n hn hv) h1, h2, fun h x hx => ?_⟩
     obtain ⟨h4, h5⟩ := h3 h x hx
     obtain ⟨h6, h7⟩ := isH_dels (D := s.D) 8 h4
     refine ⟨h6, fun hm => ?_⟩
     rcases List.mem_cons.1 hm with e | e
     · exact h7 o ho (by rw [e])
     · exact h5 e
theorem awaited_ss (T : Int) {o : Nat} (ho : o < 8) (L : List M) (s : Sv) : Ss T s L (s.awaited o T).1 L ∧ (s.awaited o T).1.down = s.down ∧ (s.down = false → (s.waits o).length ≠ 0 → (s.awaited o T).2 = [] → ∀ c : Nat, c < 4 → isH (s.awaited o T).1.D o T c = false) := by
 unfold Sv.awaited
 split
 · rename_i h; exact ⟨.refl _ _, rfl, fun h1 h2 => by rcases h with h | h <;> simp_all⟩
 · obtain ⟨h1, h2, h3⟩ := await_ss T o ho L (hol s.D o T 4) s fun c hc => hol_mem hc
   refine ⟨h1, h2, fun _ _ he c hc => ?_⟩
   cases hx : isH (s.await T (hol s.D o T 4)).1.D o T c
   · rfl
   · obtain ⟨h4, h5⟩ := h3 he c hx
     exact absurd (isH_hol h4 hc) h5
theorem invals_ss (T : Int) (s : Sv) {o : Nat} (ho : o < 8) (hd : s.down = false) (hw : s.waits o ≠ []) : ∀ (cs : List Int) (L : List M), (∀ c ∈ cs, ∃ n : Nat, n < 4 ∧ c = (n : Int)) → Ss T s L s (L ++ cs.map fun c => s.invalM c o)
 | [], L, _ => by simpa using .refl _ _
 | c :: cs, L, h => by
   obtain ⟨n, hn, rfl⟩ := h c (by simp)
   exact .head (.inval s L n o hn ho hd hw) ((invals_ss T s ho hd hw cs (L ++ [s.invalM n o]) fun x hx => h x (List.mem_cons_of_mem _ hx)).to (by simp))
theorem awaited_down (s : Sv) (o : Nat) (T : Int) (h : s.down = true) : (s.awaited o T) = (s, []) := by unfold Sv.awaited; rw [if_pos (.inl h)]
theorem adv_ss (T : Int) {o : Nat} (ho : o < 8) : ∀ (f : Nat) (s : Sv) (L : List M), s.down = false → Ss T s L (s.adv o T f).1 (L ++ (s.adv o T f).2)
 | 0, s, L, _ => by simpa [Sv.adv] using Ss.refl s L
 | f + 1, s, L, hd => by
   obtain ⟨h1, h2, h3⟩ := awaited_ss T ho L s
   obtain ⟨e1, _, _, e4, _⟩ := awaited_waits s o T
   unfold Sv.adv
   split
   · simpa using Ss.refl s L
   · rename_i hn
     split
     · simpa using h1
     · rename_i ha
       split
       · simpa using h1
       · rename_i m rest hm
         have hl : (s.awaited o T).2 = [] := by simpa using ha
         have hr : (s.awaited o T).1.ready ≤ T := by rw [e4]; omega
         have hh := h3 hd (by omega) hl
         have hd1 : (s.awaited o T).1.down = false := h2.trans hd
         split
         · rename_i hf
           simpa using h1.trans (.one (.fall _ L o m rest ho hd1 hm hf))
         · rename_i hf
           have hok : ((s.awaited o T).1.commit m o).2.2 = true := by simpa using hf
           have hd2 : ((s.awaited o T).1.commit m o).1.down = false := by
             unfold Sv.commit at hok ⊢
             split
             · rename_i hz
               unfold Sv.add at hz ⊢
               rw [if_neg (by simp [hd1])] at hz ⊢
               split at hz
               · simp at hz
               · rename_i h200
                 rw [if_neg h200]
                 split at hz
                 · simp at hz
                 · rename_i hff
                   rw [if_neg hff]
                   have ho' : ¬ ((s.awaited o T).1.recd m o).o < 0 := by show ¬ (o : Int) < 0; omega
                   obtain ⟨_, _, _, h4, _⟩ := applied_terms { (s.awaited o T).1 with rs := (s.awaited o T).1.rs ++ [(s.awaited o T).1.recd m o], left := if (s.awaited o T).1.fails = true then (s.awaited o T).1.left - 1 else (s.awaited o T).1.left } ((s.awaited o T).1.recd m o)
                   exact h4.trans hd1
             · rename_i hz
               rw [if_neg hz] at hok
               simpa using hok
           exact h1.trans (.head (.commit _ L o m rest ho hd1 hm hr hh hok) ((adv_ss T ho f { ((s.awaited o T).1.commit m o).1 with waits := updN ((s.awaited o T).1.commit m o).1.waits o rest } _ hd2).to (by simp)))
theorem advance_ss (T : Int) {o : Nat} (ho : o < 8) (s : Sv) (L : List M) (hd : s.down = false) : Ss T s L (s.advance o T).1 (L ++ (s.advance o T).2) := adv_ss T ho _ s L hd
theorem adv_down2 (T : Int) (o : Nat) : ∀ (f : Nat) (s : Sv), s.down = true → (s.adv o T f) = (s, [])
 | 0, s, h => rfl
 | f + 1, s, h => by
   unfold Sv.adv
   rw [awaited_down s o T h]
   split
   · rfl
   · split
     · rfl
     · split
       · rfl
       · rename_i m rest hm
         have hc : (s.commit m o) = (s, 0, false) := by unfold Sv.commit Sv.add; rw [if_pos h]; simp [h]
         dsimp only
         rw [hc]
         rfl
theorem advance_ssd (T : Int) {o : Nat} (ho : o < 8) (s : Sv) (L : List M) : Ss T s L (s.advance o T).1 (L ++ (s.advance o T).2) := by
 cases hd : s.down
 · exact advance_ss T ho s L hd
 · unfold Sv.advance; rw [adv_down2 T o _ s hd]; simpa using Ss.refl s L
theorem remind_ss (T : Int) (c : Nat) (hc : c < 4) (s : Sv) (hd : s.down = false) (L : List M) : ∀ k, k ≤ 8 → Ss T s L (s.remindN c T k).1 (L ++ (s.remindN c T k).2) ∧ (s.remindN c T k).1.down = false
 | 0, _ => ⟨by simpa [Sv.remindN] using Ss.refl s L, hd⟩
 | k + 1, hk => by
   obtain ⟨h1, h2⟩ := remind_ss T c hc s hd L k (by omega)
   obtain ⟨h3, h4, _⟩ := awaited_ss T (show k < 8 by omega) (L ++ (s.remindN c T k).2) (s.remindN c T k).1
   obtain ⟨e1, _⟩ := awaited_waits (s.remindN c T k).1 k T
   show Ss T s L ((s.remindN c T k).1.awaited k T).1 (L ++ ((s.remindN c T k).2 ++ _)) ∧ ((s.remindN c T k).1.awaited k T).1.down = false
   refine ⟨?_, h4.trans h2⟩
   have h5 := h1.trans h3
   split
   · rename_i hh
     have hw : ((s.remindN c T k).1.awaited k T).1.waits k ≠ [] := by
       rw [e1]
       intro e
       have : ((s.remindN c T k).1.awaited k T).2 = [] := by unfold Sv.awaited; rw [if_pos (.inr (by rw [e]; rfl))]
       rw [this] at hh
       simp [hasN] at hh
     exact (h5.trans (.one (.inval _ _ c k hc (by omega) (h4.trans h2) hw))).to (by simp)
   · exact h5.to (by simp)
theorem tick_ss (T : Int) (s : Sv) (L : List M) : ∀ k, k ≤ 8 → Ss T s L (s.tickN T k).1 (L ++ (s.tickN T k).2)
 | 0, _ => by simpa [Sv.tickN] using Ss.refl s L
 | k + 1, hk => by
   have h1 := tick_ss T s L k (by omega)
   have h2 := advance_ssd T (show k < 8 by omega) (s.tickN T k).1 (L ++ (s.tickN T k).2)
   exact (h1.trans h2).to (by simp [Sv.tickN])
theorem hear_ss (T : Int) (s : Sv) (L : List M) (m : M) (hm : m ∈ L) : Ss T s L (s.hear m T).1 (L ++ (s.hear m T).2) := by
 unfold Sv.hear
 split
 · simpa using Ss.refl s L
 · rename_i hn
   have hd : s.down = false := by
     cases h : s.down
     · rfl
     · exact absurd (.inl h) hn
   have hc : 0 ≤ m.c := by omega
   have ho : m.o.toNat < 8 := by omega
   have h0 : m.o = (m.o.toNat : Int) := by omega
   split
   · rename_i hk
     exact .one (.value s L _ m ho hd hm hk h0 hc)
   · split
     · rename_i hk
       unfold Sv.writeS
       split
       · rename_i h; exact .one (.redone s L m hd hm hk (by omega) (by omega) hc h.1 h.2)
       · split
         · simpa using Ss.refl s L
         · rename_i hl
           have hl' : later m.c m.n (s.last (seatN m.c)) = true := by simpa using hl
           have he : Ss T s L (s.enq m m.o.toNat).1 L ∧ (s.enq m m.o.toNat).1.down = false ∧ ((s.enq m m.o.toNat).2 ≠ false → (s.enq m m.o.toNat).1.waits m.o.toNat ≠ []) := by
             unfold Sv.enq
             split
             · rename_i ha
               refine ⟨.refl _ _, hd, fun _ e => ?_⟩
               rw [e] at ha
               simp at ha
             · rename_i ha
               split
               · exact ⟨.refl _ _, hd, fun h => absurd rfl h⟩
               · exact ⟨.one (.enq s L _ m ho hd hm hk h0 hc hl' (by simpa using ha) (by omega)), hd, fun _ => by simp [updN]⟩
           split
           · simpa using he.1
           · rename_i hq
             unfold Sv.wrote
             have h1 := advance_ss T ho (s.enq m m.o.toNat).1 L he.2.1
             obtain ⟨h2, h3, _⟩ := awaited_ss T ho (L ++ ((s.enq m m.o.toNat).1.advance m.o.toNat T).2) ((s.enq m m.o.toNat).1.advance m.o.toNat T).1
             have h4 := (he.1.trans h1).trans h2
             dsimp only
             cases hdd : ((s.enq m m.o.toNat).1.advance m.o.toNat T).1.down
             · by_cases hw : (((s.enq m m.o.toNat).1.advance m.o.toNat T).1.waits m.o.toNat) = []
               · have : (((s.enq m m.o.toNat).1.advance m.o.toNat T).1.awaited m.o.toNat T).2 = [] := by unfold Sv.awaited; rw [if_pos (.inr (by rw [hw]; rfl))]
                 rw [this]
                 exact h4.to (by simp)
               · obtain ⟨e1, _⟩ := awaited_waits ((s.enq m m.o.toNat).1.advance m.o.toNat T).1 m.o.toNat T
                 exact (h4.trans (invals_ss T _ ho (h3.trans hdd) (by rw [e1]; exact hw) _ _ (awaited_mem _ _ _))).to (List.append_assoc _ _ _)
             · rw [awaited_down _ _ _ hdd] at h4 ⊢
               exact h4.to (by simp)
     · split
       · rename_i hk
         obtain ⟨h1, h2⟩ := remind_ss T (seatN m.c) (seatN_lt _) s hd L 8 (by omega)
         unfold Sv.renewS
         split
         · exact h1
         · rename_i hz
           have hz' : (s.remindN (seatN m.c : Nat) T 8).2 = [] := by simpa using hz
           rw [hz', List.append_nil] at h1
           split
           · rename_i hq
             exact h1.trans (.one (.flushM _ L m h2 hm hk hc hq))
           · rename_i hq
             exact h1.trans (.one (.grant _ L m h2 hm hk hc (by omega) (by omega)))
       · split
         · rename_i hk
           unfold Sv.release
           split
           · rename_i h
             exact .head (.drop s L _ m ho hd hm hk h0 hc h.1 h.2) (advance_ss T ho _ L hd)
           · simpa using Ss.refl s L
         · simpa using Ss.refl s L
end Wld
end
section
namespace Wld
open Go.RowKit Go.Maps
open Lease (upd upd_same upd_other hol dels mx kk isH)
open Wal (R mayB timeB)
open Num (M okB)
def IsVal (rs : List R) (o v : Int) (d : ByteArray) : Prop := (v = 0 ∧ d = ⟨#[]⟩) ∨ ∃ r ∈ rs, 0 ≤ r.o ∧ r.o = o ∧ r.v = v ∧ r.d = d
theorem IsVal.mono {rs rs' : List R} {o v : Int} {d : ByteArray} (h : IsVal rs o v d) (hr : ∀ r ∈ rs, r ∈ rs') : IsVal rs' o v d := h.imp id fun ⟨r, k, q⟩ => ⟨r, hr r k, q⟩
theorem IsVal.le {H : List Hc} {rs : List R} {x : L4} (hl : LogIs H rs x) {o v : Int} {d : ByteArray} (h : IsVal rs o v d) : 0 ≤ v ∧ v ≤ x.vv o.toNat := by
 rcases h with h | ⟨r, hr, h0, e1, e2, _⟩
 · have := hl.vv0 o.toNat; omega
 · have := hl.ver r hr h0
   rw [e1, e2] at this
   omega
structure MsgOk (H : List Hc) (rs : List R) (m : M) : Prop where
 rd : m.k = 1 → ∃ h ∈ H, h.c = m.c ∧ h.n = m.n ∧ h.kd = 1 ∧ h.o = m.o
 wr : m.k = 2 → ∃ h ∈ H, h.c = m.c ∧ h.n = m.n ∧ h.kd = 2 ∧ h.o = m.o ∧ h.d = m.d
 va : m.k = 5 → (∃ h ∈ H, h.c = m.c ∧ h.n = m.n ∧ h.kd = 1 ∧ h.o = m.o ∧ h.lo ≤ m.v) ∧ IsVal rs m.o m.v m.d
 dn : m.k = 6 → ∃ r ∈ rs, 0 ≤ r.o ∧ r.c = m.c ∧ r.n = m.n ∧ r.v = m.v
 iv : m.k = 9 → 0 ≤ m.c ∧ m.c < 4
theorem MsgOk.mono {H H' : List Hc} {rs rs' : List R} {m : M} (h : MsgOk H rs m) (hH : ∀ g ∈ H, g ∈ H') (hr : ∀ r ∈ rs, r ∈ rs') : MsgOk H' rs' m :=
 ⟨fun k => (h.rd k).imp fun g q => ⟨hH g q.1, q.2⟩, fun k => (h.wr k).imp fun g q => ⟨hH g q.1, q.2⟩, fun k => ⟨(h.va k).1.imp fun g q => ⟨hH g q.1, q.2⟩, (h.va k).2.mono hr⟩, fun k => (h.dn k).imp fun r q => ⟨hr r q.1, q.2⟩, h.iv⟩
theorem MsgOk.other {H : List Hc} {rs : List R} {m : M} (a : Int) (e : m.k = a) (h : ¬ (a = 1 ∨ a = 2 ∨ a = 5 ∨ a = 6)) (hi : a = 9 → 0 ≤ m.c ∧ m.c < 4) : MsgOk H rs m := ⟨fun k => by omega, fun k => by omega, fun k => by omega, fun k => by omega, fun k => hi (by omega)⟩
structure SvInv (H : List Hc) (s : Sv) : Prop where
 l4 : s.l4 = logL s.rs
 wg : ∀ o m, m ∈ s.waits o → o < 8 ∧ 0 ≤ m.c ∧ ∃ h ∈ H, h.c = m.c ∧ h.n = m.n ∧ h.kd = 2 ∧ h.o = o ∧ h.d = m.d
 wn : ∀ o m, m ∈ s.waits o → ∀ r ∈ s.rs, 0 ≤ r.o → ¬ (r.c = m.c ∧ r.n = m.n)
 wd : ∀ o, (s.waits o).Pairwise fun a b => ¬ (a.c = b.c ∧ a.n = b.n)
theorem SvInv.same {H : List Hc} {s s' : Sv} (h : SvInv H s) (h1 : s'.l4 = s.l4) (h2 : s'.rs = s.rs) (h3 : s'.waits = s.waits) : SvInv H s' := ⟨by rw [h1, h2]; exact h.l4, by rw [h3]; exact h.wg, by rw [h2, h3]; exact h.wn, by rw [h3]; exact h.wd⟩
theorem SvInv.mono {H H' : List Hc} {s : Sv} (h : SvInv H s) (hH : ∀ g ∈ H, g ∈ H') : SvInv H' s := ⟨h.l4, fun o m hm => ⟨(h.wg o m hm).1, (h.wg o m hm).2.1, (h.wg o m hm).2.2.imp fun g q => ⟨hH g q.1, q.2⟩⟩, h.wn, h.wd⟩
structure EvH (n : Nat) (e : Ev) (h : Hc) : Prop where
 c : h.c = e.life * 4 + e.client
 kd : h.kd = e.kind
 o : h.o = e.obj
 d : e.kind = 2 → h.d = e.d
 c0 : 0 ≤ e.client
 c4 : e.client < n
 kk : e.kind = 1 ∨ e.kind = 2
 o0 : 0 ≤ e.obj
 o8 : e.obj < 8
 l0 : 0 ≤ e.life
structure AnsOk (evs : List Ev) (rs : List R) (e : Ev) (h : Hc) : Prop where
 rd : e.kind = 1 → IsVal rs e.obj e.ver e.d ∧ (0 < e.ver → ∃ x ∈ evs, x.kind = 2 ∧ x.obj = e.obj ∧ x.d = e.d ∧ x.began ≤ e.ended)
 wr : e.kind = 2 → ∃ r ∈ rs, 0 ≤ r.o ∧ r.c = h.c ∧ r.n = h.n ∧ r.v = e.ver
structure SeatI (w : Wd) (H : List Hc) (k : Nat) : Prop where
 id : (w.seat k).k.id = (w.seat k).life * 4 + k
 l0 : 0 ≤ (w.seat k).life
 n0 : 0 ≤ (w.seat k).k.num
 num : ∀ h ∈ H, h.c = (w.seat k).k.id → h.n ≤ (w.seat k).k.num
 liv : ∀ h ∈ H, seatN h.c = k → h.c ≤ (w.seat k).k.id
 opn : 0 ≤ (w.seat k).call → ∃ e h, w.events[(w.seat k).call.toNat]? = some e ∧ H[(w.seat k).call.toNat]? = some h ∧ h.c = (w.seat k).k.id ∧ h.n = (w.seat k).k.num ∧ h.kd = (w.seat k).k.kind ∧ h.o = (w.seat k).k.cob ∧ (h.kd = 2 → h.d = (w.seat k).k.d) ∧ e.ended = 0
 isO : (w.seat k).k.isOpen = decide (0 ≤ (w.seat k).call)
 kept : ∀ x ∈ (w.seat k).k.kept, IsVal w.rs x.o x.v x.d
 seen : ∀ e ∈ w.events, e.client = k → e.life = (w.seat k).life → e.ended ≠ 0 → e.ver ≤ (w.seat k).k.seen e.obj
structure Inv (w : Wd) (H : List Hc) (L : List M) (B : Nat) : Prop where
 n4 : w.n ≤ 4
 len : H.length = w.events.length
 eh : ∀ (i : Nat) e h, w.events[i]? = some e → H[i]? = some h → EvH w.n e h
 an : ∀ (i : Nat) e h, w.events[i]? = some e → H[i]? = some h → e.ended ≠ 0 → AnsOk w.events w.rs e h
 bg : ∀ e ∈ w.events, 0 < e.began ∧ e.began ≤ w.step ∧ 0 ≤ e.ended ∧ e.ended ≤ w.step
 mo : ∀ (i j : Nat) e x, i < j → w.events[i]? = some e → w.events[j]? = some x → e.kind = 1 → x.kind = 1 → e.client = x.client → e.life = x.life → e.obj = x.obj → e.ended ≠ 0 → x.ended ≠ 0 → e.ver ≤ x.ver
 bef : ∀ e ∈ w.events, e.ended ≠ 0 → ∀ (j : Nat) x h, w.events[j]? = some x → H[j]? = some h → e.obj = x.obj → e.ended < x.began → e.ver ≤ h.lo
 lol : ∀ h ∈ H, h.lo ≤ (logL w.rs).vv h.o.toNat
 hs : H.Pairwise fun a b => a.c = b.c → a.n < b.n
 hd : H.Pairwise fun a b => a.kd = 2 → b.kd = 2 → a.d ≠ b.d
 hne : ∀ h ∈ H, h.kd = 2 → h.d ≠ ⟨#[]⟩
 n1 : ∀ h ∈ H, 0 < h.n
 net : ∀ p ∈ w.net, p.2 ∈ L ∧ (p.2.k = 9 → p.1 = p.2.c)
 msg : ∀ m ∈ L, MsgOk H w.rs m
 sv : ∀ s, w.sv = some s → SvInv H s ∧ s.rs = w.rs
 log : LogIs H w.rs (logL w.rs)
 epc : (w.rs.filter fun r => decide (r.o < 0)).length ≤ B
 st : ∀ k, k < w.n → SeatI w H k
theorem pw_uniq {H : List Hc} (h : H.Pairwise fun a b => ¬ (a.c = b.c ∧ a.n = b.n)) {a b : Hc} (ha : a ∈ H) (hb : b ∈ H) (e : a.c = b.c ∧ a.n = b.n) : a = b := by
 induction H with
 | nil => cases ha
 | cons x H ih =>
   obtain ⟨h1, h2⟩ := List.pairwise_cons.1 h
   rcases List.mem_cons.1 ha with p | p <;> rcases List.mem_cons.1 hb with q | q
   · rw [p, q]
   · subst p; exact absurd e (h1 b q)
   · subst q; exact absurd ⟨e.1.symm, e.2.symm⟩ (h1 a p)
   · exact ih h2 p q
theorem pw_text {H : List Hc} (h : H.Pairwise fun a b => a.kd = 2 → b.kd = 2 → a.d ≠ b.d) {a b : Hc} (ha : a ∈ H) (hb : b ∈ H) (e1 : a.kd = 2) (e2 : b.kd = 2) (e : a.d = b.d) : a = b := by
 induction H with
 | nil => cases ha
 | cons x H ih =>
   obtain ⟨h1, h2⟩ := List.pairwise_cons.1 h
   rcases List.mem_cons.1 ha with p | p <;> rcases List.mem_cons.1 hb with q | q
   · rw [p, q]
   · subst p; exact absurd e (h1 b q e1 e2)
   · subst q; exact absurd e.symm (h1 a p e2 e1)
   · exact ih h2 p q
theorem filter_two (rs : List R) : rs.length = (rs.filter fun r => decide (0 ≤ r.o)).length + (rs.filter fun r => decide (r.o < 0)).length := by
 induction rs with
 | nil => rfl
 | cons r rs ih =>
   rw [List.filter_cons, List.filter_cons]
   by_cases h : r.o < 0
   · rw [if_neg (by simpa using h), if_pos (by simpa using h)]; simp; omega
   · rw [if_pos (by simp; omega), if_neg (by simpa using h)]; simp; omega
theorem Inv.hu {w : Wd} {H : List Hc} {L : List M} {B : Nat} (h : Inv w H L B) : H.Pairwise fun a b => ¬ (a.c = b.c ∧ a.n = b.n) := h.hs.imp fun k q => by have := k q.1; omega
theorem Inv.room {w : Wd} {H : List Hc} {L : List M} {B : Nat} (h : Inv w H L B) : w.rs.length ≤ H.length + B := by
 have := filter_two w.rs
 have := h.log.count
 have := h.epc
 omega
theorem AnsOk.mono {evs evs' : List Ev} {rs rs' : List R} {e : Ev} {h : Hc} (k : AnsOk evs rs e h) (he : ∀ x ∈ evs, x.kind = 2 → ∃ y ∈ evs', y.kind = 2 ∧ y.obj = x.obj ∧ y.d = x.d ∧ y.began = x.began) (hr : ∀ r ∈ rs, r ∈ rs') : AnsOk evs' rs' e h :=
 ⟨fun q => ⟨(k.rd q).1.mono hr, fun p => by
   obtain ⟨x, hx, h1, h2, h3, h4⟩ := (k.rd q).2 p
   obtain ⟨y, hy, g1, g2, g3, g4⟩ := he x hx h1
   exact ⟨y, hy, g1, g2.trans h2, g3.trans h3, by omega⟩⟩, fun q => (k.wr q).imp fun r p => ⟨hr r p.1, p.2⟩⟩
theorem Inv.serve {w : Wd} {H : List Hc} {L : List M} {B : Nat} (h : Inv w H L B) {s' : Sv} {L' : List M} {B' : Nat} (hr : ∀ r ∈ w.rs, r ∈ s'.rs) (hv : ∀ o, (logL w.rs).vv o ≤ (logL s'.rs).vv o) (hs : SvInv H s') (hl : LogIs H s'.rs (logL s'.rs)) (hB : (s'.rs.filter fun r => decide (r.o < 0)).length ≤ B') (h1 : ∀ m ∈ L, m ∈ L') (h2 : ∀ m ∈ L', m ∈ L ∨ MsgOk H s'.rs m) : Inv (w.served s') H L' B' :=
 ⟨h.n4, h.len, h.eh, fun i e g he hg hn => (h.an i e g he hg hn).mono (fun x hx k => ⟨x, hx, k, rfl, rfl, rfl⟩) hr, h.bg, h.mo, h.bef, fun g hg => Int.le_trans (h.lol g hg) (hv _), h.hs, h.hd, h.hne, h.n1,
   fun p hp => ⟨h1 _ (h.net p hp).1, (h.net p hp).2⟩, fun m hm => (h2 m hm).elim (fun q => (h.msg m q).mono (fun _ q => q) hr) id, fun v hv => by
     have e : s' = v := Option.some.inj hv
     subst e
     exact ⟨hs, rfl⟩, hl, hB, fun k hk => ⟨(h.st k hk).id, (h.st k hk).l0, (h.st k hk).n0, (h.st k hk).num, (h.st k hk).liv, (h.st k hk).opn, (h.st k hk).isO, fun x hx => ((h.st k hk).kept x hx).mono hr, (h.st k hk).seen⟩⟩
theorem mem_one {L : List M} {x m : M} (h : m ∈ L ++ [x]) : m ∈ L ∨ m = x := (List.mem_append.1 h).imp id fun k => List.mem_singleton.1 k
theorem Inv.still {w : Wd} {H : List Hc} {L : List M} {B : Nat} (h : Inv w H L B) {s s' : Sv} (hs : w.sv = some s) {L' : List M} (e1 : s'.l4 = s.l4) (e2 : s'.rs = s.rs) (e3 : s'.waits = s.waits) (h1 : ∀ m ∈ L, m ∈ L') (h2 : ∀ m ∈ L', m ∈ L ∨ MsgOk H w.rs m) : Inv (w.served s') H L' B := by
 obtain ⟨k1, k2⟩ := h.sv s hs
 have er : s'.rs = w.rs := e2.trans k2
 exact h.serve (fun r hr => by rw [er]; exact hr) (fun o => by rw [er]; exact Int.le_refl _) (k1.same e1 e2 e3) (by rw [er]; exact h.log) (by rw [er]; exact h.epc) h1 (fun m hm => by rw [er]; exact h2 m hm)
theorem commit_is (s : Sv) (m : M) (o : Nat) (hd : s.down = false) (hl : s.rs.length < 200) :
   (s.commit m o = (Sv.applied { s with rs := s.rs ++ [s.recd m o], left := if s.fails = true then s.left - 1 else s.left } (s.recd m o), s.vv o + 1, true)) ∨ (s.commit m o = ({ s with down := true }, 0, false)) := by
 have ha : s.add (s.recd m o) = if s.fails = true ∧ s.left = 0 then ({ s with down := true }, 14) else ({ s with rs := s.rs ++ [s.recd m o], left := if s.fails = true then s.left - 1 else s.left }, 0) := by
   unfold Sv.add
   rw [if_neg (by rw [hd]; decide), if_neg (by omega)]
 unfold Sv.commit
 rw [ha]
 by_cases h : s.fails = true ∧ s.left = 0
 · right; rw [if_pos h, if_neg (show ¬ (14 : Int) = 0 by decide)]; rfl
 · left; rw [if_neg h, if_pos rfl]
theorem Inv.s1 {w : Wd} {H : List Hc} {L : List M} {B : Nat} (h : Inv w H L B) (hB : H.length + B < 200) {s s' : Sv} {L' : List M} (hs : w.sv = some s) (k : S1 w.clock s L s' L') : Inv (w.served s') H L' B := by
 obtain ⟨hi, hrs⟩ := h.sv s hs
 have hroom := h.room
 cases k with
 | flush c hc hv => exact h.still hs rfl rfl rfl (fun _ q => q) (fun _ q => .inl q)
 | value o m ho hd hm hk h0 hc =>
   have hvv : s.vv = (logL s.rs).vv := congrArg L4.vv hi.l4
   have hvd : s.vd = (logL s.rs).vd := congrArg L4.vd hi.l4
   have e : (s.lent m o w.clock).l4 = s.l4 ∧ (s.lent m o w.clock).rs = s.rs ∧ (s.lent m o w.clock).waits = s.waits := by unfold Sv.lent; split <;> exact ⟨rfl, rfl, rfl⟩
   refine h.still hs e.1 e.2.1 e.2.2 (fun _ q => List.mem_append_left _ q) (fun x hx => (mem_one hx).imp id fun q => ?_)
   subst q
   obtain ⟨g, hg, g1, g2, g3, g4⟩ := (h.msg m hm).rd hk
   refine ⟨fun q => absurd ((rfl : (5 : Int) = _).trans q) (by decide), fun q => absurd ((rfl : (5 : Int) = _).trans q) (by decide), fun _ => ⟨⟨g, hg, g1, g2, g3, g4.trans h0, ?_⟩, ?_⟩, fun q => absurd ((rfl : (5 : Int) = _).trans q) (by decide), fun q => absurd ((rfl : (5 : Int) = _).trans q) (by decide)⟩
   · show g.lo ≤ s.vv o
     have := h.lol g hg
     rw [g4, h0, ← hrs, ← hvv] at this
     simpa using this
   · show IsVal w.rs o (s.vv o) (s.vd o)
     rw [hvv, hvd, hrs]
     exact (h.log.cur o).imp id fun ⟨r, hr, q⟩ => ⟨r, hr, by omega, q⟩
 | grant m hd hm hk hc he hss => exact h.still hs rfl rfl rfl (fun _ q => List.mem_append_left _ q) (fun x hx => (mem_one hx).imp id fun q => by subst q; exact .other 7 rfl (by decide) (fun q => absurd q (by decide)))
 | flushM m hd hm hk hc he => exact h.still hs rfl rfl rfl (fun _ q => List.mem_append_left _ q) (fun x hx => (mem_one hx).imp id fun q => by subst q; exact .other 8 rfl (by decide) (fun q => absurd q (by decide)))
 | inval c o hc ho hd hw => exact h.still hs rfl rfl rfl (fun _ q => List.mem_append_left _ q) (fun x hx => (mem_one hx).imp id fun q => by subst q; exact .other 9 rfl (by decide) fun _ => ⟨by show (0 : Int) ≤ c; omega, by show (c : Int) < 4; omega⟩)
 | drop o m ho hd hm hk h0 hc he hv => exact h.still hs rfl rfl rfl (fun _ q => q) (fun _ q => .inl q)
 | redone m hd hm hk h0 h8 hc h1 h2 =>
   refine h.still hs rfl rfl rfl (fun _ q => List.mem_append_left _ q) (fun x hx => (mem_one hx).imp id fun q => ?_)
   subst q
   have hla : s.last = (logL w.rs).last := by rw [← hrs]; exact congrArg L4.last hi.l4
   refine ⟨fun q => absurd ((rfl : (6 : Int) = _).trans q) (by decide), fun q => absurd ((rfl : (6 : Int) = _).trans q) (by decide), fun q => absurd ((rfl : (6 : Int) = _).trans q) (by decide), fun _ => ?_, fun q => absurd ((rfl : (6 : Int) = _).trans q) (by decide)⟩
   rcases h.log.lin (seatN m.c) with e | ⟨e, e0⟩
   · exfalso
     obtain ⟨g, hg, g1, g2, g3, _⟩ := (h.msg m hm).wr hk
     rw [hla, e] at h1 h2
     have := h.n1 g hg
     have h2' : m.n = 0 := h2
     omega
   · exact ⟨_, e, e0, by rw [← hla]; exact h1.symm, by rw [← hla]; exact h2.symm, by rw [← hla]; rfl⟩
 | fall o m rest ho hd hw ok =>
   rcases commit_is s m o hd (by rw [hrs]; omega) with e | e
   · rw [e] at ok; cases ok
   · rw [e]; exact h.still hs rfl rfl rfl (fun _ q => q) (fun _ q => .inl q)
 | enq o m ho hd hm hk h0 hc hl hsame h10 =>
   refine h.serve (fun r hr => by show r ∈ s.rs; rw [hrs]; exact hr) (fun o => by show _ ≤ (logL s.rs).vv o; rw [hrs]; exact Int.le_refl _) ?_ (by show LogIs H s.rs (logL s.rs); rw [hrs]; exact h.log) (by show (s.rs.filter _).length ≤ B; rw [hrs]; exact h.epc) (fun _ q => q) (fun _ q => .inl q)
   obtain ⟨g, hg, g1, g2, g3, g4, g5⟩ := (h.msg m hm).wr hk
   have cases_mem : ∀ (x : Nat) (y : M), y ∈ updN s.waits o (s.waits o ++ [m]) x → y ∈ s.waits x ∨ (x = o ∧ y = m) := fun x y hy => by
     unfold updN at hy
     split at hy
     · rename_i e; subst e; exact (mem_one hy).imp id fun q => ⟨rfl, q⟩
     · exact .inl hy
   have hnew : ∀ r ∈ s.rs, 0 ≤ r.o → ¬ (r.c = m.c ∧ r.n = m.n) := fun r hr r0 ⟨e1, e2⟩ => by
     have h3 := h.log.las r (by rw [← hrs]; exact hr) r0
     have hla : s.last = (logL w.rs).last := by rw [← hrs]; exact congrArg L4.last hi.l4
     rw [← hla, e1, e2, hl] at h3
     cases h3
   refine ⟨hi.l4, fun x y hy => ?_, fun x y hy => ?_, fun x => ?_⟩
   · rcases cases_mem x y hy with q | ⟨rfl, rfl⟩
     · exact hi.wg x y q
     · exact ⟨ho, hc, g, hg, g1, g2, g3, g4.trans h0, g5⟩
   · rcases cases_mem x y hy with q | ⟨rfl, rfl⟩
     · exact hi.wn x y q
     · exact hnew
   · show (updN s.waits o (s.waits o ++ [m]) x).Pairwise _
     unfold updN
     split
     · rename_i e
       rw [List.pairwise_append]
       refine ⟨hi.wd o, by simp, fun a ha b hb ⟨e1, e2⟩ => ?_⟩
       rw [List.mem_singleton.1 hb] at e1 e2
       have := List.any_eq_false.1 hsame a ha
       simp [sameW, e1, e2] at this
     · exact hi.wd x
 | commit o m rest ho hd hw hr hh ok =>
   rcases commit_is s m o hd (by rw [hrs]; omega) with e | e
   · rw [e]
     dsimp only
     have hro : ¬ (s.recd m o).o < 0 := by show ¬ (o : Int) < 0; omega
     obtain ⟨y, hy⟩ : ∃ y : Sv, y = { s with rs := s.rs ++ [s.recd m o], left := if s.fails = true then s.left - 1 else s.left } := ⟨_, rfl⟩
     rw [← hy]
     have y1 : y.l4 = s.l4 := by rw [hy]; rfl
     have y2 : y.rs = s.rs ++ [s.recd m o] := by rw [hy]
     have y3 : y.waits = s.waits := by rw [hy]
     have z1 : (y.applied (s.recd m o)).l4 = logL (s.rs ++ [s.recd m o]) := by rw [applied_l4, y1, hi.l4, logL_app]
     have z2 : (y.applied (s.recd m o)).rs = s.rs ++ [s.recd m o] := (applied_rs _ _).trans y2
     have z3 : (y.applied (s.recd m o)).waits = s.waits := (applied_keep y (s.recd m o) hro).1.trans y3
     have hvv : s.vv = (logL s.rs).vv := congrArg L4.vv hi.l4
     obtain ⟨g1, g2, g, hg, g3, g4, g5, g6, g7⟩ := hi.wg o m (by rw [hw]; simp)
     have hlo : g.lo ≤ (logL s.rs).vv o := by
       have := h.lol g hg
       rw [g6, ← hrs] at this
       simpa using this
     have hlog : LogIs H (s.rs ++ [s.recd m o]) (logL (s.rs ++ [s.recd m o])) := by
       rw [logL_app]
       have hl0 : LogIs H s.rs (logL s.rs) := by rw [hrs]; exact h.log
       exact hl0.more (r := s.recd m o) (by omega) (by show (o : Int) < 8; omega) (by show s.vv o + 1 = _; rw [hvv]; rfl) (hl0.vv0 _) hg g3 g4 g5 g6 g7 hlo (fun a ha a0 q => hi.wn o m (by rw [hw]; simp) a ha a0 q)
     have hle : ∀ x, (logL s.rs).vv x ≤ (logL (s.rs ++ [s.recd m o])).vv x := fun x => by
       rw [logL_app]
       have : ((logL s.rs).app (s.recd m o)).vv = updN (logL s.rs).vv o (s.vv o + 1) := by
         unfold L4.app; rw [if_neg hro]; split <;> rfl
       rw [this, hvv]
       unfold updN
       split
       · rename_i q; subst q; omega
       · exact Int.le_refl _
     have hin : ∀ r ∈ w.rs, r ∈ s.rs ++ [s.recd m o] := fun r hr => List.mem_append_left _ (by rw [hrs]; exact hr)
     refine h.serve (by show ∀ r ∈ w.rs, r ∈ (y.applied (s.recd m o)).rs; rw [z2]; exact hin) (by show ∀ x, _ ≤ (logL (y.applied (s.recd m o)).rs).vv x; rw [z2, ← hrs]; exact hle) ?_ (by show LogIs H (y.applied (s.recd m o)).rs _; rw [z2]; exact hlog) ?_ (fun _ q => List.mem_append_left _ q) (fun x hx => (mem_one hx).imp id fun q => ?_)
     · rw [z3]
       have cases_mem : ∀ (x : Nat) (b : M), b ∈ updN s.waits o rest x → b ∈ s.waits x ∧ (x = o → b ∈ rest) := fun x b hb => by
         unfold updN at hb
         split at hb
         · rename_i q; subst q; exact ⟨by rw [hw]; exact List.mem_cons_of_mem _ hb, fun _ => hb⟩
         · rename_i q; exact ⟨hb, fun q' => absurd q' q⟩
       refine ⟨by show (y.applied (s.recd m o)).l4 = _; rw [z1]; show _ = logL (y.applied (s.recd m o)).rs; rw [z2], fun x b hb => hi.wg x b (cases_mem x b hb).1, fun x b hb r hr r0 => ?_, fun x => ?_⟩
       · have hr' : r ∈ (y.applied (s.recd m o)).rs := hr
         rw [z2] at hr'
         rcases List.mem_append.1 hr' with q | q
         · exact hi.wn x b (cases_mem x b hb).1 r q r0
         · rw [List.mem_singleton.1 q]
           rintro ⟨q1, q2⟩
           have q1' : m.c = b.c := q1
           have q2' : m.n = b.n := q2
           obtain ⟨_, _, g', hg', f1, f2, f3, f4, _⟩ := hi.wg x b (cases_mem x b hb).1
           have eg : g = g' := pw_uniq h.hu hg hg' ⟨by rw [g3, f1, q1'], by rw [g4, f2, q2']⟩
           have ex : x = o := by subst eg; omega
           have hb2 := (cases_mem x b hb).2 ex
           have := hi.wd o
           rw [hw] at this
           exact (List.pairwise_cons.1 this).1 b hb2 ⟨q1', q2'⟩
       · show (updN s.waits o rest x).Pairwise _
         unfold updN
         split
         · have := hi.wd o
           rw [hw] at this
           exact (List.pairwise_cons.1 this).2
         · exact hi.wd x
     · show ((y.applied (s.recd m o)).rs.filter _).length ≤ B
       rw [z2, List.filter_append, hrs]
       have : ([s.recd m o].filter fun r => decide (r.o < 0)) = [] := by rw [List.filter_cons, if_neg (by simpa using hro)]; rfl
       rw [this, List.append_nil]
       exact h.epc
     · subst q
       refine ⟨fun q => absurd ((rfl : (6 : Int) = _).trans q) (by decide), fun q => absurd ((rfl : (6 : Int) = _).trans q) (by decide), fun q => absurd ((rfl : (6 : Int) = _).trans q) (by decide), fun _ => ⟨s.recd m o, ?_, by show (0 : Int) ≤ o; omega, rfl, rfl, rfl⟩, fun q => absurd ((rfl : (6 : Int) = _).trans q) (by decide)⟩
       show s.recd m o ∈ (y.applied (s.recd m o)).rs
       rw [z2]
       simp
   · rw [e] at ok; cases ok
end Wld
end
end Go.Proofs.YtbebfliimjjohaaGreatDoor
