/-
  Parts of the proof: WldD Inj See WrlS GenT WrlT WrlU.
-/
import Derived.Test.YtbebfliimjjohaaGreatDoorLa18
import Derived.Test.YtbebfliimjjohaaGreatDoorLa03
import Derived.Test.YtbebfliimjjohaaGreatDoorLa04
import Derived.Test.YtbebfliimjjohaaGreatDoorLa15
import Derived.Maps.RangeWalk
section
namespace Go.Proofs.YtbebfliimjjohaaGreatDoor.Wld
open Go.RowKit Go.Maps
open Lease (upd hol dels mx kk objB I64)
open Wal (R mayB timeB)
open Num (M okB)
def Small (l : List M) : Prop := ∀ m ∈ l, m.d.size ≤ 20

theorem Small.nil : Small [] := fun m hm => by simp at hm

theorem Small.one {m : M} (h : m.d.size ≤ 20) : Small [m] := fun x hx => by rw [List.mem_singleton.1 hx]; exact h

theorem Small.app {a b : List M} (h : Small a) (k : Small b) : Small (a ++ b) := fun m hm => (List.mem_append.1 hm).elim (h m) (k m)

theorem adv_small (o : Nat) (now : Int) : ∀ (f : Nat) (s : Sv), Small (s.adv o now f).2
  | 0, s => Small.nil
  | f + 1, s => by
    unfold Sv.adv
    split
    · exact Small.nil
    · split
      · exact Small.nil
      · split
        · exact Small.nil
        · split
          · exact Small.nil
          · intro x hx
            rcases List.mem_cons.1 hx with q | q
            · rw [q]
              show (⟨#[]⟩ : ByteArray).size ≤ 20
              decide
            · exact adv_small o now f _ x q

theorem remind_small (s : Sv) (seat now : Int) : ∀ k, Small (s.remindN seat now k).2
  | 0 => Small.nil
  | k + 1 => by
    refine (remind_small s seat now k).app ?_
    split
    · exact Small.one (by show (⟨#[]⟩ : ByteArray).size ≤ 20; decide)
    · exact Small.nil

theorem hear_small {s : Sv} {B : Nat} (h : SvB s B) (m : M) (now : Int) : Small (s.hear m now).2 := by
  have he : (⟨#[]⟩ : ByteArray).size ≤ 20 := by decide
  unfold Sv.hear
  split
  · exact Small.nil
  · split
    · exact Small.one (h.vdl _)
    · split
      · unfold Sv.writeS
        split
        · exact Small.one he
        · split
          · exact Small.nil
          · split
            · exact Small.nil
            · refine Small.app (adv_small _ now _ _) fun x hx => ?_
              obtain ⟨c, _, rfl⟩ := List.mem_map.1 hx
              exact he
      · split
        · unfold Sv.renewS
          split
          · exact remind_small s _ now 8
          · split <;> exact Small.one he
        · split
          · unfold Sv.release
            split
            · exact adv_small _ now _ _
            · exact Small.nil
          · exact Small.nil

theorem tick_small (s : Sv) (now : Int) : ∀ k, Small (s.tickN now k).2
  | 0 => Small.nil
  | k + 1 => (tick_small s now k).app (adv_small k now _ _)

theorem khear_small (k : K) (m : M) : Small (k.hear m).2 := by
  unfold K.hear
  split
  · exact Small.one (by show (⟨#[]⟩ : ByteArray).size ≤ 20; decide)
  · split
    · exact Small.nil
    · split
      · exact Small.nil
      · split
        · exact Small.nil
        · split
          · exact Small.nil
          · split <;> exact Small.nil

theorem again_small {k : K} {C : Nat} (h : KB k C) (now : Int) : Small (k.againL now) := by
  have he : (⟨#[]⟩ : ByteArray).size ≤ 20 := by decide
  unfold K.againL
  refine Small.app ?_ ?_
  · split
    · exact Small.one he
    · exact Small.nil
  · split
    · refine Small.one ?_
      unfold K.request
      split
      · exact h.dd
      · exact he
    · exact Small.nil

end Go.Proofs.YtbebfliimjjohaaGreatDoor.Wld
end

section
namespace Go.Proofs.YtbebfliimjjohaaGreatDoor.Num
theorem body_inj : ∀ (ns ms x y : List Int), ns.length = ms.length → ns.all numB = true → ms.all numB = true → body ns ++ x = body ms ++ y → ns = ms ∧ x = y
  | [], [], x, y, _, _, _, h => ⟨rfl, h⟩
  | [], _ :: _, _, _, h, _, _, _ => by cases h
  | _ :: _, [], _, _, h, _, _, _ => by cases h
  | a :: ns, b :: ms, x, y, hl, h1, h2, h => by
    simp only [List.all_cons, Bool.and_eq_true] at h1 h2
    have e1 : body (a :: ns) = nb a.toNat ++ body ns := by simp [body]
    have e2 : body (b :: ms) = nb b.toNat ++ body ms := by simp [body]
    rw [e1, e2, List.append_assoc, List.append_assoc] at h
    obtain ⟨h3, h4⟩ := nb_inj _ _ _ _ h
    obtain ⟨h5, h6⟩ := body_inj ns ms x y (by simpa using hl) h1.2 h2.2 h4
    have ha := of_inB_true h1.1
    have hb := of_inB_true h2.1
    exact ⟨by rw [h5, show a = b by omega], h6⟩

theorem ints_inj {a b : ByteArray} (h : ints a = ints b) : a = b := by rw [← strOf_ints a, ← strOf_ints b, h]

theorem bytes_cut {m n : M} {t : List Int} (hm : okB m = true) (hn : okB n = true) (h : m.bytes ++ t = n.bytes) : m = n ∧ t = [] := by
  simp only [okB, Bool.and_eq_true] at hm hn
  rw [m.bytes_eq, n.bytes_eq, List.append_assoc] at h
  obtain ⟨h1, h2⟩ := body_inj m.nums n.nums _ _ rfl hm.2 hn.2 h
  simp only [M.tail, List.cons_append, List.nil_append, List.cons.injEq] at h2
  obtain ⟨h3, h4, h5⟩ := h2
  have h6 := congrArg List.length h5
  rw [List.length_append, ints_length, ints_length] at h6
  have h7 : t = [] := List.eq_nil_of_length_eq_zero (by omega)
  subst h7
  rw [List.append_nil] at h5
  have h8 := ints_inj h5
  have h9 : m.l = n.l := by
    revert h3
    unfold leaseN
    cases m.l <;> cases n.l <;> decide
  refine ⟨?_, rfl⟩
  obtain ⟨a0, a1, a2, a3, a4, a5, a6, a7, a8⟩ := m
  obtain ⟨b0, b1, b2, b3, b4, b5, b6, b7, b8⟩ := n
  simp only [M.nums, List.cons.injEq, and_true] at h1
  obtain ⟨rfl, rfl, rfl, rfl, rfl, rfl, rfl⟩ := h1
  have h9' : a7 = b7 := h9
  have h8' : a8 = b8 := h8
  rw [h9', h8']

theorem bytes_inj {m n : M} (hm : okB m = true) (hn : okB n = true) (h : m.bytes = n.bytes) : m = n := (bytes_cut (t := []) hm hn (by rw [List.append_nil]; exact h)).1

end Go.Proofs.YtbebfliimjjohaaGreatDoor.Num
end

section
namespace Go.Proofs.YtbebfliimjjohaaGreatDoor.Wire
open Go.RowKit
open Num (okB M)
theorem has_sees {w : World} {B : Nat} {v : Value} {l : List Int} (h : Has w B v l) (hl : 0 < l.length) (hb : ∀ x ∈ l, 0 ≤ x ∧ x < 256) : ∃ g cap, v = .slice (some ⟨g, 0, none⟩) l.length cap ∧ l.length ≤ cap ∧ cap ≤ 9223372036854775807 ∧ Sees w w.heap.size v l := by
  have hlt := h.row.lt
  have hc := @World.ownsRow.cells w B 5 1 v l.length (l.map (Value.int .u8)) h
  rcases h.2 with ⟨_, h0⟩ | ⟨g, cap, cur, rfl, _, _, hn, hm, _⟩
  · omega
  · have hm' : cap ≤ 9223372036854775807 := hm
    refine ⟨g, cap, rfl, hn, hm', _, cap, rfl, hn, hm', hb, fun _ => ⟨g, 0, rfl, (hlt g rfl).2, fun j hj => ?_⟩⟩
    have h1 := hc (g := g) rfl j (.int .u8 (l.getD j 0)) (by rw [List.getElem?_map, List.getElem?_eq_getElem hj, List.getD_eq_getElem?_getD, List.getElem?_eq_getElem hj]; rfl)
    have e : (⟨g, 0, none⟩ : Addr).add j = ⟨g, 0 + j, none⟩ := by unfold Addr.add; split <;> simp_all
    rw [e] at h1
    exact h1

theorem bytes_len {m : M} (h : okB m = true) : m.bytes.length ≤ 64 ∧ 0 < m.bytes.length := by
  simp only [okB, Bool.and_eq_true, decide_eq_true_eq] at h
  have h1 := (Num.body_small _ h.2).1
  have h2 : m.nums.length = 7 := rfl
  rw [Num.M.bytes_eq, List.length_append]
  simp only [Num.M.tail, List.cons_append, List.nil_append, List.length_cons, Num.ints_length]
  omega

theorem dec_back (m : M) (hok : okB m = true) (B : Nat) (v : Value) (w : World) (h : Sees w B v m.bytes) (hB : B ≤ w.heap.size) :
    Calls Tryz.prog 48 #[v] w fun e w' => e = .returned (.tuple #[M.agg m, .nilIface]) ∧ Below w.heap.size w w' := by
  have hl := bytes_len hok
  refine (dec_any B v m.bytes w h (by omega) hB).mono ?_
  rintro e w' ⟨m2, er, rfl, hb, ⟨rfl, h2, h3⟩ | ⟨_, _, h3⟩⟩
  · rw [Num.bytes_inj hok h2 h3]
    exact ⟨rfl, hb⟩
  · exact absurd rfl (h3 m hok)

end Go.Proofs.YtbebfliimjjohaaGreatDoor.Wire
end

section
namespace Go.Proofs.YtbebfliimjjohaaGreatDoor.Wld
open Go.RowKit Go.Maps
open Lease (Ob I64 upd TabIs hol dels objB HasI map_block map_ne)
open Cache (tp row_kept row_below)
open Wal (R WalIs DiskIs Oq Fw rcells)
open Num (M okB strOf)
open Net (NetIs Only pcells)
set_option maxRecDepth 100000 in
theorem up_any (A : Wa) (s : Wd) (w : World) (h : WdIs w A s) : Calls Tryz.prog 13 #[tp A.Q] w fun e w' => e = .returned (.bool s.sv.isSome) ∧ w' = w := by
  have c := h.core.srv
  cases hs : s.sv with
  | none =>
    rw [hs] at c
    unfold svP at c
    go_enter Tryz.func13, Tryz.ntmps13
    go_wp2
    go_ret
    exact ⟨rfl, rfl⟩
  | some v =>
    rw [hs] at c
    unfold svP at c
    go_enter Tryz.func13, Tryz.ntmps13
    go_wp2
    go_ret
    exact ⟨rfl, rfl⟩

set_option maxRecDepth 100000 in
theorem hasW_any (A : Wa) (s : Wd) (k : Int) (w : World) (h : WdIs w A s) : Calls Tryz.prog 45 #[tp A.Q, .int .i64 k] w fun e w' => e = .returned (.bool (s.has k)) ∧ w' = w := by
  have c := h.core.sts
  have n4 := h.n4
  unfold Wd.has
  by_cases h0 : 0 ≤ k
  · by_cases h1 : k < (s.n : Int)
    · rw [decide_eq_true ⟨h0, h1⟩]
      go_enter Tryz.func45, Tryz.ntmps45
      go_wp2
      go_ret
      exact ⟨rfl, rfl⟩
    · rw [decide_eq_false (fun q => h1 q.2)]
      have g1 : decide (k < (s.n : Int)) = false := decide_eq_false h1
      go_enter Tryz.func45, Tryz.ntmps45
      go_wp2
      go_ret
      exact ⟨rfl, rfl⟩
  · rw [decide_eq_false (fun q => h0 q.1)]
    have g1 : decide (0 ≤ k) = false := decide_eq_false h0
    go_enter Tryz.func45, Tryz.ntmps45
    go_wp2
    go_ret
    exact ⟨rfl, rfl⟩

set_option maxRecDepth 100000 in
theorem manyW_any (A : Wa) (s : Wd) (w : World) (h : WdIs w A s) : Calls Tryz.prog 19 #[tp A.Q] w fun e w' => e = .returned (.int .i64 s.net.length) ∧ w' = w := by
  have hm := Net.many_any (A.Q + 1) A.Q (s.net.map encN) w h.net
  rw [List.length_map] at hm
  go_enter Tryz.func19, Tryz.ntmps19
  go_wp2_with (go_at_call 44; refine hm.mono ?_; rintro e w' ⟨rfl, rfl⟩)
  go_ret
  exact ⟨rfl, rfl⟩

structure Sd (w wr : World) (A : Wa) (s : Wd) (t : Int) (l : List M) (B : Nat) (v : Value) (k : Nat) : Prop where
  wd : WdIs wr A (s.send t (l.take k))
  fz : Fz A s w A (s.send t (l.take k)) wr
  row : HasM wr B v l

theorem send_take (s : Wd) (t : Int) (l : List M) (k : Nat) (h : k < l.length) : s.send t (l.take (k + 1)) = (s.send t (l.take k)).put t l[k] := by
  unfold Wd.send
  rw [List.take_succ_eq_append_getElem h, List.foldl_append]
  rfl

set_option maxHeartbeats 4000000 in
set_option maxRecDepth 100000 in
theorem sendW_any (A : Wa) (s : Wd) (t : Int) (l : List M) (B : Nat) (v : Value) (w : World) (h : WdIs w A s) (hl : HasM w B v l) (hll : l.length ≤ 200) (hsm : Small l) :
    Calls Tryz.prog 67 #[tp A.Q, .int .i64 t, v] w fun e w' => e = .returned (.tuple #[]) ∧ WdIs w' A (s.send t l) ∧ Fz A s w A (s.send t l) w' := by
  obtain ⟨av, cv, hav, hcv, hcn⟩ := Net.row_shape hl
  subst hav
  have HS0 : Hid (Sd w w A s t l B (.slice av l.length cv) 0) := ⟨h, Fz.refl _ _ _, hl⟩
  clear h hl hcv
  go_enter Tryz.func67, Tryz.ntmps67
  go_wp2_with fail
  go_loopw [12] (fun i wr => ∃ k : Nat, k ≤ l.length ∧ i = .int .i64 k ∧ Sd w wr A s t l B (.slice av l.length cv) k) (fun i _ => l.length - (intOf i).toNat)
  case atStart => exact ⟨0, by omega, rfl, HS0.out⟩
  case round =>
    obtain ⟨k, hk, rfl, D⟩ := hrel
    by_cases hlt : k < l.length
    · obtain ⟨ao, c, hao, hg⟩ := D.row.at
      obtain ⟨g, hge, hgB, hgs, hcell⟩ := hg (by omega)
      injection hao with hao _ hcc
      subst hao
      subst hcc
      subst hge
      have HT : Hid (s.send t (l.take (k + 1)) = (s.send t (l.take k)).put t l[k]) := send_take s t l k hlt
      have hsz := hsm l[k] (List.getElem_mem hlt)
      have q0 := hcell k 0 hlt (by omega)
      have q1 := hcell k 1 hlt (by omega)
      have q2 := hcell k 2 hlt (by omega)
      have q3 := hcell k 3 hlt (by omega)
      have q4 := hcell k 4 hlt (by omega)
      have q5 := hcell k 5 hlt (by omega)
      have q6 := hcell k 6 hlt (by omega)
      have q7 := hcell k 7 hlt (by omega)
      have q8 := hcell k 8 hlt (by omega)
      obtain ⟨m, hm⟩ : ∃ m, l[k] = m := ⟨_, rfl⟩
      rw [hm] at q0 q1 q2 q3 q4 q5 q6 q7 q8 hsz HT
      have q0' : wr.cell? ⟨g, k * 9, none⟩ = some (.int .i64 m.k) := q0
      simp only [mcell, List.getElem?_cons_succ, List.getElem?_cons_zero] at q1 q2 q3 q4 q5 q6 q7 q8
      have hkI : (k : Int) < (l.length : Int) := by omega
      have hkI0 : (0 : Int) ≤ (k : Int) := by omega
      have HD : Hid (Sd w wr A s t l B (.slice (some ⟨g, 0, none⟩) l.length cv) k) := D
      clear D hg hcell hm q0
      have hput : Hid ((s.send t (l.take k)).put t m = if okB m = true ∧ (s.send t (l.take k)).net.length < 200 then { s.send t (l.take k) with net := (s.send t (l.take k)).net ++ [(t, m)] } else s.send t (l.take k)) := rfl
      cases hok : okB m with
      | false =>
        have henc := fun w => Wire.enc_bad m w (by omega) hok
        unfold Wire.M.agg at henc
        have HP : Hid (s.send t (l.take (k + 1)) = s.send t (l.take k)) := by
          unfold Hid
          rw [HT.out, hput.out, hok, if_neg (by simp)]
        go_wp2_with fail
        generalize hW : wr.alloc (.cells #[.int .i64 m.k, .int .i64 m.c, .int .i64 m.n, .int .i64 m.e, .int .i64 m.s, .int .i64 m.o, .int .i64 m.v, .bool m.l, .string m.d] 96) = w2
        have hb2 : Below wr.heap.size wr w2 := by rw [← hW]; exact (Below.refl _ _).alloc (Nat.le_refl _) _
        clear hW
        refine (henc w2).mono ?_
        rintro e w3 ⟨rfl, hb3⟩
        have hb23 : Below wr.heap.size wr w3 := hb2.trans (hb3.mono hb2.size)
        have HS3 : Hid (Sd w w3 A s t l B (.slice (some ⟨g, 0, none⟩) l.length cv) (k + 1)) := by
          obtain ⟨x1, x2⟩ := HD.out.wd.below hb23
          refine ⟨by rw [HP.out]; exact x1, by rw [HP.out]; exact HD.out.fz.trans x2, HD.out.row.below hb23⟩
        clear henc HD hb2 hb3 hb23 q0' q1 q2 q3 q4 q5 q6 q7 q8
        go_wp2_with fail
        go_roundw
        case rel => exact ⟨k + 1, by omega, by go_num, HS3.out⟩
        case measure => simp [intOf]; omega
      | true =>
        have henc := fun w => Wire.enc_ok m w (by omega) hok
        unfold Wire.M.agg at henc
        have HOK : Hid (okB m = true) := hok
        clear hok
        go_wp2_with fail
        generalize hW : wr.alloc (.cells #[.int .i64 m.k, .int .i64 m.c, .int .i64 m.n, .int .i64 m.e, .int .i64 m.s, .int .i64 m.o, .int .i64 m.v, .bool m.l, .string m.d] 96) = w2
        have hb2 : Below wr.heap.size wr w2 := by rw [← hW]; exact (Below.refl _ _).alloc (Nat.le_refl _) _
        clear hW
        refine (henc w2).mono ?_
        rintro e w3 ⟨vb, rfl, hH3, hb3⟩
        have hb23 : Below wr.heap.size wr w3 := hb2.trans (hb3.mono hb2.size)
        obtain ⟨x1, x2⟩ := HD.out.wd.below hb23
        have hr3 := HD.out.row.below hb23
        have hlen := Wire.bytes_len HOK.out
        obtain ⟨gb, cb, rfl, _, _, hsees⟩ := Wire.has_sees hH3 (by omega) (Num.bytes_byte HOK.out)
        have hsd := Net.send_any (A.Q + 1) A.Q w3.heap.size _ t (.slice (some ⟨gb, 0, none⟩) m.bytes.length cb) m.bytes w3 x1.net hsees (Nat.le_refl _)
        have HX : Hid (WdIs w3 A (s.send t (l.take k)) ∧ Fz A s w A (s.send t (l.take k)) w3 ∧ HasM w3 B (.slice (some ⟨g, 0, none⟩) l.length cv) l) := ⟨x1, HD.out.fz.trans x2, hr3⟩
        clear henc HD hb2 hb3 hb23 q0' q1 q2 q3 q4 q5 q6 q7 q8 x1 x2 hr3 hH3 hsees
        go_wp2_with fail
        refine hsd.mono ?_
        rintro e w4 ⟨rfl, hN4, hO4⟩
        have HS4 : Hid (Sd w w4 A s t l B (.slice (some ⟨g, 0, none⟩) l.length cv) (k + 1)) := by
          obtain ⟨y1, y2, y3⟩ := HX.out
          have hmap : Net.put ((s.send t (l.take k)).net.map encN) (t, strOf m.bytes) = ((s.send t (l.take k)).put t m).net.map encN := by
            rw [hput.out]
            unfold Net.put
            rw [List.length_map]
            by_cases hq : (s.send t (l.take k)).net.length < 200
            · rw [if_pos hq, if_pos ⟨HOK.out, hq⟩, List.map_append]
              rfl
            · rw [if_neg hq, if_neg (fun q => hq q.2)]
          rw [hmap] at hN4
          obtain ⟨z1, z2⟩ := y1.netted hN4 hO4
          have heq : ({ s.send t (l.take k) with net := ((s.send t (l.take k)).put t m).net } : Wd) = (s.send t (l.take k)).put t m := by
            rw [hput.out]
            split <;> rfl
          rw [heq] at z1 z2
          refine ⟨by rw [HT.out]; exact z1, by rw [HT.out]; exact y2.trans z2, row_kept y3 fun q hq => ?_⟩
          obtain ⟨_, hqt⟩ := row_isC y3 hq
          exact hO4.block q hqt.lt (hqt.ne y1.core.typ (by decide)) (.inr fun c f e => hqt.ne ⟨c, f, e⟩ (by decide) rfl)
        clear hsd hN4 hO4 HX
        go_wp2_with fail
        go_roundw
        case rel => exact ⟨k + 1, by omega, by go_num, HS4.out⟩
        case measure => simp [intOf]; omega
    · obtain rfl : k = l.length := by omega
      have HD : Hid (Sd w wr A s t l B (.slice av l.length cv) l.length) := D
      clear D
      go_wp2_with fail
      go_end0
      have := HD.out.wd
      have h2 := HD.out.fz
      rw [List.take_length] at this h2
      exact ⟨rfl, this, h2⟩

end Go.Proofs.YtbebfliimjjohaaGreatDoor.Wld
end

section
namespace Go.Proofs.YtbebfliimjjohaaGreatDoor.Gen
open Go
section
variable {P : Program} {ops : Array Oper} {Q : Exit → Act → World → Prop} {md : Region.Mode} {S : World → Prop}
theorem two {i j : Nat} {o o' : Oper} {d d' : Option Tmp} {op op' : Op} {ty ty' : TypeId} {ps ps' : String} {af af' : Array Edge} {fuel : Nat} {listed : Array Bool} {a : Act} {w : World} (hr : Region.ready md ops listed = [i, j]) (ho : ops[i]? = some o) (hoe : o = ⟨d, op, ty, ps, af, none⟩) (ho' : ops[j]? = some o') (hoe' : o' = ⟨d', op', ty', ps', af', none⟩)
    (h : ∀ K : Act → World → Prop, Shut (∀ a w, S w → (S w → anyM P md ops Q S fuel (listed.setIfInBounds i true) a w) → K a w) → Oper.wp P ⟨d, op, ty, ps, af, none⟩ a w K Q)
    (h' : ∀ K : Act → World → Prop, Shut (∀ a w, S w → (S w → anyM P md ops Q S fuel (listed.setIfInBounds j true) a w) → K a w) → Oper.wp P ⟨d', op', ty', ps', af', none⟩ a w K Q) : anyM P md ops Q S (fuel + 1) listed a w := by
  subst hoe hoe'
  refine ⟨fun h0 => (by rw [hr] at h0; cases h0), fun k hk => ?_⟩
  rw [hr] at hk
  rcases List.mem_cons.1 hk with rfl | hk
  · unfold wpOp
    simp only [ho, Region.wanted, if_true]
    exact .inl (h _ (fun a w hS hW => ⟨fun _ => hS, hW hS⟩))
  · obtain rfl := List.mem_singleton.1 hk
    unfold wpOp
    simp only [ho', Region.wanted, if_true]
    exact .inl (h' _ (fun a w hS hW => ⟨fun _ => hS, hW hS⟩))

end
end Go.Proofs.YtbebfliimjjohaaGreatDoor.Gen
end

section
namespace Go.Proofs.YtbebfliimjjohaaGreatDoor.Wld
open Go.RowKit Go.Maps
open Lease (Ob I64 upd TabIs hol dels objB HasI map_block map_ne)
open Cache (tp row_kept row_below)
open Wal (R WalIs DiskIs Oq Fw rcells)
open Num (M okB strOf)
open Net (NetIs Only pcells)
theorem wp_oneMsg {o : Oper} {a : Act} {w : World} {K : Act → World → Prop} {Q : Exit → Act → World → Prop} (t : Nat) (ho : o.op = .buildSlice 107 1 #[(0, .tmp t)]) (m : M) (ht : a.eval (.tmp t) = Wire.M.agg m)
    (h : K (a.put o.dst (.slice (some ⟨w.heap.size, 0, none⟩) 1 1)) (w.alloc (.cells #[.int .i64 m.k, .int .i64 m.c, .int .i64 m.n, .int .i64 m.e, .int .i64 m.s, .int .i64 m.o, .int .i64 m.v, .bool m.l, .string m.d] 96))) : o.wp Tryz.prog a w K Q := by
  obtain ⟨i0, hi, hy0, hy1, hy2⟩ := info_parts info_msg
  refine wp_buildSlice 107 96 1 _ ho _ i0 _ Tryz.underlying107 hi hy0 (by rw [hy1]; decide) (by rw [hy1]; decide) ?_ h
  rw [hy1]
  simp only [List.map_toArray, List.map_cons, List.map_nil, ht]
  exact fill_msg m

structure An (w wr : World) (A : Wa) (s : Wd) (l : List M) (B : Nat) (v : Value) (k : Nat) : Prop where
  wd : WdIs wr A (s.tells (l.take k))
  fz : Fz A s w A (s.tells (l.take k)) wr
  row : HasM wr B v l
  sep : ∀ g, v.ownBlock = some g → ¬ wfoot wr A (s.tells (l.take k)) g

theorem tells_take (s : Wd) (l : List M) (k : Nat) (h : k < l.length) : s.tells (l.take (k + 1)) = (s.tells (l.take k)).put (seatN l[k].c : Nat) l[k] := by
  unfold Wd.tells
  rw [List.take_succ_eq_append_getElem h, List.foldl_append]
  rfl

theorem send_one (s : Wd) (t : Int) (m : M) : s.send t [m] = s.put t m := rfl

theorem tells_sv : ∀ (l : List M) (s : Wd), (s.tells l).sv = s.sv
  | [], s => rfl
  | m :: l, s => by
    show ((s.put _ m).tells l).sv = s.sv
    rw [tells_sv l]
    unfold Wd.put
    split <;> rfl

set_option maxHeartbeats 4000000 in
set_option maxRecDepth 100000 in
theorem answerW_any (A : Wa) (s : Wd) (sv : Sv) (l : List M) (B : Nat) (v : Value) (w : World) (h : WdIs w A s) (hs : s.sv = some sv) (hl : HasM w B v l) (hsep : ∀ g, v.ownBlock = some g → ¬ wfoot w A s g) (hll : l.length ≤ 200) (hsm : Small l) (hc : ∀ m ∈ l, 0 ≤ m.c) :
    Calls Tryz.prog 63 #[tp A.Q, v] w fun e w' => e = .returned (.tuple #[]) ∧ WdIs w' A (s.tells l).fallen ∧ Fz A s w A (s.tells l).fallen w' := by
  obtain ⟨av, cv, hav, hcv, hcn⟩ := Net.row_shape hl
  subst hav
  have HS0 : Hid (An w w A s l B (.slice av l.length cv) 0) := ⟨h, Fz.refl _ _ _, hl, hsep⟩
  clear h hl hcv hsep
  go_enter Tryz.func63, Tryz.ntmps63
  go_wp2_with fail
  go_loopw [8] (fun i wr => ∃ k : Nat, k ≤ l.length ∧ i = .int .i64 k ∧ An w wr A s l B (.slice av l.length cv) k) (fun i _ => l.length - (intOf i).toNat)
  case atStart => exact ⟨0, by omega, rfl, HS0.out⟩
  case round =>
    obtain ⟨k, hk, rfl, D⟩ := hrel
    by_cases hlt : k < l.length
    · obtain ⟨ao, c, hao, hg⟩ := D.row.at
      obtain ⟨g, hge, hgB, hgs, hcell⟩ := hg (by omega)
      injection hao with hao _ hcc
      subst hao
      subst hcc
      subst hge
      have HT : Hid (s.tells (l.take (k + 1)) = (s.tells (l.take k)).put (seatN l[k].c : Nat) l[k]) := tells_take s l k hlt
      have hsz := hsm l[k] (List.getElem_mem hlt)
      have hc0 := hc l[k] (List.getElem_mem hlt)
      have q0 := hcell k 0 hlt (by omega)
      have q1 := hcell k 1 hlt (by omega)
      have q2 := hcell k 2 hlt (by omega)
      have q3 := hcell k 3 hlt (by omega)
      have q4 := hcell k 4 hlt (by omega)
      have q5 := hcell k 5 hlt (by omega)
      have q6 := hcell k 6 hlt (by omega)
      have q7 := hcell k 7 hlt (by omega)
      have q8 := hcell k 8 hlt (by omega)
      obtain ⟨m, hm⟩ : ∃ m, l[k] = m := ⟨_, rfl⟩
      rw [hm] at q0 q1 q2 q3 q4 q5 q6 q7 q8 hsz HT hc0
      have q0' : wr.cell? ⟨g, k * 9, none⟩ = some (.int .i64 m.k) := q0
      simp only [mcell, List.getElem?_cons_succ, List.getElem?_cons_zero] at q1 q2 q3 q4 q5 q6 q7 q8
      have hkI : (k : Int) < (l.length : Int) := by omega
      have hkI0 : (0 : Int) ≤ (k : Int) := by omega
      have HD : Hid (An w wr A s l B (.slice (some ⟨g, 0, none⟩) l.length cv) k) := D
      clear D hg hcell hm q0
      go_upto_region 3 with fail
      generalize hW : wr.alloc (.cells #[.int .i64 m.k, .int .i64 m.c, .int .i64 m.n, .int .i64 m.e, .int .i64 m.s, .int .i64 m.o, .int .i64 m.v, .bool m.l, .string m.d] 96) = w2
      have hb2 : Below wr.heap.size wr w2 := by rw [← hW]; exact (Below.refl _ _).alloc (Nat.le_refl _) _
      have hs2 : wr.heap.size < w2.heap.size := by rw [← hW]; simp
      have hB2 : MB w2 wr.heap.size m := by rw [← hW]; exact mbox_is wr m.k m.c m.n m.e m.s m.o m.v m.l m.d
      clear hW q0' q1 q2 q3 q4 q5 q6 q7 q8
      have b0 := hB2.c0
      have b1 := hB2.c1
      have b2 := hB2.c2
      have b3 := hB2.c3
      have b4 := hB2.c4
      have b5 := hB2.c5
      have b6 := hB2.c6
      have b7 := hB2.c7
      have b8 := hB2.c8
      have hlt2 : wr.heap.size < w2.heap.size := hs2
      have p0 := fun ob => (World.cell?_alloc_lt w2 ob ⟨wr.heap.size, 0, none⟩ hlt2).trans b0
      have p1 := fun ob => (World.cell?_alloc_lt w2 ob ⟨wr.heap.size, 1, none⟩ hlt2).trans b1
      have p2 := fun ob => (World.cell?_alloc_lt w2 ob ⟨wr.heap.size, 2, none⟩ hlt2).trans b2
      have p3 := fun ob => (World.cell?_alloc_lt w2 ob ⟨wr.heap.size, 3, none⟩ hlt2).trans b3
      have p4 := fun ob => (World.cell?_alloc_lt w2 ob ⟨wr.heap.size, 4, none⟩ hlt2).trans b4
      have p5 := fun ob => (World.cell?_alloc_lt w2 ob ⟨wr.heap.size, 5, none⟩ hlt2).trans b5
      have p6 := fun ob => (World.cell?_alloc_lt w2 ob ⟨wr.heap.size, 6, none⟩ hlt2).trans b6
      have p7 := fun ob => (World.cell?_alloc_lt w2 ob ⟨wr.heap.size, 7, none⟩ hlt2).trans b7
      have p8 := fun ob => (World.cell?_alloc_lt w2 ob ⟨wr.heap.size, 8, none⟩ hlt2).trans b8
      have hseat := fun w => seat_any m.c w hc0
      obtain ⟨x1, x2⟩ := HD.out.wd.below hb2
      have hb3 : Below w2.heap.size w2 (w2.alloc (.cells #[.int .i64 m.k, .int .i64 m.c, .int .i64 m.n, .int .i64 m.e, .int .i64 m.s, .int .i64 m.o, .int .i64 m.v, .bool m.l, .string m.d] 96)).drew := ((Below.refl _ _).alloc (Nat.le_refl _) _).drew
      obtain ⟨x3, x4⟩ := x1.below hb3
      have hsend := sendW_any A (s.tells (l.take k)) (seatN m.c : Nat) [m] w2.heap.size (.slice (some ⟨w2.heap.size, 0, none⟩) 1 1) _ x3 (HasM.one w2 w2.heap.size m (Nat.le_refl _)) (by simp) (Small.one hsz)
      rw [send_one, ← HT.out] at hsend
      have nxt : ∀ w4, WdIs w4 A (s.tells (l.take (k + 1))) → Fz A (s.tells (l.take k)) (w2.alloc (.cells #[.int .i64 m.k, .int .i64 m.c, .int .i64 m.n, .int .i64 m.e, .int .i64 m.s, .int .i64 m.o, .int .i64 m.v, .bool m.l, .string m.d] 96)).drew A (s.tells (l.take (k + 1))) w4 → An w w4 A s l B (.slice (some ⟨g, 0, none⟩) l.length cv) (k + 1) := fun w4 hW4 hZ4 => by
        have z := (x2.trans x4).trans hZ4
        have hr := HD.out.row
        refine ⟨hW4, HD.out.fz.trans z, row_kept hr fun q hq => z.block q (World.ownsRow.lt hr q hq).2 (HD.out.sep q hq) (fun e => (row_isC hr hq).2.ne e (by decide) rfl), fun q hq f => HD.out.sep q hq (z.grows q (World.ownsRow.lt hr q hq).2 f)⟩
      clear x1 x2 x3 x4 hb2 hb3 hB2 HD
      refine Gen.start (S := fun w' => w'.cell? ⟨wr.heap.size, 0, none⟩ = some (.int .i64 m.k) ∧ w'.cell? ⟨wr.heap.size, 1, none⟩ = some (.int .i64 m.c) ∧ w'.cell? ⟨wr.heap.size, 2, none⟩ = some (.int .i64 m.n) ∧ w'.cell? ⟨wr.heap.size, 3, none⟩ = some (.int .i64 m.e) ∧ w'.cell? ⟨wr.heap.size, 4, none⟩ = some (.int .i64 m.s) ∧ w'.cell? ⟨wr.heap.size, 5, none⟩ = some (.int .i64 m.o) ∧ w'.cell? ⟨wr.heap.size, 6, none⟩ = some (.int .i64 m.v) ∧ w'.cell? ⟨wr.heap.size, 7, none⟩ = some (.bool m.l) ∧ w'.cell? ⟨wr.heap.size, 8, none⟩ = some (.string m.d)) (by kernel_rfl) ⟨b0, b1, b2, b3, b4, b5, b6, b7, b8⟩ (fun hHeld => ?_)
      refine Gen.tk 0 6 ?_ rfl rfl (Or.inl ⟨by rfl, ?_⟩) hHeld ?_
      rotate_left
      · intro w' hSw
        obtain ⟨s0, s1, s2, s3, s4, s5, s6, s7, s8⟩ := hSw
        go_simp
        try with_reducible rfl
      go_frame
      refine Gen.tk 1 2 ?_ rfl rfl (Or.inl ⟨by rfl, ?_⟩) hHeld ?_
      rotate_left
      · intro w' hSw
        obtain ⟨s0, s1, s2, s3, s4, s5, s6, s7, s8⟩ := hSw
        go_simp
        try with_reducible rfl
      go_frame
      refine Gen.tk 2 3 ?_ rfl rfl (Or.inl ⟨by rfl, ?_⟩) hHeld ?_
      rotate_left
      · intro w' hSw
        obtain ⟨s0, s1, s2, s3, s4, s5, s6, s7, s8⟩ := hSw
        go_simp
        try with_reducible rfl
      go_frame
      refine Gen.tk 4 5 ?_ rfl rfl (Or.inl ⟨by rfl, ?_⟩) hHeld ?_
      rotate_left
      · intro w' hSw
        obtain ⟨s0, s1, s2, s3, s4, s5, s6, s7, s8⟩ := hSw
        go_simp
        try with_reducible rfl
      go_frame
      refine Gen.two (i := 3) (j := 5) (by kernel_rfl) rfl rfl rfl rfl (fun K hK => ?_) (fun K hK => ?_)
      · go_simp
        refine (hseat _).mono ?_
        rintro e w3 ⟨rfl, hw3⟩
        rw [hw3]
        clear hw3
        dsimp only
        refine hK.out _ _ ⟨b0, b1, b2, b3, b4, b5, b6, b7, b8⟩ (fun hHeld => ?_)
        clear hK K
        try go_frame
        refine Gen.one (i := 5) (by kernel_rfl) rfl rfl (fun K hK => ?_)
        refine wp_oneMsg 16 rfl m rfl ?_
        refine hK.out _ _ ⟨p0 _, p1 _, p2 _, p3 _, p4 _, p5 _, p6 _, p7 _, p8 _⟩ (fun hHeld => ?_)
        clear hK K
        try go_frame
        refine Gen.last (i := 6) (by kernel_rfl) rfl rfl (by kernel_rfl) (by kernel_rfl) (fun K hK => ?_)
        go_simp
        refine hsend.mono ?_
        rintro e w4 ⟨rfl, hW4, hZ4⟩
        have HN := nxt w4 hW4 hZ4
        dsimp only
        refine hK.out _ _ ?_
        clear hK K hHeld hW4 hZ4
        go_wp2_with fail
        go_roundw
        case rel => exact ⟨k + 1, by omega, by go_num, HN⟩
        case measure => simp [intOf]; omega
      · refine wp_oneMsg 16 rfl m rfl ?_
        refine hK.out _ _ ⟨p0 _, p1 _, p2 _, p3 _, p4 _, p5 _, p6 _, p7 _, p8 _⟩ (fun hHeld => ?_)
        clear hK K
        try go_frame
        refine Gen.one (i := 3) (by kernel_rfl) rfl rfl (fun K hK => ?_)
        go_simp
        refine (hseat _).mono ?_
        rintro e w3 ⟨rfl, hw3⟩
        rw [hw3]
        clear hw3
        dsimp only
        refine hK.out _ _ ⟨p0 _, p1 _, p2 _, p3 _, p4 _, p5 _, p6 _, p7 _, p8 _⟩ (fun hHeld => ?_)
        clear hK K
        try go_frame
        refine Gen.last (i := 6) (by kernel_rfl) rfl rfl (by kernel_rfl) (by kernel_rfl) (fun K hK => ?_)
        go_simp
        refine hsend.mono ?_
        rintro e w4 ⟨rfl, hW4, hZ4⟩
        have HN := nxt w4 hW4 hZ4
        dsimp only
        refine hK.out _ _ ?_
        clear hK K hHeld hW4 hZ4
        go_wp2_with fail
        go_roundw
        case rel => exact ⟨k + 1, by omega, by go_num, HN⟩
        case measure => simp [intOf]; omega
    · obtain rfl : k = l.length := by omega
      have wd := D.wd
      have fz := D.fz
      rw [List.take_length] at wd fz
      have hsv : (s.tells l).sv = some sv := (tells_sv l s).trans hs
      have hdn := down_any A.a sv wr (wd.up sv hsv).sv
      have srv := wd.core.srv
      have hfr := wd.core.free 12407
      rw [hsv] at srv
      unfold svP at srv
      have HDN := wd.setDown
      cases hd : sv.down with
      | true =>
        rw [hd] at hdn
        have HF : Hid (WdIs (wr.setCell ⟨A.Q, 12407, none⟩ (.pointer none)) A (s.tells l).fallen ∧ Fz A s w A (s.tells l).fallen (wr.setCell ⟨A.Q, 12407, none⟩ (.pointer none))) := by
          have e : (s.tells l).fallen = { s.tells l with sv := none } := by
            unfold Wd.fallen
            rw [hsv]
            exact if_pos hd
          rw [e]
          exact ⟨HDN.1, fz.trans HDN.2⟩
        clear D wd fz HDN HS0
        go_wp2_with fail
        refine hdn.mono ?_
        rintro e w2 ⟨rfl, rfl⟩
        go_wp2_with fail
        go_end0
        exact ⟨rfl, HF.out⟩
      | false =>
        rw [hd] at hdn
        have HF : Hid (WdIs wr A (s.tells l).fallen ∧ Fz A s w A (s.tells l).fallen wr) := by
          have e : (s.tells l).fallen = s.tells l := by
            unfold Wd.fallen
            rw [hsv]
            exact if_neg (by rw [hd]; decide)
          rw [e]
          exact ⟨wd, fz⟩
        clear D wd fz HDN HS0
        go_wp2_with fail
        refine hdn.mono ?_
        rintro e w2 ⟨rfl, rfl⟩
        go_wp2_with fail
        go_end0
        exact ⟨rfl, HF.out⟩

end Go.Proofs.YtbebfliimjjohaaGreatDoor.Wld
end

section
namespace Go.Proofs.YtbebfliimjjohaaGreatDoor.Wld
open Go.RowKit Go.Maps
open Lease (Ob I64 upd TabIs hol dels objB HasI map_block map_ne)
open Cache (tp row_kept row_below)
open Wal (R WalIs DiskIs Oq Fw rcells)
open Num (M okB strOf)
open Net (NetIs Only pcells)
theorem WdIs.evented {w w' : World} {A : Wa} {s : Wd} (h : WdIs w A s) {L : List Ev} {v' : Value} (h1 : w'.os = w.os) (h2 : w'.tape = w.tape) (h3 : w'.output = w.output) (hs : w.heap.size ≤ w'.heap.size)
    (hb : ∀ k, k < w.heap.size → k ≠ A.Q → (∀ v, w.cell? ⟨A.Q, 12410, none⟩ = some v → v.ownBlock ≠ some k) → w'.heap[k]? = w.heap[k]?) (hc : ∀ i, i ≠ 12410 → w'.cell? ⟨A.Q, i, none⟩ = w.cell? ⟨A.Q, i, none⟩) (hf : ∀ i, w'.frozen? ⟨A.Q, i, none⟩ = w.frozen? ⟨A.Q, i, none⟩) (ht : isC w' A.Q 75)
    (hv : w'.cell? ⟨A.Q, 12410, none⟩ = some v') (hrow : w'.ownsRow (A.Q + 1) 44 10 v' L.length (ecells L)) (hat : ∀ g, v'.ownBlock = some g → g < w.heap.size → ∃ v, w.cell? ⟨A.Q, 12410, none⟩ = some v ∧ v.ownBlock = some g) :
    WdIs w' A { s with events := L } ∧ Fz A s w A { s with events := L } w' := by
  have hlt := h.lt
  obtain ⟨kd0, kd1, kd2⟩ := h.kinds
  obtain ⟨v0, hv0, hr0⟩ := h.evs
  have hbC : ∀ k t, isC w k t → k ≠ A.Q → t ≠ 44 → w'.heap[k]? = w.heap[k]? := fun k t hk hq ht => hb k hk.lt hq fun v hv e => by
    rw [hv0] at hv
    injection hv with hv
    subst hv
    exact hk.ne (row_isC hr0 e).2 ht rfl
  have hbM : ∀ k, isM w k → k < w.heap.size → k ≠ A.Q → w'.heap[k]? = w.heap[k]? := fun k hk hl hq => hb k hl hq fun v hv e => by
    rw [hv0] at hv
    injection hv with hv
    subst hv
    exact hk.ne (row_isC hr0 e).2 rfl
  have hG := hbC A.G _ h.gt (Ne.symm kd0) (by decide)
  have hD : DiskIs w' A.Q s.rs s.fails s.left := DiskIs.cells h.disk (fun i _ _ => hc i (by omega)) hf
  have hfoot : ∀ v, s.sv = some v → ∀ k, foot w A.a k → k ≠ A.a.q → w'.heap[k]? = w.heap[k]? := fun v hv k hk hq => by
    have u := h.up v hv
    have hq' : k ≠ A.Q := by rw [← u.q]; exact hq
    rcases u.sv.kind hk with f | f | f | f | f | f | f
    · exact (hq f).elim
    · exact hbM k (by rw [f]; exact owns_isM u.sv.tab.own) (u.sv.footLt hk) hq'
    · exact hbC k _ f hq' (by decide)
    · exact hbC k _ f hq' (by decide)
    · exact hbC k _ f hq' (by decide)
    · exact hbC k _ f hq' (by decide)
    · exact hbC k _ f hq' (by decide)
  have hN : NetIs w' (A.Q + 1) A.Q (s.net.map encN) := NetIs.kept h.net hs (hc _ (by omega)) (hc _ (by omega)) hf fun v g hv hg => by
    obtain ⟨v', hv', hr⟩ := h.net.row
    rw [hv] at hv'
    injection hv' with hv'
    subst hv'
    exact hbC g _ (row_isC hr hg).2 (by have := (row_isC hr hg).1; omega) (by decide)
  refine ⟨⟨(h.core.cells ht (fun i _ hi => hc i hi) hf).of rfl rfl rfl rfl rfl rfl rfl, hD, hN, ⟨v', hv, hrow⟩, h.gt.same hG, fun i => (World.frozen?_of_block (a := ⟨A.G, i, none⟩) hG).trans (h.gf i), fun j hj => (h.seats j hj).same hG,
    fun j hj => (h.cli j hj).blocks (hbC _ _ (h.cli j hj).isC (Ne.symm (kd1 j hj).1) (by decide)) (hbM _ (h.cli j hj).isM (h.cli j hj).lt.2 (Ne.symm (kd1 j hj).2.1)), h.ap, fun v hv => ?_, h.n1, h.n4⟩,
    ⟨h1, h2, h3, hs, fun k hk hf' _ => hb k hk (fun e => hf' (.Q e)) (fun v hv e => hf' (.ev v hv e)), fun k hk f => ?_, rfl⟩⟩
  · have u := h.up v hv
    exact ⟨u.sv.feet hs (by rw [u.q, u.rs, u.fails, u.left]; exact hD) (hfoot v hv), u.q, u.rs, u.fails, u.left, u.ne, u.to, u.tv⟩
  · rcases f with f | f | ⟨v, f1, f2⟩ | ⟨i, hi, f⟩ | ⟨i, hi, f⟩ | ⟨f1, f2⟩
    · exact .Q f
    · exact .G f
    · rw [hv] at f1
      injection f1 with f1
      subst f1
      obtain ⟨v, g1, g2⟩ := hat k f2 hk
      exact .ev v g1 g2
    · exact .c i hi f
    · exact .m i hi f
    · obtain ⟨v, hv⟩ := Option.isSome_iff_exists.1 f1
      have u := h.up v hv
      have hl := u.sv.lts
      exact .sv f1 ((foot_kept (hfoot v hv _ (.inr (.inr (.inr (.inl rfl)))) (by omega)) (hfoot v hv _ (.inr (.inr (.inl rfl))) (by omega)) k).1 f2)

theorem WdIs.seatSet {w : World} {A : Wa} {s : Wd} (h : WdIs w A s) {i j : Nat} (hi : i < s.n) (hj : j < 4) {x : Value} {st : St} (hk : st.k = (s.seat i).k) (hS : SeatIs (w.setCell ⟨A.G, i * 4 + j, none⟩ x) A.G i (A.c i) st) : WdIs (w.setCell ⟨A.G, i * 4 + j, none⟩ x) A { s with seat := updN s.seat i st } ∧ Fz A s w A { s with seat := updN s.seat i st } (w.setCell ⟨A.G, i * 4 + j, none⟩ x) := by
  have hlt := h.lt
  obtain ⟨kd0, kd1, kd2⟩ := h.kinds
  have hb : ∀ k, k ≠ A.G → (w.setCell ⟨A.G, i * 4 + j, none⟩ x).heap[k]? = w.heap[k]? := fun k hk => Below.heap_setCell w ⟨A.G, i * 4 + j, none⟩ x k hk
  have hsz : (w.setCell ⟨A.G, i * 4 + j, none⟩ x).heap.size = w.heap.size := by simp
  have hQ := hb A.Q kd0
  have eQ : ∀ i', (w.setCell ⟨A.G, i * 4 + j, none⟩ x).cell? ⟨A.Q, i', none⟩ = w.cell? ⟨A.Q, i', none⟩ := fun i' => World.cell?_of_block hQ
  have fQ : ∀ i', (w.setCell ⟨A.G, i * 4 + j, none⟩ x).frozen? ⟨A.Q, i', none⟩ = w.frozen? ⟨A.Q, i', none⟩ := fun i' => World.frozen?_of_block hQ
  have hbC : ∀ k t, isC w k t → t ≠ 84 → (w.setCell ⟨A.G, i * 4 + j, none⟩ x).heap[k]? = w.heap[k]? := fun k t hk ht => hb k (hk.ne h.gt ht)
  have hbM : ∀ k, isM w k → (w.setCell ⟨A.G, i * 4 + j, none⟩ x).heap[k]? = w.heap[k]? := fun k hk => hb k (hk.ne h.gt)
  have hD : DiskIs (w.setCell ⟨A.G, i * 4 + j, none⟩ x) A.Q s.rs s.fails s.left := DiskIs.cells h.disk (fun i _ _ => eQ i) fQ
  have hfoot : ∀ v, s.sv = some v → ∀ k, foot w A.a k → k ≠ A.a.q → (w.setCell ⟨A.G, i * 4 + j, none⟩ x).heap[k]? = w.heap[k]? := fun v hv k hk hq => by
    have u := h.up v hv
    rcases u.sv.kind hk with f | f | f | f | f | f | f
    · exact (hq f).elim
    · exact hbM k (by rw [f]; exact owns_isM u.sv.tab.own)
    · exact hbC k _ f (by decide)
    · exact hbC k _ f (by decide)
    · exact hbC k _ f (by decide)
    · exact hbC k _ f (by decide)
    · exact hbC k _ f (by decide)
  have hN : NetIs (w.setCell ⟨A.G, i * 4 + j, none⟩ x) (A.Q + 1) A.Q (s.net.map encN) := NetIs.kept h.net (by omega) (eQ _) (eQ _) fQ fun v g hv hg => by
    obtain ⟨v', hv', hr⟩ := h.net.row
    rw [hv] at hv'
    injection hv' with hv'
    subst hv'
    exact hbC g _ (row_isC hr hg).2 (by decide)
  refine ⟨⟨(h.core.cells (h.core.typ.same hQ) (fun i _ _ => eQ i) fQ).of rfl rfl rfl rfl rfl rfl rfl, hD, hN, h.evs.imp fun v hv => ⟨(eQ _).trans hv.1, row_kept hv.2 fun g hg => hbC g _ (row_isC hv.2 hg).2 (by decide)⟩, Wal.typ_setCell h.gt, fun i => by rw [World.frozen?_setCell]; exact h.gf i, fun l hl => ?_, fun l hl => ?_, h.ap, fun v hv => ?_, h.n1, h.n4⟩,
    ⟨rfl, rfl, rfl, by omega, fun k hk hf' _ => hb k (fun e => hf' (.G e)), fun k hk f => ?_, rfl⟩⟩
  · show SeatIs _ A.G l (A.c l) (updN s.seat i st l)
    unfold updN
    split
    · rename_i e
      subst e
      exact hS
    · rename_i e
      have q := h.seats l hl
      have e' : ∀ p, p < 4 → (w.setCell ⟨A.G, i * 4 + j, none⟩ x).cell? ⟨A.G, l * 4 + p, none⟩ = w.cell? ⟨A.G, l * 4 + p, none⟩ := fun p hp => World.cell?_setCell_other _ _ _ _ (by intro q; injection q with _ q; omega)
      exact ⟨(e' 0 (by omega)).trans q.c0, (e' 1 (by omega)).trans q.c1, (e' 2 (by omega)).trans q.c2, (e' 3 (by omega)).trans q.c3⟩
  · show CliIs _ _ _ (updN s.seat i st l).k
    have key : (updN s.seat i st l).k = (s.seat l).k := by
      unfold updN
      split
      · rename_i e
        subst e
        exact hk
      · rfl
    rw [key]
    exact (h.cli l hl).blocks (hbC _ _ (h.cli l hl).isC (by decide)) (hbM _ (h.cli l hl).isM)
  · have u := h.up v hv
    exact ⟨u.sv.feet (by omega) (by rw [u.q, u.rs, u.fails, u.left]; exact hD) (hfoot v hv), u.q, u.rs, u.fails, u.left, u.ne, u.to, u.tv⟩
  · rcases f with f | f | ⟨v, f1, f2⟩ | ⟨i', hi', f⟩ | ⟨i', hi', f⟩ | ⟨f1, f2⟩
    · exact .Q f
    · exact .G f
    · exact .ev v ((eQ _).symm.trans f1) f2
    · exact .c i' hi' f
    · exact .m i' hi' f
    · obtain ⟨v, hv⟩ := Option.isSome_iff_exists.1 f1
      have u := h.up v hv
      have hl := u.sv.lts
      exact .sv f1 ((foot_kept (hfoot v hv _ (.inr (.inr (.inr (.inl rfl)))) (by omega)) (hfoot v hv _ (.inr (.inr (.inl rfl))) (by omega)) k).1 f2)

theorem WdIs.setCall {w : World} {A : Wa} {s : Wd} (h : WdIs w A s) {i : Nat} (hi : i < s.n) (x : Int) : WdIs (w.setCell ⟨A.G, i * 4 + 3, none⟩ (.int .i64 x)) A { s with seat := updN s.seat i { s.seat i with call := x } } ∧ Fz A s w A { s with seat := updN s.seat i { s.seat i with call := x } } (w.setCell ⟨A.G, i * 4 + 3, none⟩ (.int .i64 x)) := by
  have q := h.seats i hi
  have e : ∀ p, p < 3 → (w.setCell ⟨A.G, i * 4 + 3, none⟩ (.int .i64 x)).cell? ⟨A.G, i * 4 + p, none⟩ = w.cell? ⟨A.G, i * 4 + p, none⟩ := fun p hp => World.cell?_setCell_other _ _ _ _ (by intro q; injection q with _ q; omega)
  exact h.seatSet hi (by omega) rfl ⟨(e 0 (by omega)).trans q.c0, (e 1 (by omega)).trans q.c1, (e 2 (by omega)).trans q.c2, World.cell?_setCell_same _ _ _ q.c3⟩

theorem WdIs.setSeatClock {w : World} {A : Wa} {s : Wd} (h : WdIs w A s) {i : Nat} (hi : i < s.n) (x : Int) : WdIs (w.setCell ⟨A.G, i * 4 + 1, none⟩ (.int .i64 x)) A { s with seat := updN s.seat i { s.seat i with clock := x } } ∧ Fz A s w A { s with seat := updN s.seat i { s.seat i with clock := x } } (w.setCell ⟨A.G, i * 4 + 1, none⟩ (.int .i64 x)) := by
  have q := h.seats i hi
  have e : ∀ p, p ≠ 1 → p < 4 → (w.setCell ⟨A.G, i * 4 + 1, none⟩ (.int .i64 x)).cell? ⟨A.G, i * 4 + p, none⟩ = w.cell? ⟨A.G, i * 4 + p, none⟩ := fun p h1 hp => World.cell?_setCell_other _ _ _ _ (by intro q; injection q with _ q; omega)
  exact h.seatSet hi (by omega) rfl ⟨(e 0 (by omega) (by omega)).trans q.c0, World.cell?_setCell_same _ _ _ q.c1, (e 2 (by omega) (by omega)).trans q.c2, (e 3 (by omega) (by omega)).trans q.c3⟩

theorem ecell_length (e : Ev) : (ecell e).length = 10 := rfl

theorem ecells_length (l : List Ev) : (ecells l).length = l.length * 10 := by
  induction l with
  | nil => rfl
  | cons e l ih =>
    have : ecells (e :: l) = ecell e ++ ecells l := rfl
    rw [this, List.length_append, ih, ecell_length, List.length_cons]
    omega

theorem ecells_snoc (l : List Ev) (e : Ev) : ecells (l ++ [e]) = ecells l ++ ecell e := by simp [ecells]

theorem ecells_get : ∀ (l : List Ev) (i j : Nat) (h : i < l.length), j < 10 → (ecells l)[i * 10 + j]? = (ecell l[i])[j]?
  | e :: l, 0, j, _, hj => by
    have : ecells (e :: l) = ecell e ++ ecells l := rfl
    rw [this, Nat.zero_mul, Nat.zero_add, List.getElem?_append_left (by rw [ecell_length]; exact hj)]
    rfl
  | e :: l, i + 1, j, h, hj => by
    have : ecells (e :: l) = ecell e ++ ecells l := rfl
    rw [this, List.getElem?_append_right (by rw [ecell_length]; omega), ecell_length, show (i + 1) * 10 + j - 10 = i * 10 + j by omega]
    exact ecells_get l i j (by simpa using h) hj

theorem ecells_turned {l : List Ev} {i : Nat} {e : Ev} {xs : List Value} (hi : i < l.length) (hl : xs.length = l.length * 10) (h1 : ∀ j, j < 10 → xs[i * 10 + j]? = (ecell e)[j]?) (h2 : ∀ p, p / 10 ≠ i → xs[p]? = (ecells l)[p]?) : xs = ecells (l.set i e) := by
  apply List.ext_getElem?
  intro p
  by_cases hp : p < l.length * 10
  · obtain ⟨a, b, hb, rfl⟩ : ∃ a b, b < 10 ∧ p = a * 10 + b := ⟨p / 10, p % 10, by omega, by omega⟩
    have ha : a < l.length := by omega
    rw [ecells_get (l.set i e) a b (by simpa using ha) hb]
    by_cases hai : a = i
    · subst hai
      rw [h1 b hb, List.getElem_set_self]
    · rw [h2 _ (by omega), ecells_get l a b ha hb, List.getElem_set_ne (by omega)]
  · rw [List.getElem?_eq_none (by omega), List.getElem?_eq_none (by rw [ecells_length, List.length_set]; omega)]

end Go.Proofs.YtbebfliimjjohaaGreatDoor.Wld
end
