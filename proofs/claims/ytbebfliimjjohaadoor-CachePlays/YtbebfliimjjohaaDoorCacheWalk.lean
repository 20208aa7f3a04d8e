/-
  The law's play on a cache.
-/
import Derived.Test.YtbebfliimjjohaaDoorCacheSt
namespace Go.Proofs.YtbebfliimjjohaaDoor.Cache
open Go.RowKit

theorem start_cache (w : World) : CacheIs (w.alloc (.cells #[.int .i64 0, .string ⟨#[]⟩, .int .i64 0, .int .i64 0, .int .i64 0, .string ⟨#[]⟩, .int .i64 0, .int .i64 0, .int .i64 0, .string ⟨#[]⟩, .int .i64 0, .int .i64 0, .int .i64 0, .string ⟨#[]⟩, .int .i64 0, .int .i64 0, .int .i64 0, .string ⟨#[]⟩, .int .i64 0, .int .i64 0, .int .i64 0, .string ⟨#[]⟩, .int .i64 0, .int .i64 0, .int .i64 0] 119)) w.heap.size [] (([] : List E).length : Nat) := ⟨by simp, heap_alloc_new w _⟩
theorem start_rel (w : World) : Rel w w.heap.size (w.heap.size + 1) (w.heap.size + 2) 0 ((w.alloc (.cells #[.int .i64 0, .string ⟨#[]⟩, .int .i64 0, .int .i64 0, .int .i64 0, .string ⟨#[]⟩, .int .i64 0, .int .i64 0, .int .i64 0, .string ⟨#[]⟩, .int .i64 0, .int .i64 0, .int .i64 0, .string ⟨#[]⟩, .int .i64 0, .int .i64 0, .int .i64 0, .string ⟨#[]⟩, .int .i64 0, .int .i64 0, .int .i64 0, .string ⟨#[]⟩, .int .i64 0, .int .i64 0, .int .i64 0] 119)).alloc (.cells #[.slice none 0 0, .int .i64 0] 123)) := by
  have h := start_cache w
  have hb := (Below.refl w.heap.size w).alloc (Nat.le_refl _) (.cells #[.int .i64 0, .string ⟨#[]⟩, .int .i64 0, .int .i64 0, .int .i64 0, .string ⟨#[]⟩, .int .i64 0, .int .i64 0, .int .i64 0, .string ⟨#[]⟩, .int .i64 0, .int .i64 0, .int .i64 0, .string ⟨#[]⟩, .int .i64 0, .int .i64 0, .int .i64 0, .string ⟨#[]⟩, .int .i64 0, .int .i64 0, .int .i64 0, .string ⟨#[]⟩, .int .i64 0, .int .i64 0, .int .i64 0] 119)
  have hs : (w.alloc (.cells #[.int .i64 0, .string ⟨#[]⟩, .int .i64 0, .int .i64 0, .int .i64 0, .string ⟨#[]⟩, .int .i64 0, .int .i64 0, .int .i64 0, .string ⟨#[]⟩, .int .i64 0, .int .i64 0, .int .i64 0, .string ⟨#[]⟩, .int .i64 0, .int .i64 0, .int .i64 0, .string ⟨#[]⟩, .int .i64 0, .int .i64 0, .int .i64 0, .string ⟨#[]⟩, .int .i64 0, .int .i64 0, .int .i64 0] 119)).heap.size = w.heap.size + 1 := by simp
  generalize w.alloc (.cells #[.int .i64 0, .string ⟨#[]⟩, .int .i64 0, .int .i64 0, .int .i64 0, .string ⟨#[]⟩, .int .i64 0, .int .i64 0, .int .i64 0, .string ⟨#[]⟩, .int .i64 0, .int .i64 0, .int .i64 0, .string ⟨#[]⟩, .int .i64 0, .int .i64 0, .int .i64 0, .string ⟨#[]⟩, .int .i64 0, .int .i64 0, .int .i64 0, .string ⟨#[]⟩, .int .i64 0, .int .i64 0, .int .i64 0] 119) = w1 at *
  have hr := heap_alloc_new w1 (.cells #[.slice none 0 0, .int .i64 0] 123)
  rw [hs] at hr
  exact ⟨[], [], .slice none 0 0, 0, h.alloc _, ⟨hr, Row.nil _ _, by omega⟩, List.Perm.refl _, Ord.nil _, by simp, by omega, by omega, hb.alloc (by omega) _, ⟨Nat.le_refl _, by omega⟩, by omega, by omega, by simp; omega⟩

set_option maxHeartbeats 4000000 in
set_option maxRecDepth 100000 in
theorem plays (ao : Option Addr) (cap : Nat) (xs : List Stp) (w : World) (hlen : xs.length ≤ 150) (hgo : Steps w ao xs) (hgr : Bare.Laid w) :
    Calls Tryd.prog 9 #[.slice ao xs.length cap] w fun e w' => e = .returned (.bool true) ∧ Below w.heap.size w w' := by
  have hrel0 := start_rel w
  go_enter Tryd.func9, Tryd.ntmps9
  go_wp2_with fail
  generalize ((w.alloc (.cells #[.int .i64 0, .string ⟨#[]⟩, .int .i64 0, .int .i64 0, .int .i64 0, .string ⟨#[]⟩, .int .i64 0, .int .i64 0, .int .i64 0, .string ⟨#[]⟩, .int .i64 0, .int .i64 0, .int .i64 0, .string ⟨#[]⟩, .int .i64 0, .int .i64 0, .int .i64 0, .string ⟨#[]⟩, .int .i64 0, .int .i64 0, .int .i64 0, .string ⟨#[]⟩, .int .i64 0, .int .i64 0, .int .i64 0] 119)).alloc (.cells #[.slice none 0 0, .int .i64 0] 123)) = w0 at *
  generalize w.heap.size + 2 = B at *
  generalize w.heap.size + 1 = r at *
  obtain ⟨t, ht⟩ : ∃ t, w.heap.size = t := ⟨_, rfl⟩
  have hrel1 : Rel w t r B 0 w0 := by rw [← ht]; exact hrel0
  have htp : Value.pointer (some ⟨w.heap.size, 0, none⟩) = tp t := by rw [ht]
  rw [htp]
  clear hrel0 htp
  go_loopw [5] (fun i wr => ∃ j : Nat, j ≤ xs.length ∧ i = .int .i64 j ∧ Rel w t r B j wr) (fun i _ => xs.length - (intOf i).toNat)
  case atStart => exact ⟨0, by omega, rfl, hrel1⟩
  case round =>
    obtain ⟨j, hj, rfl, hrl⟩ := hrel
    clear hrel1 ht
    by_cases hjl : j < xs.length
    · obtain ⟨bo, off, rfl, hbo, hx⟩ := hgo (by omega)
      have hcells := hx j hjl
      clear hx hgo
      obtain ⟨P, R, v, tm, hS⟩ := hrl
      have c0 := (hS.below.cell (p := ⟨bo, off + j * 5 + 0, none⟩) hbo).trans (hcells 0 (by omega))
      have c1 := (hS.below.cell (p := ⟨bo, off + j * 5 + 1, none⟩) hbo).trans (hcells 1 (by omega))
      have c2 := (hS.below.cell (p := ⟨bo, off + j * 5 + 2, none⟩) hbo).trans (hcells 2 (by omega))
      have c3 := (hS.below.cell (p := ⟨bo, off + j * 5 + 3, none⟩) hbo).trans (hcells 3 (by omega))
      have c4 := (hS.below.cell (p := ⟨bo, off + j * 5 + 4, none⟩) hbo).trans (hcells 4 (by omega))
      generalize xs[j] = x at *
      obtain ⟨wh, o, u, d, n⟩ := x
      simp only [Stp.cells, List.getElem?_cons_zero, List.getElem?_cons_succ, Nat.add_zero] at c0 c1 c2 c3 c4
      clear hcells
      have hj' : (j : Int) < xs.length := by omega
      have hgz := hgr.below hS.below hgr.size
      have hbx := (Below.refl wr.heap.size wr).alloc (Nat.le_refl _) (.cells #[.int .i64 wh, .int .i64 o, .int .i64 u, .string d, .int .i64 n] 125)
      have hSz := hS.other hbx
      have hB := UB.made wr wh o u d n
      have hle := hS.le
      have hlt := hS.lt
      have hrB := hS.ref.lt
      have hne : wr.heap.size ≠ t ∧ wr.heap.size ≠ r := by omega
      have hng : ∀ g, v.ownBlock = some g → g ≠ wr.heap.size := fun g hg => by have := (hS.own g hg).2; omega
      have hgz2 := hgz.below hbx (by have := hgz.size; omega)
      clear hbx
      go_upto_block 2 with fail
      clear c0 c1 c2 c3 c4 hS hgz hle
      generalize wr.alloc (.cells #[.int .i64 wh, .int .i64 o, .int .i64 u, .string d, .int .i64 n] 125) = wz at *
      generalize wr.heap.size = b at *
      have ht6 : tm + 1 < 4611686018427387904 := by have := hSz.tn; omega
      go_cut [7, 8, 9, 10, 11, 12] from 18 to 97 (fun _ _ _ _ _ _ wx => Rel w t r B (j + 1) wx)
      case rest =>
        obtain ⟨P1, R1, v1, tm1, hSc⟩ := hcut
        clear hSz hB
        as_aux_lemma =>
          have hl7 : (P1.map (·.e.o)).length ≤ 7 := by have := hSc.len; simp; omega
          have hmm : ((P1.map (·.e)).map (·.o)) = P1.map (·.e.o) := by rw [List.map_map]; rfl
          have hob := objs_any t _ _ hSc.cac
          rw [hmm] at hob
          go_wp2_with fail
          refine hob.mono ?_
          rintro e w3 ⟨va, rfl, hI3, hb3⟩
          have hS3 := hSc.other hb3
          have hrob := robjs_any r B v1 R1 P1 tm1 w3 hS3.ref hS3.perm hS3.ord (by have := hS3.tn; omega) (by have := hS3.rlen; omega)
          clear hob hmm
          go_wp2_with fail
          refine hrob.mono ?_
          rintro e w4 ⟨vb, rfl, hI4, hb4⟩
          have hS4 := hS3.other hb4
          have hI3' := hI3.below hb4
          clear hrob hS3 hI3 hSc
          go_wp2_with fail
          refine (same_any _ _ _ _ (P1.map (·.e.o)) _ hI3' hI4 hl7).mono ?_
          rintro e w5 ⟨rfl, hb5⟩
          have hfin := (hS4.other hb5).rel
          clear hI3' hI4 hS4
          go_wp2_with fail
          go_roundw
          case rel => exact ⟨j + 1, by omega, by go_num, hfin⟩
          case measure => simp [intOf]; omega
      case first =>
        obtain ⟨q1, q2⟩ := hne
        obtain ⟨d0, d1, d2, d3, d4⟩ := hB.cells
        by_cases w0 : wh = 0
        · subst w0
          as_aux_lemma =>
            go_wp2_with fail
            refine (put_any t o d n u _ _ hSz.cac hSz.ord.objs).mono ?_
            rintro e w3 ⟨rfl, hC3, hO3⟩
            have hB3 := hB.ob hO3 (by simpa using q1)
            have hR3 := hSz.ref1 hO3
            obtain ⟨g0, g1, g2, g3, g4⟩ := hB3.cells
            clear d0 d1 d2 d3 d4 hB3
            have hput := rput_any r B o d n u v R P tm w3 hR3 hSz.perm hSz.ord hSz.t0 ht6 (Nat.le_trans hSz.le hO3.size) hSz.rlen
            clear hR3
            go_wp2_with fail
            refine hput.mono ?_
            rintro e w4 ⟨rfl, ⟨v4, R4, hR4, hp4⟩, hO4⟩
            have hfin := hSz.put hC3 hO3 hR4 hp4 hO4
            clear hput hR4 hp4 hO4 hC3 hO3 g0 g1 g2 g3 g4
            go_wp2_with fail
            go_meet
            case rel => exact hfin
        · have w0' : (wh == 0) = false := by simp [w0]
          by_cases w1 : wh = 1
          · subst w1
            rcases hSz.where o with ⟨i, k, hi, hk, he, ho⟩ | ⟨hn1, hn2⟩
            ·
              as_aux_lemma =>
                have hget := rget_hit r B o v R tm _ hSz.ref hSz.t0 ht6 hSz.rlen i hi ho hSz.rone
                have hko : (P.map fun y : It => y.e)[k].o = o := by rw [he]; exact ho
                obtain ⟨x, hx⟩ : ∃ x, R[i].e = x := ⟨_, rfl⟩
                have HK : Hid ((P.map fun y : It => y.e)[k] = x) := he.trans hx
                have HX : Hid (R[i].e = x) := hx
                rw [hx] at hget
                clear he hx ho
                go_wp2_with fail
                refine hget.mono ?_
                rintro e w3 ⟨rfl, hR3, g, hg, hO3⟩
                have hgB := (hSz.own g hg).1
                have hB3 := hB.ob hO3 (by have := hng g hg; simp; omega)
                have hC3 := hSz.cac1 hO3 (by simp; omega)
                have hbx := (Below.refl w3.heap.size w3).alloc (Nat.le_refl _) (.cells #[.string x.d, .int .i64 x.v] 114)
                have hv3 := VB.made w3 x.d x.v
                have hC4 := hC3.below hbx
                obtain ⟨g0, g1, g2, g3, g4⟩ := hB3.cells
                have hge := hSz.ge
                have hg3 : Bare.Laid w3 := hgr.below (hSz.below.trans (hO3.below (by simp; omega) hSz.below.size)) hgr.size
                have hg4 := hg3.below hbx (by have := hg3.size; omega)
                have HF : Hid (∀ w5, CacheIs w5 t (putL (P.map fun y : It => y.e) (P.map fun y : It => y.e)[k]) (putL (P.map fun y : It => y.e) (P.map fun y : It => y.e)[k]).length → Ob [t] (w3.alloc (.cells #[.string x.d, .int .i64 x.v] 114)) w5 → ∀ w', Below w5.heap.size w5 w' → Rel w t r B (j + 1) w') := fun w5 hC hO w' hb => by
                  rw [← HX.out] at hR3
                  obtain ⟨P', R', v', tm', h'⟩ := hSz.hit hi hk (HK.out.trans HX.out.symm) hR3 hg hO3 hC ((Ob.of_below hbx).trans hO)
                  exact (h'.other hb).rel
                have hbl := hB3.lt
                have hobj := hSz.ord.objs
                have hq3 : t < w3.heap.size := hC3.lt
                clear d0 d1 d2 d3 d4 hB3 hB hR3 hO3 hbx hC3 hSz hgz2 hg3 hget hge hg
                go_wp2_with fail
                have hgt := get_hit o t (P.map fun y : It => y.e) k _ hC4 hobj hk hko
                generalize w3.alloc (.cells #[.string x.d, .int .i64 x.v] 114) = w4 at hv3 hC4 hg4 HF hgt ⊢
                clear g0 g1 g2 g3 g4
                rw [HK.out] at hgt HF
                clear hC4 hobj
                refine hgt.mono ?_
                rintro e w5 ⟨rfl, hC5, hO5⟩
                have hqt : w3.heap.size ∉ [t] := by simp; omega
                have hv5 := hv3.ob hO5 hqt
                have hby := (Below.refl w5.heap.size w5).alloc (Nat.le_refl _) (.cells #[.string x.d, .int .i64 x.v] 114)
                have hv6 := hv5.ob (bs := []) (Ob.of_below hby) (by simp)
                have hv7 := VB.made w5 x.d x.v
                have hfin := fun w' hb => HF.out w5 hC5 hO5 w' hb
                have HG : Hid (∀ w', Below w5.heap.size w5 w' → Rel w t r B (j + 1) w') := hfin
                clear hgt hC5 hO5 hv5 hv3 HF hfin hqt hg4
                generalize w3.heap.size = q at *
                go_wp2_with fail
                generalize w5.alloc (.cells #[.string x.d, .int .i64 x.v] 114) = w6 at hv6 hv7 hby ⊢
                refine (Bare.bare_nil 0 w6).mono ?_
                rintro e w7 ⟨rfl, rfl⟩
                have hfin := HG.out _ hby
                obtain ⟨a0, a1⟩ := hv6.cells
                obtain ⟨b0, b1⟩ := hv7.cells
                clear hby hv6 hv7 HG
                generalize w5.heap.size = p at *
                go_wp2_with fail
                go_meet
                case rel => exact hfin
            ·
              as_aux_lemma =>
                go_wp2_with fail
                refine (rget_miss r B o v R tm _ hSz.ref hSz.t0 ht6 hSz.rlen hn2).mono ?_
                rintro e w3 ⟨rfl, hR3, hO3⟩
                have hB3 := hB.ob hO3 (by simpa using q2)
                have hC3 := hSz.cac1 hO3 (by simp)
                have hbx := (Below.refl w3.heap.size w3).alloc (Nat.le_refl _) (.cells #[.string ⟨#[]⟩, .int .i64 0] 114)
                have hv3 := VB.made w3 ⟨#[]⟩ 0
                have hB4 := hB3.below hbx
                have hC4 := hC3.below hbx
                obtain ⟨g0, g1, g2, g3, g4⟩ := hB3.cells
                have hg3 : Bare.Laid w3 := hgr.below (hSz.below.trans (hO3.below (by simpa using hSz.ge.2) hSz.below.size)) hgr.size
                have hg4 := hg3.below hbx (by have := hg3.size; omega)
                have HF : Hid (∀ w', Below (w3.alloc (.cells #[.string ⟨#[]⟩, .int .i64 0] 114)).heap.size (w3.alloc (.cells #[.string ⟨#[]⟩, .int .i64 0] 114)) w' → Rel w t r B (j + 1) w') := fun w' hb => hSz.miss hR3 hO3 (hbx.trans (hb.mono (by simp)))
                have hbl := hB3.lt
                clear d0 d1 d2 d3 d4 hB3 hB hR3 hO3 hbx hC3 hSz hgz2 hg3
                go_wp2_with fail
                generalize w3.alloc (.cells #[.string ⟨#[]⟩, .int .i64 0] 114) = w4 at hv3 hB4 hC4 hg4 HF ⊢
                clear g0 g1 g2 g3 g4
                generalize w3.heap.size = q at *
                refine (get_miss o t _ w4 hC4 hn1).mono ?_
                rintro e w5 ⟨rfl, hb5⟩
                have hv5 := hv3.ob (bs := []) (Ob.of_below hb5) (by simp)
                have hby := (Below.refl w5.heap.size w5).alloc (Nat.le_refl _) (.cells #[.string ⟨#[]⟩, .int .i64 0] 114)
                have hv6 := hv5.ob (bs := []) (Ob.of_below hby) (by simp)
                have hv7 := VB.made w5 ⟨#[]⟩ 0
                have hg5 := hg4.below hb5 (by have := hg4.size; omega)
                have hg6 := hg5.below hby (by have := hg5.size; omega)
                have hb6 := hb5.trans (hby.mono hb5.size)
                clear hB4 hC4 hv5 hb5 hby hg5 hg4 hv3
                go_wp2_with fail
                generalize w5.alloc (.cells #[.string ⟨#[]⟩, .int .i64 0] 114) = w6 at hv6 hv7 hg6 hb6 ⊢
                generalize w5.heap.size = p at *
                refine (Bare.bare_errno 7 7 w6 hg6).mono ?_
                rintro e w7 ⟨rfl, hb7⟩
                obtain ⟨a0, a1⟩ := (hv6.ob (bs := []) (Ob.of_below hb7) (by simp)).cells
                obtain ⟨b0, b1⟩ := (hv7.ob (bs := []) (Ob.of_below hb7) (by simp)).cells
                have hfin := HF.out w7 (hb6.trans (hb7.mono hb6.size))
                clear hb6 hb7 hv6 hv7 hg6 HF
                go_wp2_with fail
                go_meet
                case rel => exact hfin
          · have w1' : (wh == 1) = false := by simp [w1]
            by_cases w2 : wh = 2
            · subst w2
              as_aux_lemma =>
                go_wp2_with fail
                refine (drop_any o t _ _ hSz.cac hSz.ord.objs).mono ?_
                rintro e w3 ⟨rfl, hC3, hO3⟩
                have hB3 := hB.ob hO3 (by simpa using q1)
                have hR3 := hSz.ref1 hO3
                obtain ⟨g0, g1, g2, g3, g4⟩ := hB3.cells
                clear d0 d1 d2 d3 d4 hB3
                have hdrop := rdrop_any o r B v R tm w3 hR3 (Nat.le_trans hSz.le hO3.size) (by have := hSz.rlen; omega)
                clear hR3
                go_wp2_with fail
                refine hdrop.mono ?_
                rintro e w4 ⟨rfl, ⟨v4, hR4, _⟩, hO4⟩
                have hfin := hSz.drop hC3 hO3 hR4 hO4
                clear hdrop hR4 hO4 hC3 hO3 g0 g1 g2 g3 g4
                go_wp2_with fail
                go_meet
                case rel => exact hfin
            · have w2' : (wh == 2) = false := by simp [w2]
              by_cases w3 : wh = 3
              · subst w3
                as_aux_lemma =>
                  go_wp2_with fail
                  refine (clear_any t _ _ hSz.cac).mono ?_
                  rintro e w3 ⟨rfl, hC3, hO3⟩
                  have hR3 := hSz.ref1 hO3
                  have r0 := hR3.c0
                  have f0 := hR3.free 0
                  have hfin := hSz.clear hC3 hO3
                  clear d0 d1 d2 d3 d4 hR3 hC3 hO3
                  obtain ⟨ra, rc, rfl, _⟩ := hSz.ref.row.shape
                  go_wp2_with fail
                  go_meet
                  case rel => exact hfin
              · have w3' : (wh == 3) = false := by simp [w3]
                as_aux_lemma =>
                  go_wp2_with fail
                  go_meet
                  case rel => exact hSz.more.rel
    · obtain rfl : j = xs.length := by omega
      obtain ⟨P, R, v, tm, hS⟩ := hrl
      have hbl := hS.below
      clear hS hgo
      go_wp2_with fail
      go_ret
      exact ⟨rfl, hbl⟩
end Go.Proofs.YtbebfliimjjohaaDoor.Cache
