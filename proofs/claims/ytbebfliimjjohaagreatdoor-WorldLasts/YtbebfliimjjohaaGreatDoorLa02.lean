/-
  Parts of the proof: CacheGet Num LeaseMap LeaseIs LeaseVol LeaseRef LeaseObj LeaseHold LeaseFlush LeaseNew Add.
-/
import Derived.Test.YtbebfliimjjohaaGreatDoorLa01
import Derived.Test.YtbebfliimjjohaaGreatDoorProg
import Derived.Maps.OwnSet
import Derived.DeepKeys4
import Derived.Test.YtbebfliimjjohaaGreatDoorRows
import Derived.WalkKit
import Derived.ProofKit
import Derived.OpenShut
import Derived.WalkLawsBesides
import Derived.Outline
import Derived.BigRegion
import Derived.StillTailTactics
import Derived.Deep.RegionHeld3
import Derived.BigQuiet
import Derived.Deep.QuietTactic
import Derived.Carry
section
namespace Go.Proofs.YtbebfliimjjohaaGreatDoor.Cache
open Go.RowKit
theorem found_none {o : Int} {L : List E} {i : Int} (h : Found o L i) (hn : ∀ x ∈ L, x.o ≠ o) : i = -1 := by
  rcases h with ⟨rfl, _⟩ | ⟨k, hk, _, ho⟩
  · rfl
  · exact absurd ho (hn _ (List.getElem_mem hk))

theorem found_at {o : Int} {L : List E} {i : Int} {k : Nat} (h : Found o L i) (h1 : L.Pairwise fun a b => a.o ≠ b.o) (hk : k < L.length) (ho : L[k].o = o) : i = (k : Int) := by
  rcases h with ⟨_, hn⟩ | ⟨j, hj, rfl, hjo⟩
  · exact absurd ho (hn _ (List.getElem_mem hk))
  · have hp := List.pairwise_iff_getElem.1 h1
    rcases Nat.lt_trichotomy j k with q | q | q
    · exact absurd (hjo.trans ho.symm) (hp j k hj hk q)
    · rw [q]
    · exact absurd (ho.trans hjo.symm) (hp k j hk hj q)

def vcells (d : ByteArray) (v : Int) : List Value := [.string d, .int .i64 v]

theorem VB.put {w : World} {q : Nat} {d d' : ByteArray} {v v' : Int} (h : VB w q d v) : VB (w.setCells q 0 (vcells d' v')) q d' v' := heap_ow (vcells d' v') 0 w [.string d, .int .i64 v] h (by simp [vcells])

theorem VB.free {w : World} {q : Nat} {d : ByteArray} {v : Int} (h : VB w q d v) (i : Nat) : w.frozen? ⟨q, i, none⟩ = false := by
  unfold VB at h
  simp [World.frozen?, h]

set_option maxHeartbeats 1000000 in
set_option maxRecDepth 100000 in
theorem get_miss (o : Int) (t : Nat) (P X : List Value) (L : List E) (w : World) (h : CacheIs w t P X L L.length) (hn : ∀ x ∈ L, x.o ≠ o) :
    Calls Tryz.prog 92 #[kp t, .int .i64 o] w fun e w' => e = .returned (.tuple #[.agg #[.string ⟨#[]⟩, .int .i64 0], .int .i64 0, .iface 78 (.int .i64 7)]) ∧ Below w.heap.size w w' := by
  have ha := h.alloc (.cells #[.string ⟨#[]⟩, .int .i64 0] 40)
  have hv := VB.made w ⟨#[]⟩ 0
  have hb : Below w.heap.size w (w.alloc (.cells #[.string ⟨#[]⟩, .int .i64 0] 40)) := (Below.refl _ _).alloc (Nat.le_refl _) _
  clear h
  go_enter Tryz.func92, Tryz.ntmps92
  go_wp2_with fail
  generalize w.alloc (.cells #[.string ⟨#[]⟩, .int .i64 0] 40) = w1 at ha hv hb ⊢
  refine (find_any o t P X L w1 ha).mono ?_
  rintro e w2 ⟨i, rfl, hF, hb2⟩
  obtain rfl := found_none hF hn
  have hv2 := hv.ob (bs := []) (Ob.of_below hb2) (by simp)
  have HB : Hid (Below w.heap.size w w2) := hb.trans (hb2.mono hb.size)
  clear hF hn ha hv hb hb2
  obtain ⟨b0, b1⟩ := hv2.cells
  have f0 := hv2.free 0
  have f1 := hv2.free 1
  have hvp : VB ((w2.setCell ⟨w.heap.size, 0, none⟩ (.string ⟨#[]⟩)).setCell ⟨w.heap.size, 1, none⟩ (.int .i64 0)) w.heap.size ⟨#[]⟩ 0 := hv2.put
  have hO : Ob [w.heap.size] w2 ((w2.setCell ⟨w.heap.size, 0, none⟩ (.string ⟨#[]⟩)).setCell ⟨w.heap.size, 1, none⟩ (.int .i64 0)) := ((Ob.refl _ _).setCell (by simp) _).setCell (by simp) _
  clear hv2
  go_wp2_with fail
  generalize (w2.setCell ⟨w.heap.size, 0, none⟩ (.string ⟨#[]⟩)).setCell ⟨w.heap.size, 1, none⟩ (.int .i64 0) = w3 at hvp hO ⊢
  obtain ⟨c0, c1⟩ := hvp.cells
  refine bodyPost_ret (v := .tuple #[.agg #[.string ⟨#[]⟩, .int .i64 0], .int .i64 0, .iface 78 (.int .i64 7)]) (by simp [results, Tryz.results92, go_sem, c0, c1]) rfl ⟨rfl, ?_⟩
  exact HB.out.trans (hO.below (by simp) HB.out.size)

def EB (w : World) (q : Nat) (x : E) : Prop := w.heap[q]? = some (.cells #[.int .i64 x.o, .string x.d, .int .i64 x.v, .int .i64 x.u] 126)

theorem EB.made (w : World) (x : E) : EB (w.alloc (.cells #[.int .i64 x.o, .string x.d, .int .i64 x.v, .int .i64 x.u] 126)) w.heap.size x := heap_alloc_new w _

theorem EB.lt {w : World} {q : Nat} {x : E} (h : EB w q x) : q < w.heap.size := (Array.getElem?_eq_some_iff.1 h).1

theorem EB.ob {w w' : World} {q : Nat} {x : E} {bs : List Nat} (h : EB w q x) (hb : Ob bs w w') (hn : q ∉ bs) : EB w' q x := (hb.block q h.lt hn).trans h

theorem EB.cells {w : World} {q : Nat} {x : E} (h : EB w q x) : w.cell? ⟨q, 0, none⟩ = some (.int .i64 x.o) ∧ w.cell? ⟨q, 1, none⟩ = some (.string x.d) ∧ w.cell? ⟨q, 2, none⟩ = some (.int .i64 x.v) ∧ w.cell? ⟨q, 3, none⟩ = some (.int .i64 x.u) := by
  refine ⟨?_, ?_, ?_, ?_⟩ <;> (rw [cell_of_row _ _ _ _ _ _ h]; rfl)

set_option maxHeartbeats 1000000 in
set_option maxRecDepth 100000 in
theorem get_hit (o : Int) (t : Nat) (P X : List Value) (L : List E) (k : Nat) (w : World) (h : CacheIs w t P X L L.length) (h1 : L.Pairwise fun a b => a.o ≠ b.o) (hk : k < L.length) (ho : L[k].o = o) :
    Calls Tryz.prog 92 #[kp t, .int .i64 o] w fun e w' => e = .returned (.tuple #[.agg #[.string L[k].d, .int .i64 L[k].v], .int .i64 L[k].u, .nilIface]) ∧ CacheIs w' t P X (putL L L[k]) (putL L L[k]).length ∧ Ob [t] w w' := by
  have hlt := h.lt
  have h6 := h.le
  have ha := h.alloc (.cells #[.string ⟨#[]⟩, .int .i64 0] 40)
  have hv := VB.made w ⟨#[]⟩ 0
  have hb : Below w.heap.size w (w.alloc (.cells #[.string ⟨#[]⟩, .int .i64 0] 40)) := (Below.refl _ _).alloc (Nat.le_refl _) _
  clear h
  go_enter Tryz.func92, Tryz.ntmps92
  go_wp2_with fail
  generalize w.alloc (.cells #[.string ⟨#[]⟩, .int .i64 0] 40) = w1 at ha hv hb ⊢
  refine (find_any o t P X L w1 ha).mono ?_
  rintro e w2 ⟨i, rfl, hF, hb2⟩
  obtain rfl := found_at hF h1 hk ho
  have hv2 := hv.ob (bs := []) (Ob.of_below hb2) (by simp)
  have hC2 := ha.below hb2
  have HB : Hid (Below w.heap.size w w2) := hb.trans (hb2.mono hb.size)
  clear hF ha hv hb hb2
  have e0 := hC2.get k 0 hk (by omega)
  have e1 := hC2.get k 1 hk (by omega)
  have e2 := hC2.get k 2 hk (by omega)
  have e3 := hC2.get k 3 hk (by omega)
  simp only [ecells, List.getElem?_cons_zero, List.getElem?_cons_succ, Nat.add_zero] at e0 e1 e2 e3
  obtain ⟨x, hx⟩ : ∃ x, L[k] = x := ⟨_, rfl⟩
  rw [hx] at ho e0 e1 e2 e3
  subst ho
  have HX : Hid (L[k] = x) := hx
  clear hx
  have hkn : (k : Int) < 6 := by omega
  have hk0 : (0 : Int) ≤ (k : Int) := by omega
  have hnk : ¬ ((k : Int) < 0) := by omega
  have hq1 := EB.made w2 x
  have hC3 := hC2.alloc (.cells #[.int .i64 x.o, .string x.d, .int .i64 x.v, .int .i64 x.u] 126)
  have hO3 := (Ob.refl [t] w2).alloc (.cells #[.int .i64 x.o, .string x.d, .int .i64 x.v, .int .i64 x.u] 126)
  have hv3 := hv2.ob hO3 (by simp; omega)
  have hC3lt := hv2.lt
  have hO0 : Ob [t] w w2 := Ob.of_below HB.out
  clear HB hv2
  go_wp2_with fail
  generalize w2.alloc (.cells #[.int .i64 x.o, .string x.d, .int .i64 x.v, .int .i64 x.u] 126) = w3 at hq1 hC3 hO3 hv3 ⊢
  have hO3' : Hid (Ob [t] w w3) := hO0.trans hO3
  obtain ⟨q, hq⟩ : ∃ q, w2.heap.size = q := ⟨_, rfl⟩
  rw [hq] at hq1 hC3lt ⊢
  have hqt : q ∉ [t] := by have := hC2.lt; simp; omega
  clear hO0 hO3 hC2 e0 e1 e2 e3
  refine (put_any t P X x.o x.d x.v x.u L w3 hC3 h1).mono ?_
  rintro e w4 ⟨rfl, hC4, hO4⟩
  have hq4 := hq1.ob hO4 hqt
  have hv4 := hv3.ob hO4 (by simp; omega)
  have HO4 : Hid (Ob [t] w w4) := hO3'.out.trans hO4
  have HC4 : Hid (CacheIs w4 t P X (putL L x) (putL L x).length) := hC4
  clear hO3' hO4 hq1 hv3 hC3 hC4 hqt hq
  obtain ⟨p, hp⟩ : ∃ p, w.heap.size = p := ⟨_, rfl⟩
  rw [hp] at hv4 hC3lt hlt ⊢
  have hpq : p ≠ q := by omega
  obtain ⟨q0, q1, q2, q3⟩ := hq4.cells
  obtain ⟨b0, b1⟩ := hv4.cells
  have f0 := hv4.free 0
  have f1 := hv4.free 1
  have hvp : VB ((w4.setCell ⟨p, 0, none⟩ (.string x.d)).setCell ⟨p, 1, none⟩ (.int .i64 x.v)) p x.d x.v := VB.put hv4
  have hO : Ob [p] w4 ((w4.setCell ⟨p, 0, none⟩ (.string x.d)).setCell ⟨p, 1, none⟩ (.int .i64 x.v)) := ((Ob.refl _ _).setCell (by simp) _).setCell (by simp) _
  clear hv4 hq4
  go_wp2_with fail
  go_region_held3 (fun w' => w'.cell? ⟨q, 1, none⟩ = some (.string x.d) ∧ w'.cell? ⟨q, 2, none⟩ = some (.int .i64 x.v) ∧ w'.cell? ⟨q, 3, none⟩ = some (.int .i64 x.u)) (go_keep) (fail)
  go_wp2_with fail
  generalize (w4.setCell ⟨p, 0, none⟩ (.string x.d)).setCell ⟨p, 1, none⟩ (.int .i64 x.v) = w5 at hvp hO ⊢
  obtain ⟨c0, c1⟩ := hvp.cells
  rw [HX.out]
  refine bodyPost_ret (v := .tuple #[.agg #[.string x.d, .int .i64 x.v], .int .i64 x.u, .nilIface]) (by simp [results, Tryz.results92, go_sem, c0, c1]) rfl ⟨rfl, (HC4.out.ob hO (by simp; omega)).drew, Ob.drew ?_⟩
  exact Ob.new (q := p) ((HO4.out.mono (by simp)).trans (hO.mono (by simp))) (by omega)

end Go.Proofs.YtbebfliimjjohaaGreatDoor.Cache
end

section
namespace Go.Proofs.YtbebfliimjjohaaGreatDoor.Num
def inB (n l h : Int) : Bool := decide (l ≤ n ∧ n ≤ h)

theorem inB_true {n l h : Int} (h1 : l ≤ n) (h2 : n ≤ h) : inB n l h = true := by simp [inB, h1, h2]

theorem inB_below {n l h : Int} (h1 : n < l) : inB n l h = false := by simp [inB]; omega

theorem inB_above {n l h : Int} (h1 : h < n) : inB n l h = false := by simp [inB]; omega

theorem of_inB_true {n l h : Int} (h1 : inB n l h = true) : l ≤ n ∧ n ≤ h := by simpa [inB] using h1

def nbF : Nat → Nat → List Int
  | 0, n => [(n : Int)]
  | f + 1, n => if n < 128 then [(n : Int)] else ((n % 128 + 128 : Nat) : Int) :: nbF f (n / 128)

def nb (n : Nat) : List Int := nbF n n

theorem nbF_same : ∀ (f g n : Nat), n ≤ f → n ≤ g → nbF f n = nbF g n := by
  intro f
  induction f with
  | zero =>
    intro g n hf _
    cases g with
    | zero => rfl
    | succ g => rw [nbF, nbF, if_pos (by omega)]
  | succ f ih =>
    intro g n hf hg
    cases g with
    | zero => rw [nbF, nbF, if_pos (by omega)]
    | succ g =>
      rw [nbF, nbF]
      by_cases h : n < 128
      · rw [if_pos h, if_pos h]
      · rw [if_neg h, if_neg h, ih g (n / 128) (by omega) (by omega)]

theorem nb_lt {n : Nat} (h : n < 128) : nb n = [(n : Int)] := by
  unfold nb
  cases n with
  | zero => rfl
  | succ k => rw [nbF, if_pos h]

theorem nb_ge {n : Nat} (h : ¬ n < 128) : nb n = ((n % 128 + 128 : Nat) : Int) :: nb (n / 128) := by
  unfold nb
  cases n with
  | zero => exact absurd (by omega) h
  | succ k =>
    rw [nbF, if_neg h]
    rw [nbF_same k ((k + 1) / 128) ((k + 1) / 128) (by omega) (by omega)]

theorem nb_length (f : Nat) : ∀ n : Nat, n < 128 ^ (f + 1) → (nb n).length ≤ f + 1 := by
  induction f with
  | zero => intro n h; rw [nb_lt (by simpa using h)]; simp
  | succ f ih =>
    intro n h
    by_cases h1 : n < 128
    · rw [nb_lt h1]; simp
    · rw [nb_ge h1, List.length_cons]
      have := ih (n / 128) (by rw [Nat.div_lt_iff_lt_mul (by omega)]; rw [Nat.pow_succ] at h; exact h)
      omega

theorem nb_pos (n : Nat) : 0 < (nb n).length := by
  by_cases h : n < 128
  · rw [nb_lt h]; simp
  · rw [nb_ge h]; simp

theorem nb_byte (f : Nat) : ∀ n : Nat, n < 128 ^ (f + 1) → ∀ x ∈ nb n, 0 ≤ x ∧ x < 256 := by
  induction f with
  | zero => intro n h x hx; have h' : n < 128 := by simpa using h
            rw [nb_lt h'] at hx; simp at hx; omega
  | succ f ih =>
    intro n h x hx
    by_cases h1 : n < 128
    · rw [nb_lt h1] at hx; simp at hx; omega
    · rw [nb_ge h1, List.mem_cons] at hx
      rcases hx with rfl | hx
      · omega
      · exact ih (n / 128) (by rw [Nat.div_lt_iff_lt_mul (by omega)]; rw [Nat.pow_succ] at h; exact h) x hx

def ints (d : ByteArray) : List Int := d.data.toList.map fun b => ((b.toNat : Nat) : Int)

theorem ints_length (d : ByteArray) : (ints d).length = d.size := by unfold ints; rw [List.length_map]; rfl

theorem ints_byte (d : ByteArray) : ∀ x ∈ ints d, 0 ≤ x ∧ x < 256 := by
  intro x hx
  simp only [ints, List.mem_map] at hx
  obtain ⟨b, _, rfl⟩ := hx
  have := b.toNat_lt
  omega

structure M where
  k : Int
  c : Int
  n : Int
  e : Int
  s : Int
  o : Int
  v : Int
  l : Bool
  d : ByteArray

def M.nums (m : M) : List Int := [m.k, m.c, m.n, m.e, m.s, m.o, m.v]

def numB (n : Int) : Bool := inB n 0 1099511627776

def okB (m : M) : Bool := inB m.k 1 9 && decide (m.d.size ≤ 20) && m.nums.all numB

def body (ns : List Int) : List Int := ns.flatMap fun n => nb n.toNat

def leaseN (l : Bool) : Int := if l then 1 else 0

def M.bytes (m : M) : List Int := body m.nums ++ [leaseN m.l, (m.d.size : Int)] ++ ints m.d

theorem body_snoc (ns : List Int) (n : Int) : body (ns ++ [n]) = body ns ++ nb n.toNat := by simp [body]

theorem nb_small {n : Int} (h : numB n = true) : (nb n.toNat).length ≤ 6 ∧ ∀ x ∈ nb n.toNat, 0 ≤ x ∧ x < 256 := by
  have := of_inB_true h
  have h2 : n.toNat < 128 ^ (5 + 1) := by have : (128 : Nat) ^ (5 + 1) = 4398046511104 := by decide
                                          omega
  exact ⟨nb_length 5 _ h2, nb_byte 5 _ h2⟩

theorem body_small : ∀ ns : List Int, ns.all numB = true → (body ns).length ≤ 6 * ns.length ∧ ∀ x ∈ body ns, 0 ≤ x ∧ x < 256
  | [], _ => by simp [body]
  | n :: ns, h => by
    simp only [List.all_cons, Bool.and_eq_true] at h
    have h1 := nb_small h.1
    have h2 := body_small ns h.2
    have e : body (n :: ns) = nb n.toNat ++ body ns := by simp [body]
    rw [e]
    refine ⟨by simp only [List.length_append, List.length_cons]; omega, fun x hx => ?_⟩
    rcases List.mem_append.1 hx with hx | hx
    · exact h1.2 x hx
    · exact h2.2 x hx

end Go.Proofs.YtbebfliimjjohaaGreatDoor.Num
end

section
namespace Go.Proofs.YtbebfliimjjohaaGreatDoor.Lease
open Go.Maps
theorem laidOut : laidOutB Tryz.prog = true := by kernel_rfl

theorem wideP : (match Tryz.prog.underlying 231 with | some (.array _ _) | some (.struct _) => true | _ => false) = true := by kernel_rfl

theorem rowP : (231 : TypeId) < Tryz.prog.types.size := of_decide_eq_true (by kernel_rfl)

theorem typ3P : Tryz.prog.keyTypeAt 3 231 = true := by kernel_rfl

set_option maxRecDepth 100000 in
theorem lawP : WideMaps.KeyLaw Tryz.prog 231 := deep_law_laid laidOut (m := 3) (by omega) rowP typ3P wideP

theorem keyedP : Keyed Tryz.prog 231 := Keyed.of_law lawP

theorem keyedI : Keyed Tryz.prog 3 := int_keyed Tryz.underlying3

theorem zeroI (w : World) : (zeroValue 3).run Tryz.prog w = .ok (.int .i64 0) w := by kernel_rfl

def I64 (x : Int) : Prop := -9223372036854775808 ≤ x ∧ x ≤ 9223372036854775807

theorem I64.wf {x : Int} (h : I64 x) : (Lit.int .i64 x).wf = true := by
  obtain ⟨h1, h2⟩ := h
  simp only [Lit.wf, IntKind.min, IntKind.max, IntKind.signed, IntKind.bits, Bool.and_eq_true, decide_eq_true_eq, if_true]
  exact ⟨by simpa using h1, by simp; omega⟩

theorem I64.of_wf {x : Int} (h : (Lit.int .i64 x).wf = true) : I64 x := by
  simp only [Lit.wf, IntKind.min, IntKind.max, IntKind.signed, IntKind.bits, Bool.and_eq_true, decide_eq_true_eq, if_true] at h
  obtain ⟨h1, h2⟩ := h
  simp at h1 h2
  exact ⟨by omega, by omega⟩

def kk (c o : Int) : Lit := .string (keyBytes [.int .i64 c, .int .i64 o])

theorem kk_key (c o : Int) : WideAt.IsKeyLit (kk c o) := trivial

theorem sizeT : Tryz.prog.types.size = 278 := by kernel_rfl

theorem cellsP : Tryz.prog.cellsOf 231 = 2 := by kernel_rfl

theorem cellsI : Tryz.prog.cellsOf 3 = 1 := by kernel_rfl

theorem typP : Tryz.prog.keyType 231 = true := by kernel_rfl

theorem lits1 (d : Nat) {x : Int} (h : I64 x) : Tryz.prog.keyLits (d + 1) 3 [.int .i64 x] = some [.int .i64 x] := by
  unfold Program.keyLits
  simp [Tryz.underlying3, h.wf]

theorem keyP {c o : Int} (hc : I64 c) (ho : I64 o) : keyOf Tryz.prog 231 (.agg #[.int .i64 c, .int .i64 o]) = some (kk c o) := by
  have hl : Tryz.prog.keyLits (Tryz.prog.types.size + 1) 231 (Value.agg #[.int .i64 c, .int .i64 o]).cells.toList = some [.int .i64 c, .int .i64 o] := by
    rw [sizeT]
    unfold Program.keyLits
    simp [Tryz.underlying231, Value.cells, cellsP, cellsI, lits1 _ hc, lits1 _ ho]
  have hf : (Value.agg #[.int .i64 c, .int .i64 o]).formed Tryz.prog 231 = true := by simp [Value.formed, Tryz.underlying231, cellsP]
  unfold keyOf
  rw [Tryz.underlying231]
  simp only [typP, hf, Bool.and_self, if_true, hl, Option.map_some]
  rfl

theorem keyI {c : Int} (hc : I64 c) : keyOf Tryz.prog 3 (.int .i64 c) = some (.int .i64 c) := keyOf_int_mk Tryz.underlying3 hc.wf

abbrev Dat := DataW Unit

abbrev num (x : Int) : Dat := .lit (.int .i64 x)

def dels (D : Dat) (c : Int) : Nat → Dat
  | 0 => D
  | n + 1 => (dels D c n).del (kk c n)

def upd (v : Int → Int) (c x : Int) : Int → Int := fun y => if y = c then x else v y

theorem upd_same (v : Int → Int) (c x : Int) : upd v c x c = x := by simp [upd]

theorem upd_other {v : Int → Int} {c x y : Int} (h : y ≠ c) : upd v c x y = v y := by simp [upd, h]

end Go.Proofs.YtbebfliimjjohaaGreatDoor.Lease
end

section
namespace Go.Proofs.YtbebfliimjjohaaGreatDoor.Lease
open Go.RowKit Go.Maps
open Num (inB)
structure Ob (bs : List Nat) (w w' : World) : Prop where
  os : w'.os = w.os
  tape : w'.tape = w.tape
  output : w'.output = w.output
  size : w.heap.size ≤ w'.heap.size
  block : ∀ k, k < w.heap.size → k ∉ bs → w'.heap[k]? = w.heap[k]?

theorem Ob.refl (bs : List Nat) (w : World) : Ob bs w w := ⟨rfl, rfl, rfl, Nat.le_refl _, fun _ _ _ => rfl⟩

theorem Ob.trans {bs : List Nat} {a b c : World} (h : Ob bs a b) (k : Ob bs b c) : Ob bs a c :=
  ⟨k.os.trans h.os, k.tape.trans h.tape, k.output.trans h.output, Nat.le_trans h.size k.size, fun i hi hq => by rw [k.block i (Nat.lt_of_lt_of_le hi h.size) hq, h.block i hi hq]⟩

theorem Ob.mono {bs cs : List Nat} {a b : World} (h : Ob bs a b) (hs : ∀ k ∈ bs, k ∈ cs) : Ob cs a b := ⟨h.os, h.tape, h.output, h.size, fun k hk hc => h.block k hk fun hb => hc (hs k hb)⟩

theorem Ob.of_below {bs : List Nat} {a b : World} (h : Below a.heap.size a b) : Ob bs a b := ⟨h.os, h.tape, h.output, h.size, fun k hk _ => h.block k hk⟩

theorem Ob.setCell {bs : List Nat} {q i : Nat} {a b : World} (h : Ob bs a b) (hq : q ∈ bs) (u : Value) : Ob bs a (b.setCell ⟨q, i, none⟩ u) :=
  h.trans ⟨rfl, rfl, rfl, by simp, fun k _ hk => Below.heap_setCell b ⟨q, i, none⟩ u k (fun e => hk (by rw [e]; exact hq))⟩

theorem Ob.drew {bs : List Nat} {a b : World} (h : Ob bs a b) : Ob bs a b.drew := ⟨h.os, h.tape, h.output, h.size, h.block⟩

theorem Ob.alloc {bs : List Nat} {a b : World} (h : Ob bs a b) (o : Obj) : Ob bs a (b.alloc o) := h.trans (Ob.of_below ((Below.refl _ _).alloc (Nat.le_refl _) o))

theorem Ob.turned {bs : List Nat} {q : Nat} {a b c : World} (h : Ob bs a b) (ht : b.mapTurned c q) (hq : q ∈ bs) : Ob bs a c := by
  have g := ht.grown
  exact h.trans ⟨g.os, g.tape, g.output, g.size, fun k hk hn => g.block k hk (fun e => hn (by injection e with e; rw [e]; exact hq))⟩

theorem map_block {H : Type} {P : Program} {k : TypeId} {R : Value → Option (DataW H × List MemPlace)} {w w' : World} {b n : Nat} {D : DataW H} (h : w.ownsMap P k R b n D) (hb : w'.heap[b]? = w.heap[b]?) : w'.ownsMap P k R b n D := by
  obtain ⟨es, clock, h1, r⟩ := h
  exact ⟨es, clock, hb.trans h1, r⟩

theorem map_ne {H : Type} {P : Program} {k : TypeId} {R : Value → Option (DataW H × List MemPlace)} {w : World} {b n t i : Nat} {D : DataW H} {u : Value} (h : w.ownsMap P k R b n D) (hc : w.cell? ⟨t, i, none⟩ = some u) : t ≠ b := by
  rintro rfl
  obtain ⟨es, clock, h1, r⟩ := h
  simp [World.cell?, h1] at hc

structure TabIs (w : World) (t m : Nat) (D : Dat) (v s : Int → Int) (n : Nat) : Prop where
  obj : w.cell? ⟨t, 0, none⟩ = some (.map (some m))
  vol : ∀ i : Nat, i < 4 → w.cell? ⟨t, 1 + i, none⟩ = some (.int .i64 (v i))
  ses : ∀ i : Nat, i < 4 → w.cell? ⟨t, 5 + i, none⟩ = some (.int .i64 (s i))
  free : ∀ i, w.frozen? ⟨t, i, none⟩ = false
  own : w.ownsMap Tryz.prog 231 (plainElem Tryz.prog 3) m n D
  i64 : ∀ i : Int, I64 (v i) ∧ I64 (s i)
  typ : ∃ cs f, w.heap[t]? = some (.cells cs 189 f)

theorem typ_stored {w : World} {u i : Nat} {v : Value} {t : TypeId} (h : ∃ cs f, w.heap[u]? = some (.cells cs t f)) : ∃ cs f, (w.setCell ⟨u, i, none⟩ v).heap[u]? = some (.cells cs t f) := by
  obtain ⟨cs, f, h⟩ := h
  refine ⟨cs.setIfInBounds i v, f, ?_⟩
  simp [World.setCell, Array.getElem?_modify, h]

theorem TabIs.ne {w : World} {t m n : Nat} {D : Dat} {v s : Int → Int} (h : TabIs w t m D v s n) : t ≠ m := map_ne h.own h.obj

theorem TabIs.lt {w : World} {t m n : Nat} {D : Dat} {v s : Int → Int} (h : TabIs w t m D v s n) : t < w.heap.size ∧ m < w.heap.size := ⟨World.block_lt_of_cell? _ _ h.obj, h.own.lt⟩

theorem TabIs.blocks {w w' : World} {t m n : Nat} {D : Dat} {v s : Int → Int} (h : TabIs w t m D v s n) (ht : w'.heap[t]? = w.heap[t]?) (hm : w'.heap[m]? = w.heap[m]?) : TabIs w' t m D v s n :=
  ⟨(World.cell?_of_block (a := ⟨t, 0, none⟩) ht).trans h.obj, fun i hi => (World.cell?_of_block (a := ⟨t, 1 + i, none⟩) ht).trans (h.vol i hi), fun i hi => (World.cell?_of_block (a := ⟨t, 5 + i, none⟩) ht).trans (h.ses i hi),
   fun i => (World.frozen?_of_block (a := ⟨t, i, none⟩) ht).trans (h.free i), map_block h.own hm, h.i64, by rw [ht]; exact h.typ⟩

theorem TabIs.below {w w' : World} {t m n : Nat} {D : Dat} {v s : Int → Int} (h : TabIs w t m D v s n) (hb : Below w.heap.size w w') : TabIs w' t m D v s n :=
  h.blocks (hb.block t h.lt.1) (hb.block m h.lt.2)

theorem TabIs.turned {w w' : World} {t m n n' : Nat} {D D' : Dat} {v s : Int → Int} (h : TabIs w t m D v s n) (hb : w.mapTurned w' m) (ho : w'.ownsMap Tryz.prog 231 (plainElem Tryz.prog 3) m n' D') : TabIs w' t m D' v s n' := by
  have e : w'.heap[t]? = w.heap[t]? := hb.grown.block t h.lt.1 (fun e => h.ne (by injection e))
  exact ⟨(World.cell?_of_block (a := ⟨t, 0, none⟩) e).trans h.obj, fun i hi => (World.cell?_of_block (a := ⟨t, 1 + i, none⟩) e).trans (h.vol i hi), fun i hi => (World.cell?_of_block (a := ⟨t, 5 + i, none⟩) e).trans (h.ses i hi),
   fun i => (World.frozen?_of_block (a := ⟨t, i, none⟩) e).trans (h.free i), ho, h.i64, by rw [e]; exact h.typ⟩

theorem I64.upd {v : Int → Int} {c x : Int} (h : ∀ i, I64 (v i)) (hx : I64 x) : ∀ i, I64 (upd v c x i) := fun i => by
  unfold Lease.upd
  split
  · exact hx
  · exact h i

theorem TabIs.setVol {w : World} {t m n c : Nat} {D : Dat} {v s : Int → Int} (h : TabIs w t m D v s n) (hc : c < 4) {x : Int} (hx : I64 x) : TabIs (w.setCell ⟨t, 1 + c, none⟩ (.int .i64 x)) t m D (upd v c x) s n := by
  refine ⟨?_, fun i hi => ?_, fun i hi => ?_, fun i => ?_, h.own.setCell (fun e => h.ne e.symm) _, fun i => ⟨I64.upd (fun i => (h.i64 i).1) hx i, (h.i64 i).2⟩, typ_stored h.typ⟩
  · rw [World.cell?_setCell_other _ _ _ _ (by simp)]; exact h.obj
  · by_cases e : i = c
    · subst e; rw [World.cell?_setCell_same _ _ _ (h.vol i hc), upd_same]
    · rw [World.cell?_setCell_other _ _ _ _ (by intro e; injection e with _ e; omega), upd_other (by omega)]; exact h.vol i hi
  · rw [World.cell?_setCell_other _ _ _ _ (by intro e; injection e with _ e; omega)]; exact h.ses i hi
  · rw [World.frozen?_setCell]; exact h.free i

theorem TabIs.setSes {w : World} {t m n c : Nat} {D : Dat} {v s : Int → Int} (h : TabIs w t m D v s n) (hc : c < 4) {x : Int} (hx : I64 x) : TabIs (w.setCell ⟨t, 5 + c, none⟩ (.int .i64 x)) t m D v (upd s c x) n := by
  refine ⟨?_, fun i hi => ?_, fun i hi => ?_, fun i => ?_, h.own.setCell (fun e => h.ne e.symm) _, fun i => ⟨(h.i64 i).1, I64.upd (fun i => (h.i64 i).2) hx i⟩, typ_stored h.typ⟩
  · rw [World.cell?_setCell_other _ _ _ _ (by simp)]; exact h.obj
  · rw [World.cell?_setCell_other _ _ _ _ (by intro e; injection e with _ e; omega)]; exact h.vol i hi
  · by_cases e : i = c
    · subst e; rw [World.cell?_setCell_same _ _ _ (h.ses i hc), upd_same]
    · rw [World.cell?_setCell_other _ _ _ _ (by intro e; injection e with _ e; omega), upd_other (by omega)]; exact h.ses i hi
  · rw [World.frozen?_setCell]; exact h.free i

def cliB (n : Int) : Bool := inB n 0 3

def objB (n : Int) : Bool := inB n 0 7

def timB (n : Int) : Bool := inB n 0 1099511627776

theorem cliB_true {n : Int} (h : cliB n = true) : 0 ≤ n ∧ n ≤ 3 := Num.of_inB_true h

theorem objB_true {n : Int} (h : objB n = true) : 0 ≤ n ∧ n ≤ 7 := Num.of_inB_true h

theorem timB_true {n : Int} (h : timB n = true) : 0 ≤ n ∧ n ≤ 1099511627776 := Num.of_inB_true h

theorem cli_any (n : Int) (w : World) : Calls Tryz.prog 150 #[.int .i64 n] w fun e w' => e = .returned (.bool (cliB n)) ∧ w' = w := by
  unfold cliB
  by_cases h0 : 0 ≤ n
  · by_cases h1 : n < 4
    · rw [Num.inB_true h0 (by omega)]
      go_enter Tryz.func150, Tryz.ntmps150
      go_wp2
      go_ret
      exact ⟨rfl, rfl⟩
    · rw [Num.inB_above (by omega)]
      have h2 : decide (n < 4) = false := decide_eq_false h1
      go_enter Tryz.func150, Tryz.ntmps150
      go_wp2
      go_ret
      exact ⟨rfl, rfl⟩
  · rw [Num.inB_below (by omega)]
    have h2 : decide (0 ≤ n) = false := decide_eq_false h0
    go_enter Tryz.func150, Tryz.ntmps150
    go_wp2
    go_ret
    exact ⟨rfl, rfl⟩

theorem obj_any (n : Int) (w : World) : Calls Tryz.prog 151 #[.int .i64 n] w fun e w' => e = .returned (.bool (objB n)) ∧ w' = w := by
  unfold objB
  by_cases h0 : 0 ≤ n
  · by_cases h1 : n < 8
    · rw [Num.inB_true h0 (by omega)]
      go_enter Tryz.func151, Tryz.ntmps151
      go_wp2
      go_ret
      exact ⟨rfl, rfl⟩
    · rw [Num.inB_above (by omega)]
      have h2 : decide (n < 8) = false := decide_eq_false h1
      go_enter Tryz.func151, Tryz.ntmps151
      go_wp2
      go_ret
      exact ⟨rfl, rfl⟩
  · rw [Num.inB_below (by omega)]
    have h2 : decide (0 ≤ n) = false := decide_eq_false h0
    go_enter Tryz.func151, Tryz.ntmps151
    go_wp2
    go_ret
    exact ⟨rfl, rfl⟩

theorem tim_any (n : Int) (w : World) : Calls Tryz.prog 152 #[.int .i64 n] w fun e w' => e = .returned (.bool (timB n)) ∧ w' = w := by
  unfold timB
  by_cases h0 : 0 ≤ n
  · by_cases h1 : n ≤ 1099511627776
    · rw [Num.inB_true h0 h1]
      go_enter Tryz.func152, Tryz.ntmps152
      go_wp2
      go_ret
      exact ⟨rfl, rfl⟩
    · rw [Num.inB_above (by omega)]
      have h2 : decide (n ≤ 1099511627776) = false := decide_eq_false h1
      go_enter Tryz.func152, Tryz.ntmps152
      go_wp2
      go_ret
      exact ⟨rfl, rfl⟩
  · rw [Num.inB_below (by omega)]
    have h2 : decide (0 ≤ n) = false := decide_eq_false h0
    go_enter Tryz.func152, Tryz.ntmps152
    go_wp2
    go_ret
    exact ⟨rfl, rfl⟩

end Go.Proofs.YtbebfliimjjohaaGreatDoor.Lease
end

section
namespace Go.Proofs.YtbebfliimjjohaaGreatDoor.Lease
open Go.RowKit Go.Maps
open Num (inB)
abbrev tp (t : Nat) : Value := .pointer (some ⟨t, 0, none⟩)

theorem own_int {w : World} {k t : TypeId} {b n : Nat} {D : Dat} {key : Value} {kl : Lit} {x : Int} (h : w.ownsMap Tryz.prog k (plainElem Tryz.prog 3) b n D) (K : Keyed Tryz.prog k) (ht : Tryz.prog.underlying t = some (.map k 3)) (hk : keyOf Tryz.prog k key = some kl) (hx : D.atKey kl (num 0) = num x) :
    (Instr.lookup t (.map (some b)) key false).run Tryz.prog w = .ok (.int .i64 x) w ∧ (Instr.lookup t (.map (some b)) key true).run Tryz.prog w = .ok (.tuple #[.int .i64 x, .bool (Maps.has D kl)]) w ∧ I64 x := by
  obtain ⟨y, hrun, hat, hy⟩ := h.lookup_int K ht Tryz.underlying3 (zeroI _) hk
  rw [hx] at hat
  obtain rfl : x = y := by simpa [num] using hat
  obtain ⟨v, ps, hr2, hv⟩ := h.look_ok K ht (zeroI _) (plainElem_int (H := Unit) Tryz.underlying3 (a := 0) (by decide)) hk
  obtain ⟨z, rfl, hz, _⟩ := plainElem_int_inv Tryz.underlying3 hv
  have e := (congrArg Prod.fst hz).symm.trans hx
  obtain rfl : z = x := by simpa [num] using e
  exact ⟨hrun, hr2, I64.of_wf hy⟩

theorem own_num {w : World} {k t : TypeId} {b n : Nat} {D : Dat} {key : Value} {kl : Lit} (h : w.ownsMap Tryz.prog k (plainElem Tryz.prog 3) b n D) (K : Keyed Tryz.prog k) (ht : Tryz.prog.underlying t = some (.map k 3)) (hk : keyOf Tryz.prog k key = some kl) : ∃ x, D.atKey kl (num 0) = num x := by
  obtain ⟨y, _, hat, _⟩ := h.lookup_int K ht Tryz.underlying3 (zeroI _) hk
  exact ⟨y, hat⟩

def mx (a b : Int) : Int := if a < b then b else a

theorem mx_i64 {a b : Int} (h : I64 a) (k : I64 b) : I64 (mx a b) := by
  unfold mx
  split <;> assumption

theorem tim_i64 {u : Int} (h : timB u = true) : I64 u := by have := timB_true h; exact ⟨by omega, by omega⟩

theorem cli_i64 {u : Int} (h : cliB u = true) : I64 u := by have := cliB_true h; exact ⟨by omega, by omega⟩

theorem obj_i64 {u : Int} (h : objB u = true) : I64 u := by have := objB_true h; exact ⟨by omega, by omega⟩

theorem TabIs.drew {w : World} {t m n : Nat} {D : Dat} {v s : Int → Int} (h : TabIs w t m D v s n) : TabIs w.drew t m D v s n := ⟨h.obj, h.vol, h.ses, h.free, h.own, h.i64, h.typ⟩

set_option maxRecDepth 100000 in
theorem vol_ok (t m n c : Nat) (u : Int) (D : Dat) (v s : Int → Int) (w : World) (h : TabIs w t m D v s n) (hc : c < 4) (hu : timB u = true) :
    Calls Tryz.prog 132 #[tp t, .int .i64 c, .int .i64 u] w fun e w' => e = .returned .nilIface ∧ TabIs w' t m D (upd v c (mx (v c) u)) s n ∧ Ob [t] w w' := by
  have hcl : cliB c = true := Num.inB_true (by omega) (by omega)
  have hv := h.vol c hc
  have hf := h.free (1 + c)
  have hc0 : (0 : Int) ≤ c := by omega
  have hc4 : (c : Int) < 4 := by omega
  go_enter Tryz.func132, Tryz.ntmps132
  go_wp2_with (first | (go_at_call 150; refine (cli_any _ _).mono ?_; rintro x w' ⟨rfl, rfl⟩) | (go_at_call 152; refine (tim_any _ _).mono ?_; rintro x w' ⟨rfl, rfl⟩))
  go_still_tail 13, (by kernel_rfl)
  generalize hg : (if v (c : Int) < u then u else v (c : Int)) = g
  obtain rfl : mx (v c) u = g := hg
  go_wp2
  go_ret
  exact ⟨rfl, h.drew.setVol hc (mx_i64 ((h.i64 _).1) (tim_i64 hu)), (Ob.refl _ _).drew.setCell (by simp) _⟩

set_option maxRecDepth 100000 in
theorem ses_ok (t m n c : Nat) (D : Dat) (v s : Int → Int) (w : World) (h : TabIs w t m D v s n) (hc : c < 4) :
    Calls Tryz.prog 149 #[tp t, .int .i64 c] w fun e w' => e = .returned (.tuple #[.int .i64 (s c), .nilIface]) ∧ w' = w := by
  have hcl : cliB c = true := Num.inB_true (by omega) (by omega)
  have hv := h.ses c hc
  have hc0 : (0 : Int) ≤ c := by omega
  have hc4 : (c : Int) < 4 := by omega
  clear h
  go_enter Tryz.func149, Tryz.ntmps149
  go_wp2_with (first | (go_at_call 150; refine (cli_any _ _).mono ?_; rintro x w' ⟨rfl, rfl⟩))
  go_ret2
  exact ⟨rfl, rfl⟩

set_option maxRecDepth 100000 in
theorem leans_ok (t m n c : Nat) (now : Int) (D : Dat) (v s : Int → Int) (w : World) (h : TabIs w t m D v s n) (hc : c < 4) :
    Calls Tryz.prog 143 #[tp t, .int .i64 c, .int .i64 now] w fun e w' => e = .returned (.bool (decide (now < v c))) ∧ w' = w := by
  have hcl : cliB c = true := Num.inB_true (by omega) (by omega)
  have hv := h.vol c hc
  have hc0 : (0 : Int) ≤ c := by omega
  have hc4 : (c : Int) < 4 := by omega
  clear h
  go_enter Tryz.func143, Tryz.ntmps143
  go_wp2_with (first | (go_at_call 150; refine (cli_any _ _).mono ?_; rintro x w' ⟨rfl, rfl⟩))
  go_ret
  exact ⟨rfl, rfl⟩

end Go.Proofs.YtbebfliimjjohaaGreatDoor.Lease
end

section
namespace Go.Proofs.YtbebfliimjjohaaGreatDoor.Lease
open Go.RowKit Go.Maps
open Num (inB)
set_option maxRecDepth 100000 in
theorem obj_ok (t m n : Nat) (c o u : Int) (D : Dat) (v s : Int → Int) (x : Int) (w : World) (h : TabIs w t m D v s n) (hn : n < 9223372036854775807) (hc : cliB c = true) (ho : objB o = true) (hu : timB u = true) (hx : D.atKey (kk c o) (num 0) = num x) :
    Calls Tryz.prog 128 #[tp t, .int .i64 c, .int .i64 o, .int .i64 u] w fun e w' => e = .returned .nilIface ∧ TabIs w' t m (D.put (kk c o) (num (mx x u))) v s (n + 1) ∧ Ob [m] w w' := by
  have hlt := h.lt.1
  have hv := h.obj
  have hcw := cli_i64 hc
  have how := obj_i64 ho
  go_enter Tryz.func128, Tryz.ntmps128
  go_wp2_with (first | (go_at_call 150; refine (cli_any _ _).mono ?_; rintro x w' ⟨rfl, rfl⟩) | (go_at_call 151; refine (obj_any _ _).mono ?_; rintro x w' ⟨rfl, rfl⟩) | (go_at_call 152; refine (tim_any _ _).mono ?_; rintro x w' ⟨rfl, rfl⟩))
  have h1 := h.below ((Below.refl _ _).alloc (Nat.le_refl _) (Obj.cells #[Value.int IntKind.i64 c, Value.int IntKind.i64 o] 231))
  have hO := ((Ob.refl [m] w').alloc (Obj.cells #[Value.int IntKind.i64 c, Value.int IntKind.i64 o] 231))
  have hb0 : (w'.alloc (Obj.cells #[Value.int IntKind.i64 c, Value.int IntKind.i64 o] 231)).cell? ⟨w'.heap.size, 0, none⟩ = some (.int .i64 c) := by rw [cell_of_row _ _ _ _ _ _ (heap_alloc_new w' _)]; rfl
  have hb1 : (w'.alloc (Obj.cells #[Value.int IntKind.i64 c, Value.int IntKind.i64 o] 231)).cell? ⟨w'.heap.size, 1, none⟩ = some (.int .i64 o) := by rw [cell_of_row _ _ _ _ _ _ (heap_alloc_new w' _)]; rfl
  generalize (w'.alloc (Obj.cells #[Value.int IntKind.i64 c, Value.int IntKind.i64 o] 231)) = w2 at *
  have hv2 := h1.obj
  obtain ⟨hrun, _, hxw⟩ := own_int (t := 186) h1.drew.own keyedP Tryz.underlying186 (keyP hcw how) hx
  go_still_tail 13, (by kernel_rfl)
  generalize hg : (if x < u then u else x) = g
  obtain rfl : mx x u = g := hg
  refine wpList_mapUpdate_in _ rfl _ _ _ 186 rfl 231 3 keyedP Tryz.underlying186 (plainElem Tryz.prog 3) m n D rfl h1.drew.own hn _ _ _ rfl rfl (keyP hcw how) _ _ (plainElem_int Tryz.underlying3 (mx_i64 hxw (tim_i64 hu)).wf) ?_
  intro w1 hown hturn
  have F := h1.drew.turned hturn hown
  have hO1 := hO.drew.turned hturn (by simp)
  clear h1 hO hrun
  go_wp2
  go_ret
  exact ⟨rfl, F, hO1⟩

end Go.Proofs.YtbebfliimjjohaaGreatDoor.Lease
end

section
namespace Go.Proofs.YtbebfliimjjohaaGreatDoor.Lease
open Go.RowKit Go.Maps
open Num (inB)
theorem info_int : (Tryz.prog.info? 3).map (fun i => (i.zero, i.size, i.bytes)) = some (some (.int .i64 0), 1, 8) := by kernel_rfl

def HasI (w : World) (B : Nat) (v : Value) (l : List Int) : Prop := w.ownsRow B 3 1 v l.length (l.map (Value.int .i64))

theorem HasI.alloc {w : World} {B : Nat} {v : Value} {l : List Int} (h : HasI w B v l) (o : Obj) : (w.alloc o).ownsRow B 3 1 v l.length (l.map (Value.int .i64)) := World.ownsRow.alloc h o

theorem HasI.nil (w : World) (B : Nat) : HasI w B (.slice none 0 0) [] := World.ownsRow_nil _ _ _ _

theorem row_below {w w' : World} {B s n : Nat} {e : TypeId} {v : Value} {xs : List Value} (h : w.ownsRow B e s v n xs) (hb : Below w.heap.size w w') : w'.ownsRow B e s v n xs := by
  refine ⟨h.1, ?_⟩
  rcases h.2 with h | ⟨g, cap, cur, h1, h2, h3, h4⟩
  · exact .inl h
  · exact .inr ⟨g, cap, cur, h1, h2, (hb.block g (Array.getElem?_eq_some_iff.1 h3).1).trans h3, h4⟩

theorem HasI.below {w w' : World} {B : Nat} {v : Value} {l : List Int} (h : HasI w B v l) (hb : Below w.heap.size w w') : HasI w' B v l := row_below h hb

theorem one_newI (w : World) (x : Value) (t : TypeId) : ∀ j u, [x][j]? = some u → (w.alloc (.cells #[x] t)).cell? ((⟨w.heap.size, 0, none⟩ : Addr).add j) = some u := by
  intro j u hj
  match j, hj with
  | 0, hj => simp at hj; subst hj; simp [Addr.add]
  | n + 1, hj => simp at hj

theorem one_cellI (k : IntKind) (n : Int) : ∀ u ∈ [Value.int k n], u.oneCell' = true := by intro u hu; simp at hu; subst hu; rfl

theorem HasI.app {w wr w1 : World} {B m : Nat} {v v' : Value} {l news : List Int} {o : Obj} (h : HasI wr B v l) (hb : Below B w wr) (hB : B ≤ wr.heap.size) (hm : m = news.length)
    (hown : w1.ownsRow B 3 1 v' (l.length + m) (l.map (Value.int .i64) ++ news.map (Value.int .i64))) (hg : (wr.alloc o).grownBy w1 v.ownBlock) : HasI w1 B v' (l ++ news) ∧ Below B w w1 := by
  refine ⟨?_, ?_⟩
  · unfold HasI
    rw [List.length_append, List.map_append, ← hm]
    exact hown
  · exact (hb.alloc hB o).grown hg (by simp; omega) (fun k hk => ((h.alloc o).lt k hk).1)

def isH (D : Dat) (o now : Int) (c : Nat) : Bool := match D.atKey (kk c o) (num 0) with
  | .lit (.int .i64 x) => Maps.has D (kk c o) && decide (now < x)
  | _ => false

theorem isH_eq {D : Dat} {o now x : Int} {c : Nat} (hx : D.atKey (kk c o) (num 0) = num x) : isH D o now c = (Maps.has D (kk c o) && decide (now < x)) := by simp [isH, hx]

def hol (D : Dat) (o now : Int) (k : Nat) : List Int := ((List.range k).filter (isH D o now)).map (fun c : Nat => (c : Int))

theorem hol_yes {D : Dat} {o now : Int} {k : Nat} (h : isH D o now k = true) : hol D o now (k + 1) = hol D o now k ++ [(k : Int)] := by simp [hol, List.range_succ, h]

theorem hol_no {D : Dat} {o now : Int} {k : Nat} (h : isH D o now k = false) : hol D o now (k + 1) = hol D o now k := by simp [hol, List.range_succ, h]

theorem hol_le (D : Dat) (o now : Int) (k : Nat) : (hol D o now k).length ≤ k := by
  have := List.length_filter_le (isH D o now) (List.range k)
  simpa [hol] using this

set_option maxHeartbeats 1000000 in
set_option maxRecDepth 100000 in
theorem hold_any (t m n : Nat) (D : Dat) (v s : Int → Int) (o now : Int) (w : World) (h : TabIs w t m D v s n) (ho : I64 o) :
    Calls Tryz.prog 142 #[tp t, .int .i64 o, .int .i64 now] w fun e w' => ∃ v', e = .returned v' ∧ HasI w' w.heap.size v' (hol D o now 4) ∧ Below w.heap.size w w' := by
  obtain ⟨i0, hi, hz0, hz1, hz2⟩ := info_parts info_int
  go_enter Tryz.func142, Tryz.ntmps142
  go_wp2
  go_loopw [7, 11] (fun v i wr => ∃ k : Nat, k ≤ 4 ∧ i = .int .i64 k ∧ HasI wr w.heap.size v (hol D o now k) ∧ Below w.heap.size w wr) (fun _ i _ => 4 - (intOf i).toNat)
  case atStart => exact ⟨0, by omega, rfl, HasI.nil _ _, Below.refl _ _⟩
  case round =>
    obtain ⟨k, hk, rfl, hwn, hbl⟩ := hrel
    have hr := h.below hbl
    clear h
    by_cases hk4 : k < 4
    · have hBr : w.heap.size ≤ wr.heap.size := hbl.size
      have hki : I64 (k : Int) := ⟨by omega, by omega⟩
      have hl := hol_le D o now k
      obtain ⟨zs, hzs⟩ : ∃ zs, hol D o now k = zs := ⟨_, rfl⟩
      rw [hzs] at hwn hl
      have HZ : Hid (hol D o now k = zs) := hzs
      clear hzs
      have hzl : zs.length ≤ 4 := by omega
      clear hl
      have hv := hr.obj
      obtain ⟨x, hx⟩ := own_num (t := 186) hr.own keyedP Tryz.underlying186 (keyP hki ho)
      obtain ⟨_, hrun, hxw⟩ := own_int (t := 186) hr.own keyedP Tryz.underlying186 (keyP hki ho) hx
      have hq := isH_eq (now := now) hx
      clear hx hxw hr
      obtain ⟨hb, ehb⟩ : ∃ hb, Maps.has D (kk k o) = hb := ⟨_, rfl⟩
      rw [ehb] at hrun hq
      clear ehb
      have hk4' : (k : Int) < 4 := by omega
      cases hb with
      | false =>
        have HQ : Hid (hol D o now (k + 1) = zs) := (hol_no (hq.trans (Bool.false_and _))).trans HZ.out
        clear hq
        go_wp2
        go_roundw
        case rel => exact ⟨k + 1, by omega, by go_num, by rw [HQ.out]; exact hwn, hbl⟩
        case measure => simp [intOf]; omega
      | true =>
        by_cases hlt : now < x
        · have HQ : Hid (hol D o now (k + 1) = zs ++ [(k : Int)]) := (hol_yes (hq.trans (by simp [hlt]))).trans (by rw [HZ.out])
          clear hq
          go_wp2_with (at_builtin; refine wpList_append_own _ rfl _ _ 87 rfl w.heap.size 3 i0 (.int .i64 0) 1 8 Tryz.underlying87 hi hz0 hz1 hz2 rfl (by decide) _ _ _ rfl (hwn.alloc _) ⟨wr.heap.size, 0, none⟩ 1 1 [.int .i64 (k : Int)] rfl rfl (one_newI _ _ _) (one_cellI _ _) ?c3 ?c4 ?c5 ?_)
          case c3 => unfold maxLen; omega
          case c4 => omega
          case c5 => simp; omega
          intro v' w1 hown' hgrow _
          have R := hwn.app (news := [(k : Int)]) hbl hBr rfl hown' hgrow
          rw [← HQ.out] at R
          clear hown' hgrow hwn hbl hrun hv
          go_wp2
          go_roundw
          case rel => exact ⟨k + 1, by omega, by go_num, R.1, R.2⟩
          case measure => simp [intOf]; omega
        · have HQ : Hid (hol D o now (k + 1) = zs) := (hol_no (hq.trans (by simp [hlt]))).trans HZ.out
          have hlt' : decide (now < x) = false := decide_eq_false hlt
          clear hq
          go_wp2
          go_roundw
          case rel => exact ⟨k + 1, by omega, by go_num, by rw [HQ.out]; exact hwn, hbl⟩
          case measure => simp [intOf]; omega
    · obtain rfl : k = 4 := by omega
      clear hr
      go_wp2
      go_ret
      exact ⟨_, rfl, hwn, hbl⟩

theorem Ob.drewN {bs : List Nat} {a b : World} (h : Ob bs a b) (k : Nat) : Ob bs a (b.drewN k) := ⟨h.os, h.tape, h.output, h.size, h.block⟩

theorem HasI.shape {w : World} {B : Nat} {v : Value} {l : List Int} (h : HasI w B v l) : ∃ ao c, v = .slice ao l.length c ∧ (0 < l.length → ∃ g, ao = some ⟨g, 0, none⟩ ∧ ∀ i (hi : i < l.length), w.cell? ⟨g, i, none⟩ = some (.int .i64 l[i])) := by
  rcases h.2 with ⟨rfl, h0⟩ | ⟨g, cap, cur, rfl, _⟩
  · exact ⟨none, 0, by rw [h0], fun h => by omega⟩
  · refine ⟨_, cap, rfl, fun _ => ⟨g, rfl, fun i hi => ?_⟩⟩
    rw [World.ownsRow.cellAt h _ (by omega)]
    simp [hi]

end Go.Proofs.YtbebfliimjjohaaGreatDoor.Lease
end

section
namespace Go.Proofs.YtbebfliimjjohaaGreatDoor.Lease
open Go.RowKit Go.Maps
open Num (inB)
set_option maxRecDepth 100000 in
theorem drop_any (t m n : Nat) (c o : Int) (D : Dat) (v s : Int → Int) (w : World) (h : TabIs w t m D v s n) (hc : I64 c) (ho : I64 o) :
    Calls Tryz.prog 133 #[tp t, .int .i64 c, .int .i64 o] w fun e w' => e = .returned (.tuple #[]) ∧ TabIs w' t m (D.del (kk c o)) v s n ∧ Ob [m] w w' := by
  have hv := h.obj
  go_enter Tryz.func133, Tryz.ntmps133
  go_wp2_with (at_delete; refine wpList_delete_own _ rfl _ _ 186 231 rfl 3 keyedP Tryz.underlying186 (plainElem Tryz.prog 3) m n D rfl h.own _ _ rfl (keyP hc ho) ?_; intro w1 hown hturn)
  have F := h.turned hturn hown
  have hO := (Ob.refl [m] w).turned hturn (by simp)
  clear h hv hown hturn
  go_end0
  exact ⟨rfl, F, hO⟩

set_option maxRecDepth 100000 in
theorem flush_ok (t m n c : Nat) (D : Dat) (v s : Int → Int) (w : World) (h : TabIs w t m D v s n) (hc : c < 4) (hs : s c < 9223372036854775807) :
    Calls Tryz.prog 144 #[tp t, .int .i64 c] w fun e w' => e = .returned .nilIface ∧ TabIs w' t m (dels D c 8) (upd v c 0) (upd s c (s c + 1)) n ∧ Ob [t, m] w w' := by
  have hcl : cliB c = true := Num.inB_true (by omega) (by omega)
  have hcw := cli_i64 hcl
  have hc0 : (0 : Int) ≤ c := by omega
  have hc4 : (c : Int) < 4 := by omega
  go_enter Tryz.func144, Tryz.ntmps144
  go_wp2_with (first | (go_at_call 150; refine (cli_any _ _).mono ?_; rintro x w' ⟨rfl, rfl⟩))
  go_loopw [10] (fun i wr => ∃ k : Nat, k ≤ 8 ∧ i = .int .i64 k ∧ TabIs wr t m (dels D c k) v s n ∧ Ob [t, m] w' wr) (fun i _ => 8 - (intOf i).toNat)
  case atStart => exact ⟨0, by omega, rfl, h, Ob.refl _ _⟩
  case round =>
    obtain ⟨k, hk, rfl, hr, hO⟩ := hrel
    clear h
    by_cases hk8 : k < 8
    · have hk' : (k : Int) < 8 := by omega
      go_wp2_with fail
      refine (drop_any t m n c k _ v s _ hr hcw ⟨by omega, by omega⟩).mono ?_
      rintro e w1 ⟨rfl, hr1, hO1⟩
      have hO2 := hO.trans (hO1.mono (by simp))
      clear hr hO hO1
      go_wp2
      go_roundw
      case rel => exact ⟨k + 1, by omega, by go_num, hr1, hO2⟩
      case measure => simp [intOf]; omega
    · obtain rfl : k = 8 := by omega
      have c1 := hr.vol c hc
      have f1 := hr.free (1 + c)
      have F := hr.setVol hc (x := 0) ⟨by omega, by omega⟩
      have hO2 := hO.setCell (q := t) (i := 1 + c) (by simp) (.int .i64 0)
      go_wp2_with fail
      clear hO hr f1 c1
      generalize wr.setCell ⟨t, 1 + c, none⟩ (.int .i64 0) = w2 at *
      have c2 := F.ses c hc
      have f2 := F.free (5 + c)
      have hsw := (F.i64 c).2
      have hs0 : -9223372036854775808 ≤ s c := hsw.1
      have G := F.drew.setSes hc (x := s c + 1) ⟨by omega, by omega⟩
      have hO3 := hO2.drew.setCell (q := t) (i := 5 + c) (by simp) (.int .i64 (s c + 1))
      clear hO2 F hsw
      go_still_tail 10, (by kernel_rfl)
      go_wp2
      go_ret
      exact ⟨rfl, G, hO3⟩

end Go.Proofs.YtbebfliimjjohaaGreatDoor.Lease
end

section
namespace Go.Proofs.YtbebfliimjjohaaGreatDoor.Lease
open Go.RowKit Go.Maps
open Num (inB)
theorem frozen_of {w : World} {t : Nat} {cs : Array Value} {T : TypeId} (h : w.heap[t]? = some (.cells cs T)) (i : Nat) : w.frozen? ⟨t, i, none⟩ = false := by
  unfold World.frozen?
  dsimp only
  rw [h]
  simp

set_option maxRecDepth 100000 in
theorem new_any (w : World) :
    Calls Tryz.prog 79 #[] w fun e w' => e = .returned (tp (w.heap.size + 1)) ∧ TabIs w' (w.heap.size + 1) w.heap.size (.map []) (fun _ => 0) (fun _ => 0) 0 ∧ Below w.heap.size w w' ∧ w'.heap.size = w.heap.size + 2 := by
  have hm := fun (t : TypeId) (w : World) => run_makeMap (P := Tryz.prog) t w
  go_enter Tryz.func79, Tryz.ntmps79
  go_wp2
  go_ret
  have hs : (w.alloc (Obj.map #[] 0)).heap.size = w.heap.size + 1 := by simp
  have hB := heap_alloc_new (w.alloc (Obj.map #[] 0)) (.cells #[.map (some w.heap.size), .int .i64 0, .int .i64 0, .int .i64 0, .int .i64 0, .int .i64 0, .int .i64 0, .int .i64 0, .int .i64 0] 189)
  rw [hs] at hB
  have hbl := ((Below.refl w.heap.size w).alloc (Nat.le_refl _) (Obj.map #[] 0)).alloc (by simp) (.cells #[.map (some w.heap.size), .int .i64 0, .int .i64 0, .int .i64 0, .int .i64 0, .int .i64 0, .int .i64 0, .int .i64 0, .int .i64 0] 189)
  have hm2 := (World.ownsMap_made w Tryz.prog 231 (plainElem (H := Unit) Tryz.prog 3)).alloc (.cells #[.map (some w.heap.size), .int .i64 0, .int .i64 0, .int .i64 0, .int .i64 0, .int .i64 0, .int .i64 0, .int .i64 0, .int .i64 0] 189)
  refine ⟨rfl, ⟨?_, fun i hi => ?_, fun i hi => ?_, fun i => ?_, hm2, fun i => ⟨⟨by omega, by omega⟩, by omega, by omega⟩, _, _, hB⟩, hbl, by simp⟩
  · rw [cell_of_row _ _ _ _ _ _ hB]; rfl
  · rw [cell_of_row _ _ _ _ _ _ hB]
    match i, hi with
    | 0, _ => rfl
    | 1, _ => rfl
    | 2, _ => rfl
    | 3, _ => rfl
  · rw [cell_of_row _ _ _ _ _ _ hB]
    match i, hi with
    | 0, _ => rfl
    | 1, _ => rfl
    | 2, _ => rfl
    | 3, _ => rfl
  · exact frozen_of hB i

end Go.Proofs.YtbebfliimjjohaaGreatDoor.Lease
end

section
namespace Go.Proofs.YtbebfliimjjohaaGreatDoor.Wire
open Go.RowKit
open Num (inB nb numB body ints M okB leaseN)
theorem info_byte : (Tryz.prog.info? 5).map (fun i => (i.zero, i.size, i.bytes)) = some (some (.int .u8 0), 1, 1) := by kernel_rfl

def Has (w : World) (B : Nat) (v : Value) (l : List Int) : Prop := w.ownsRow B 5 1 v l.length (l.map (Value.int .u8))

theorem Has.row {w : World} {B : Nat} {v : Value} {l : List Int} (h : Has w B v l) : w.ownsRow B 5 1 v l.length (l.map (Value.int .u8)) := h

theorem Has.alloc {w : World} {B : Nat} {v : Value} {l : List Int} (h : Has w B v l) (o : Obj) : (w.alloc o).ownsRow B 5 1 v l.length (l.map (Value.int .u8)) := World.ownsRow.alloc h o

theorem Has.nil (w : World) (B : Nat) : Has w B (.slice none 0 0) [] := World.ownsRow_nil _ _ _ _

theorem one_new (w : World) (x : Value) (t : TypeId) : ∀ j u, [x][j]? = some u → (w.alloc (.cells #[x] t)).cell? ((⟨w.heap.size, 0, none⟩ : Addr).add j) = some u := by
  intro j u hj
  match j, hj with
  | 0, hj => simp at hj; subst hj; simp [Addr.add]
  | n + 1, hj => simp at hj

theorem one_cell (k : IntKind) (n : Int) : ∀ u ∈ [Value.int k n], u.oneCell' = true := by intro u hu; simp at hu; subst hu; rfl

theorem Has.app {w wr w1 : World} {B m : Nat} {v v' : Value} {l news : List Int} {o : Obj} (h : Has wr B v l) (hb : Below B w wr) (hB : B ≤ wr.heap.size) (hm : m = news.length)
    (hown : w1.ownsRow B 5 1 v' (l.length + m) (l.map (Value.int .u8) ++ news.map (Value.int .u8))) (hg : (wr.alloc o).grownBy w1 v.ownBlock) : Has w1 B v' (l ++ news) ∧ Below B w w1 := by
  refine ⟨?_, ?_⟩
  · unfold Has
    rw [List.length_append, List.map_append, ← hm]
    exact hown
  · exact (hb.alloc hB o).grown hg (by simp; omega) (fun k hk => ((h.alloc o).lt k hk).1)

theorem nb_part {n k : Nat} {ys : List Int} (h : ys ++ nb k = nb n) (hk : ¬ k < 128) : (ys ++ [((k : Int) % 128 + 128)]) ++ nb (k / 128) = nb n := by
  rw [← h, Num.nb_ge hk]
  simp

theorem nb_last {n k : Nat} {ys : List Int} (h : ys ++ nb k = nb n) (hk : k < 128) : ys ++ [(k : Int)] = nb n := by
  rw [← h, Num.nb_lt hk]

theorem part_le {n k : Nat} {ys : List Int} (h : ys ++ nb k = nb n) (hn : n ≤ 1099511627776) : ys.length ≤ 6 := by
  have h1 : (nb n).length ≤ 6 := Num.nb_length 5 n (by have : (128 : Nat) ^ (5 + 1) = 4398046511104 := by decide
                                                       omega)
  rw [← h, List.length_append] at h1
  omega

set_option maxHeartbeats 1000000 in
set_option maxRecDepth 100000 in
theorem add_any (B : Nat) (n : Nat) (xs : List Int) (v : Value) (w : World) (hn : n ≤ 1099511627776) (hx : xs.length ≤ 1000) (hB : B ≤ w.heap.size) (hown : Has w B v xs) :
    Calls Tryz.prog 99 #[v, .int .i64 n] w fun e w' => ∃ v', e = .returned v' ∧ Has w' B v' (xs ++ nb n) ∧ Below B w w' := by
  obtain ⟨i0, hi, hz0, hz1, hz2⟩ := info_parts info_byte
  go_enter Tryz.func99, Tryz.ntmps99
  go_wp2
  go_loopw [0, 1] (fun v i wr => ∃ (k : Nat) (ys : List Int), k ≤ n ∧ i = .int .i64 k ∧ ys ++ nb k = nb n ∧ Has wr B v (xs ++ ys) ∧ Below B w wr) (fun _ i _ => (intOf i).toNat)
  case atStart => exact ⟨n, [], Nat.le_refl _, rfl, rfl, by simpa using hown, Below.refl _ _⟩
  case round =>
    obtain ⟨k, ys, hk, rfl, hys, hwn, hbl⟩ := hrel
    have HY : Hid (ys ++ nb k = nb n) := hys
    have hyl := part_le hys hn
    clear hys
    have hBr : B ≤ wr.heap.size := by have := hbl.size; omega
    have hl : (xs ++ ys).length ≤ 1006 := by rw [List.length_append]; omega
    obtain ⟨zs, hzs⟩ : ∃ zs, xs ++ ys = zs := ⟨_, rfl⟩
    rw [hzs] at hwn hl
    have HZ : Hid (xs ++ ys = zs) := hzs
    clear hzs
    by_cases h : k < 128
    · go_wp2_with (at_builtin; refine wpList_append_own _ rfl _ _ 59 rfl B 5 i0 (.int .u8 0) 1 1 Tryz.underlying59 hi hz0 hz1 hz2 rfl (by decide) _ _ _ rfl (hwn.alloc _) ⟨wr.heap.size, 0, none⟩ 1 1 [.int .u8 (k : Int)] rfl rfl (one_new _ _ _) (one_cell _ _) ?c3 ?c4 ?c5 ?_)
      case c3 => unfold maxLen; omega
      case c4 => omega
      case c5 => simp; omega
      intro v' w1 hown' hgrow _
      have R := hwn.app (news := [(k : Int)]) hbl hBr rfl hown' hgrow
      rw [← HZ.out, List.append_assoc, nb_last HY.out h] at R
      clear hown' hgrow hwn hbl
      go_wp2
      go_ret
      exact ⟨_, rfl, R⟩
    · go_wp2_with (at_builtin; refine wpList_append_own _ rfl _ _ 59 rfl B 5 i0 (.int .u8 0) 1 1 Tryz.underlying59 hi hz0 hz1 hz2 rfl (by decide) _ _ _ rfl (hwn.alloc _) ⟨wr.heap.size, 0, none⟩ 1 1 [.int .u8 ((k : Int) % 128 + 128)] rfl rfl (one_new _ _ _) (one_cell _ _) ?d3 ?d4 ?d5 ?_)
      case d3 => unfold maxLen; omega
      case d4 => omega
      case d5 => simp; omega
      intro v' w1 hown' hgrow _
      have R := hwn.app (news := [((k : Int) % 128 + 128)]) hbl hBr rfl hown' hgrow
      rw [← HZ.out, List.append_assoc] at R
      have P := nb_part HY.out h
      have HP : Hid ((ys ++ [((k : Int) % 128 + 128)]) ++ nb (k / 128) = nb n) := P
      clear hown' hgrow hwn hbl P
      go_wp2
      go_roundw
      case rel => exact ⟨k / 128, _, by omega, by go_num, HP.out, R.1, R.2⟩
      case measure => simp [intOf]; omega

end Go.Proofs.YtbebfliimjjohaaGreatDoor.Wire
end
