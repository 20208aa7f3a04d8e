/-
  Which message some bytes are: plain lists.
-/
import Derived.Test.YtbebfliimjjohaaDoorCut
namespace Go.Proofs.YtbebfliimjjohaaDoor.Num

/-- The text of some bytes. -/
def strOf (l : List Int) : ByteArray := l.foldl (fun r n => r.push (UInt8.ofNat n.toNat)) ByteArray.empty

theorem strOf_from : ∀ (l : List Int) (r : ByteArray), l.foldl (fun r n => r.push (UInt8.ofNat n.toNat)) r = ⟨r.data ++ (l.map fun n => UInt8.ofNat n.toNat).toArray⟩
  | [], r => by simp
  | x :: l, r => by
    rw [List.foldl_cons, strOf_from l]
    simp [ByteArray.push]

theorem strOf_eq (l : List Int) : strOf l = ⟨(l.map fun n => UInt8.ofNat n.toNat).toArray⟩ := by
  unfold strOf
  rw [strOf_from]
  have e : ByteArray.empty.data = #[] := rfl
  rw [e, Array.empty_append]

theorem strOf_size (l : List Int) : (strOf l).size = l.length := by
  rw [strOf_eq]
  simp [ByteArray.size]

theorem ints_strOf (l : List Int) (h : ∀ x ∈ l, 0 ≤ x ∧ x < 256) : ints (strOf l) = l := by
  rw [strOf_eq]
  unfold ints
  rw [List.map_map]
  conv => rhs; rw [← List.map_id l]
  apply List.map_congr_left
  intro x hx
  have := h x hx
  simp only [Function.comp, id]
  rw [UInt8.toNat_ofNat']
  omega

theorem strOf_ints (d : ByteArray) : strOf (ints d) = d := by
  rw [strOf_eq]
  unfold ints
  rw [List.map_map]
  have e : (d.data.toList.map ((fun n : Int => UInt8.ofNat n.toNat) ∘ fun b => ((b.toNat : Nat) : Int))) = d.data.toList := by
    conv => rhs; rw [← List.map_id d.data.toList]
    apply List.map_congr_left
    intro b _
    simp
  rw [e]

theorem strOf_inj {a b : List Int} (ha : ∀ x ∈ a, 0 ≤ x ∧ x < 256) (hb : ∀ x ∈ b, 0 ≤ x ∧ x < 256) (h : strOf a = strOf b) : a = b := by
  rw [← ints_strOf a ha, ← ints_strOf b hb, h]

/-- What stands behind a message's numbers. -/
def M.tail (m : M) : List Int := [leaseN m.l, (m.d.size : Int)] ++ ints m.d

theorem M.bytes_eq (m : M) : m.bytes = body m.nums ++ m.tail := by simp [M.bytes, M.tail]

theorem bytes_byte {m : M} (h : okB m = true) : ∀ x ∈ m.bytes, 0 ≤ x ∧ x < 256 := by
  simp only [okB, Bool.and_eq_true, decide_eq_true_eq] at h
  intro x hx
  rw [M.bytes_eq, List.mem_append] at hx
  rcases hx with hx | hx
  · exact (body_small _ h.2).2 x hx
  · simp only [M.tail, List.cons_append, List.nil_append, List.mem_cons] at hx
    rcases hx with rfl | rfl | hx
    · unfold leaseN
      split <;> omega
    · omega
    · exact ints_byte _ x hx

/-- No message has these bytes. -/
def NoMsg (l : List Int) : Prop := ∀ m : M, okB m = true → l ≠ m.bytes
/-- If some message has these bytes, it is m. -/
def Reads (l : List Int) (m : M) : Prop := m.d.size ≤ l.length ∧ ∀ m0 : M, okB m0 = true → l = m0.bytes → m = m0
/-- If some message has these bytes, its first j numbers are ns, and rest stands behind them. -/
def Par (l : List Int) (j : Nat) (ns rest : List Int) : Prop := ∀ m0 : M, okB m0 = true → l = m0.bytes → ns = m0.nums.take j ∧ rest = body (m0.nums.drop j) ++ m0.tail

theorem Par.start (l : List Int) : Par l 0 [] l := fun m0 _ h => ⟨rfl, h.trans m0.bytes_eq⟩

theorem body_drop (ns : List Int) (j : Nat) (h : j < ns.length) : body (ns.drop j) = nb (ns.getD j 0).toNat ++ body (ns.drop (j + 1)) := by
  rw [List.drop_eq_getElem_cons h, List.getD_eq_getElem?_getD, List.getElem?_eq_getElem h]
  unfold body
  rw [List.flatMap_cons]
  rfl

theorem numB_of {m : M} (h : okB m = true) {j : Nat} (hj : j < 7) : numB (m.nums.getD j 0) = true := by
  simp only [okB, Bool.and_eq_true] at h
  have hl : m.nums.length = 7 := rfl
  rw [List.getD_eq_getElem?_getD, List.getElem?_eq_getElem (by omega)]
  exact List.all_eq_true.1 h.2 _ (List.getElem_mem _)

theorem Par.next {l ns rest rest' : List Int} {j : Nat} {x : Int} (h : Par l j ns rest) (hj : j < 7) (hc : CutOk rest x rest') : Par l (j + 1) (ns ++ [x]) rest' := by
  intro m0 hok hl
  obtain ⟨h1, h2⟩ := h m0 hok hl
  have hlen : m0.nums.length = 7 := rfl
  have hn := of_inB_true (numB_of hok hj)
  rw [body_drop _ _ (by omega), List.append_assoc] at h2
  obtain ⟨h3, h4⟩ := hc _ _ (by omega) h2
  refine ⟨?_, h4⟩
  rw [h1, List.take_succ_eq_append_getElem (by omega), h3]
  rw [List.getD_eq_getElem?_getD, List.getElem?_eq_getElem (by omega)] at hn ⊢
  simp only [Option.getD_some] at hn ⊢
  rw [Int.toNat_of_nonneg hn.1]

theorem Par.no {l ns rest : List Int} {j : Nat} (h : Par l j ns rest) (hj : j < 7) (hc : CutNo rest) : NoMsg l := by
  intro m0 hok hl
  obtain ⟨_, h2⟩ := h m0 hok hl
  have hlen : m0.nums.length = 7 := rfl
  rw [body_drop _ _ (by omega), List.append_assoc] at h2
  exact hc _ _ h2

/-- No number from 0 to 2^40 stands at the head. -/
def CutNone (l : List Int) : Prop := ∀ (n : Nat) (r : List Int), n ≤ 1099511627776 → l ≠ nb n ++ r

theorem cut_long {l : List Int} (h : ∀ j, j < 6 → 128 ≤ l.getD j 0) : CutNone l := by
  intro n r hn he
  have hlen : (nb n).length ≤ 6 := nb_length 5 n (by have : (128 : Nat) ^ (5 + 1) = 4398046511104 := by decide
                                                     omega)
  obtain ⟨pre, c, h2, _, _, h5⟩ := nb_shape n n (Nat.le_refl _)
  rw [h2] at he hlen
  simp at hlen
  have hc : l.getD pre.length 0 = c := by
    rw [he, List.getD_eq_getElem?_getD, List.append_assoc, List.getElem?_append_right (Nat.le_refl _)]
    simp
  have := h pre.length (by omega)
  omega

theorem cut_all {l : List Int} (h : ∀ j, j < l.length → 128 ≤ l.getD j 0) : CutNone l := fun _ _ _ he => cut_miss h he

theorem Par.none {l ns rest : List Int} {j : Nat} (h : Par l j ns rest) (hj : j < 7) (hc : CutNone rest) : NoMsg l := by
  intro m0 hok hl
  obtain ⟨_, h2⟩ := h m0 hok hl
  have hlen : m0.nums.length = 7 := rfl
  have hn := of_inB_true (numB_of hok hj)
  rw [body_drop _ _ (by omega), List.append_assoc] at h2
  exact hc _ _ (by omega) h2

theorem Par.short {l ns rest : List Int} (h : Par l 7 ns rest) (hs : rest.length < 2) : NoMsg l := by
  intro m0 hok hl
  obtain ⟨_, h2⟩ := h m0 hok hl
  have := congrArg List.length h2
  simp [M.tail] at this
  omega

theorem Par.other {l ns rest : List Int} (h : Par l 7 ns rest) (hs : (rest.length : Int) - 2 ≠ rest.getD 1 0) : NoMsg l := by
  intro m0 hok hl
  obtain ⟨_, h2⟩ := h m0 hok hl
  have hb : body (m0.nums.drop 7) = [] := rfl
  rw [hb, List.nil_append] at h2
  apply hs
  rw [h2]
  simp [M.tail, ints_length]
  omega

theorem Par.done {l rest : List Int} {k c n e s o v : Int} (h : Par l 7 [k, c, n, e, s, o, v] rest) (hl : rest.length ≤ l.length) :
    Reads l ⟨k, c, n, e, s, o, v, rest.getD 0 0 == 1, strOf (rest.drop 2)⟩ := by
  refine ⟨?_, fun m0 hok h1 => ?_⟩
  · show (strOf (rest.drop 2)).size ≤ l.length
    rw [strOf_size, List.length_drop]
    omega
  · obtain ⟨h2, h3⟩ := h m0 hok h1
    have hb7 : body (m0.nums.drop 7) = [] := rfl
    rw [hb7, List.nil_append] at h3
    have ht : m0.nums.take 7 = [m0.k, m0.c, m0.n, m0.e, m0.s, m0.o, m0.v] := rfl
    rw [ht] at h2
    simp only [List.cons.injEq, and_true] at h2
    obtain ⟨r1, r2, r3, r4, r5, r6, r7⟩ := h2
    have hle : (rest.getD 0 0 == 1) = m0.l := by
      rw [h3]
      simp only [M.tail, leaseN]
      cases m0.l <;> rfl
    have hd : strOf (rest.drop 2) = m0.d := by
      rw [h3]
      show strOf (ints m0.d) = m0.d
      exact strOf_ints _
    rw [hle, hd, r1, r2, r3, r4, r5, r6, r7]

end Go.Proofs.YtbebfliimjjohaaDoor.Num
