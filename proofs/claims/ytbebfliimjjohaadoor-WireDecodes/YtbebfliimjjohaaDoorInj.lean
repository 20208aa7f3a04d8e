/-
  No message's bytes are the beginning of another one's: plain lists.
-/
import Derived.Test.YtbebfliimjjohaaDoorPar
namespace Go.Proofs.YtbebfliimjjohaaDoor.Num

theorem body_inj : ∀ (ns ms x y : List Int), ns.length = ms.length → ns.all numB = true → ms.all numB = true → body ns ++ x = body ms ++ y → ns = ms ∧ x = y
  | [], [], x, y, _, _, _, h => ⟨rfl, h⟩
  | [], _ :: _, _, _, h, _, _, _ => by cases h
  | _ :: _, [], _, _, h, _, _, _ => by cases h
  | a :: ns, b :: ms, x, y, hl, h1, h2, h => by
    simp only [List.all_cons, Bool.and_eq_true] at h1 h2
    have e1 : body (a :: ns) = nb a.toNat ++ body ns := by simp [body]
    have e2 : body (b :: ms) = nb b.toNat ++ body ms := by simp [body]
    rw [e1, e2, List.append_assoc, List.append_assoc] at h
    obtain ⟨h3, h4⟩ := nb_inj _ _ _ _ h
    obtain ⟨h5, h6⟩ := body_inj ns ms x y (by simpa using hl) h1.2 h2.2 h4
    have ha := of_inB_true h1.1
    have hb := of_inB_true h2.1
    exact ⟨by rw [h5, show a = b by omega], h6⟩

theorem ints_inj {a b : ByteArray} (h : ints a = ints b) : a = b := by rw [← strOf_ints a, ← strOf_ints b, h]

/-- No message's bytes are the beginning of another one's. -/
theorem bytes_cut {m n : M} {t : List Int} (hm : okB m = true) (hn : okB n = true) (h : m.bytes ++ t = n.bytes) : m = n ∧ t = [] := by
  simp only [okB, Bool.and_eq_true] at hm hn
  rw [m.bytes_eq, n.bytes_eq, List.append_assoc] at h
  obtain ⟨h1, h2⟩ := body_inj m.nums n.nums _ _ rfl hm.2 hn.2 h
  simp only [M.tail, List.cons_append, List.nil_append, List.cons.injEq] at h2
  obtain ⟨h3, h4, h5⟩ := h2
  have h6 := congrArg List.length h5
  rw [List.length_append, ints_length, ints_length] at h6
  have h7 : t = [] := List.eq_nil_of_length_eq_zero (by omega)
  subst h7
  rw [List.append_nil] at h5
  have h8 := ints_inj h5
  have h9 : m.l = n.l := by
    revert h3
    unfold leaseN
    cases m.l <;> cases n.l <;> decide
  refine ⟨?_, rfl⟩
  obtain ⟨a0, a1, a2, a3, a4, a5, a6, a7, a8⟩ := m
  obtain ⟨b0, b1, b2, b3, b4, b5, b6, b7, b8⟩ := n
  simp only [M.nums, List.cons.injEq, and_true] at h1
  obtain ⟨rfl, rfl, rfl, rfl, rfl, rfl, rfl⟩ := h1
  have h9' : a7 = b7 := h9
  have h8' : a8 = b8 := h8
  rw [h9', h8']

theorem bytes_inj {m n : M} (hm : okB m = true) (hn : okB n = true) (h : m.bytes = n.bytes) : m = n := (bytes_cut (t := []) hm hn (by rw [List.append_nil]; exact h)).1

end Go.Proofs.YtbebfliimjjohaaDoor.Num
