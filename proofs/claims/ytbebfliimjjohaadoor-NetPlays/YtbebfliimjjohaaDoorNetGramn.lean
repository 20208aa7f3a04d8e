/-
  What the law's closure does with a datagram whose bytes are nil, and the k-th of the law's datagrams, over the turned program.
-/
import Derived.Test.YtbebfliimjjohaaDoorNetGram
namespace Go.Proofs.YtbebfliimjjohaaDoor.Net
open Go.RowKit
open Wire (Has bcell Sees conv_sees)
open Num (strOf ints)

theorem gcells_get : ∀ (gs : List G) (k : Nat) (h : k < gs.length), (gcells gs)[k * 2]? = some (.int .i64 gs[k].1) ∧ (gcells gs)[k * 2 + 1]? = some gs[k].2.1
  | p :: gs, 0, _ => by
    have e : gcells (p :: gs) = [.int .i64 p.1, p.2.1] ++ gcells gs := by simp [gcells]
    rw [e]
    simp
  | p :: gs, k + 1, h => by
    have ih := gcells_get gs k (by simpa using h)
    have e : gcells (p :: gs) = [.int .i64 p.1, p.2.1] ++ gcells gs := by simp [gcells]
    rw [e, List.getElem?_append_right (by simp; omega), List.getElem?_append_right (by simp; omega)]
    have e1 : (k + 1) * 2 - [Value.int .i64 p.1, p.2.1].length = k * 2 := by simp; omega
    have e2 : (k + 1) * 2 + 1 - [Value.int .i64 p.1, p.2.1].length = k * 2 + 1 := by simp; omega
    rw [e1, e2]
    simpa using ih

/-- The k-th datagram's cells. -/
theorem GramIs.at {w : World} {B q : Nat} {gs : List G} (h : GramIs w B q gs) (k : Nat) (hk : k < gs.length) :
    ∃ g c, w.cell? ⟨q, 0, none⟩ = some (.slice (some ⟨g, 0, none⟩) gs.length c) ∧ w.ownsRow B 52 2 (.slice (some ⟨g, 0, none⟩) gs.length c) gs.length (gcells gs) ∧ gs.length ≤ c ∧ B ≤ g ∧ g < w.heap.size ∧
      w.cell? ⟨g, k * 2, none⟩ = some (.int .i64 gs[k].1) ∧ w.cell? ⟨g, k * 2 + 1, none⟩ = some gs[k].2.1 := by
  obtain ⟨⟨v, hv, hrow⟩, _, _, _, _, _⟩ := h
  have hlt := hrow.lt
  rcases hrow.2 with ⟨_, h0⟩ | ⟨g, cap, cur, rfl, hB, hh, hn, _⟩
  · omega
  · have hp := gcells_get gs k hk
    refine ⟨g, cap, hv, hrow, hn, hB, (hlt g rfl).2, ?_, ?_⟩
    · rw [hrow.cellAt _ (by omega)]; exact hp.1
    · rw [hrow.cellAt _ (by omega)]; exact hp.2

/-- 'append(row, nil...)' leaves all as it is. -/
theorem wp_append_nil {P : Program} {w : World} {o : Oper} {a : Act} {K : Act → World → Prop} {Q : Exit → Act → World → Prop} (s x : Operand) (t : TypeId)
    (ho : o.op = .call { callee := .builtin .append, args := #[s, x], argTypes := #[t, t] })
    (base : Nat) (e : TypeId) (i : TypeInfo) (size : Nat) (ht : P.underlying t = some (.slice e)) (hi : P.info? e = some i)
    (v : Value) (n : Nat) (xs : List Value) (hs : a.eval s = v) (hown : w.ownsRow base e size v n xs) (hx : a.eval x = .slice none 0 0)
    (h : K (a.put o.dst v) w) : o.wp P a w K Q := by
  have hrun := run_append_owned_none (P := P) (w := w) base t o.type e i size ht hi v n xs hown
  unfold Oper.wp
  simp [execOp, ho, resolve, invoke, builtin, hs, hx, hrun, Result.andThen]
  exact h

end Go.Proofs.YtbebfliimjjohaaDoor.Net
