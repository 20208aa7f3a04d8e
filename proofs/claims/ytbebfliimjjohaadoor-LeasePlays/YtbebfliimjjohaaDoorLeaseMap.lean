/-
  Keys of a table's maps, and when two maps are the same to whoever asks.
-/
import Derived.Test.YtbebfliimjjohaaDoorNum
import Derived.Test.YtbebfliimjjohaaDoorProg
import Derived.Maps.OwnSet
import Derived.DeepKeys4
namespace Go.Proofs.YtbebfliimjjohaaDoor.Lease
open Go.Maps

theorem laidOut : laidOutB Tryd.prog = true := by kernel_rfl
theorem wideP : (match Tryd.prog.underlying 164 with | some (.array _ _) | some (.struct _) => true | _ => false) = true := by kernel_rfl
theorem wideA : (match Tryd.prog.underlying 103 with | some (.array _ _) | some (.struct _) => true | _ => false) = true := by kernel_rfl
theorem rowP : (164 : TypeId) < Tryd.prog.types.size := of_decide_eq_true (by kernel_rfl)
theorem rowA : (103 : TypeId) < Tryd.prog.types.size := of_decide_eq_true (by kernel_rfl)
theorem typ3P : Tryd.prog.keyTypeAt 3 164 = true := by kernel_rfl
theorem typ3A : Tryd.prog.keyTypeAt 3 103 = true := by kernel_rfl
set_option maxRecDepth 100000 in
theorem lawP : WideMaps.KeyLaw Tryd.prog 164 := deep_law_laid laidOut (m := 3) (by omega) rowP typ3P wideP
set_option maxRecDepth 100000 in
theorem lawA : WideMaps.KeyLaw Tryd.prog 103 := deep_law_laid laidOut (m := 3) (by omega) rowA typ3A wideA
theorem keyedP : Keyed Tryd.prog 164 := Keyed.of_law lawP
theorem keyedA : Keyed Tryd.prog 103 := Keyed.of_law lawA
theorem keyedI : Keyed Tryd.prog 3 := int_keyed Tryd.underlying3
theorem zeroI (w : World) : (zeroValue 3).run Tryd.prog w = .ok (.int .i64 0) w := by kernel_rfl

/-- A number of 64 bits. -/
def I64 (x : Int) : Prop := -9223372036854775808 ≤ x ∧ x ≤ 9223372036854775807
theorem I64.wf {x : Int} (h : I64 x) : (Lit.int .i64 x).wf = true := by
  obtain ⟨h1, h2⟩ := h
  simp only [Lit.wf, IntKind.min, IntKind.max, IntKind.signed, IntKind.bits, Bool.and_eq_true, decide_eq_true_eq, if_true]
  exact ⟨by simpa using h1, by simp; omega⟩
theorem I64.of_wf {x : Int} (h : (Lit.int .i64 x).wf = true) : I64 x := by
  simp only [Lit.wf, IntKind.min, IntKind.max, IntKind.signed, IntKind.bits, Bool.and_eq_true, decide_eq_true_eq, if_true] at h
  obtain ⟨h1, h2⟩ := h
  simp at h1 h2
  exact ⟨by omega, by omega⟩

/-- The key of a client and an object. -/
def kk (c o : Int) : Lit := .string (keyBytes [.int .i64 c, .int .i64 o])
theorem kk_key (c o : Int) : WideAt.IsKeyLit (kk c o) := trivial

theorem sizeT : Tryd.prog.types.size = 245 := by kernel_rfl
theorem cellsP : Tryd.prog.cellsOf 164 = 2 := by kernel_rfl
theorem cellsA : Tryd.prog.cellsOf 103 = 2 := by kernel_rfl
theorem cellsI : Tryd.prog.cellsOf 3 = 1 := by kernel_rfl
theorem typP : Tryd.prog.keyType 164 = true := by kernel_rfl
theorem typA : Tryd.prog.keyType 103 = true := by kernel_rfl
theorem lits1 (d : Nat) {x : Int} (h : I64 x) : Tryd.prog.keyLits (d + 1) 3 [.int .i64 x] = some [.int .i64 x] := by
  unfold Program.keyLits
  simp [Tryd.underlying3, h.wf]

theorem keyP {c o : Int} (hc : I64 c) (ho : I64 o) : keyOf Tryd.prog 164 (.agg #[.int .i64 c, .int .i64 o]) = some (kk c o) := by
  have hl : Tryd.prog.keyLits (Tryd.prog.types.size + 1) 164 (Value.agg #[.int .i64 c, .int .i64 o]).cells.toList = some [.int .i64 c, .int .i64 o] := by
    rw [sizeT]
    unfold Program.keyLits
    simp [Tryd.underlying164, Value.cells, cellsP, cellsI, lits1 _ hc, lits1 _ ho]
  have hf : (Value.agg #[.int .i64 c, .int .i64 o]).formed Tryd.prog 164 = true := by simp [Value.formed, Tryd.underlying164, cellsP]
  unfold keyOf
  rw [Tryd.underlying164]
  simp only [typP, hf, Bool.and_self, if_true, hl, Option.map_some]
  rfl
theorem keyA {c o : Int} (hc : I64 c) (ho : I64 o) : keyOf Tryd.prog 103 (.agg #[.int .i64 c, .int .i64 o]) = some (kk c o) := by
  have hl : Tryd.prog.keyLits (Tryd.prog.types.size + 1) 103 (Value.agg #[.int .i64 c, .int .i64 o]).cells.toList = some [.int .i64 c, .int .i64 o] := by
    rw [sizeT]
    unfold Program.keyLits
    simp [Tryd.underlying103, Value.cells, cellsA, cellsI, lits1 _ hc, lits1 _ ho, List.range_succ]
  have hf : (Value.agg #[.int .i64 c, .int .i64 o]).formed Tryd.prog 103 = true := by simp [Value.formed, Tryd.underlying103, cellsA]
  unfold keyOf
  rw [Tryd.underlying103]
  simp only [typA, hf, Bool.and_self, if_true, hl, Option.map_some]
  rfl
theorem keyI {c : Int} (hc : I64 c) : keyOf Tryd.prog 3 (.int .i64 c) = some (.int .i64 c) := keyOf_int_mk Tryd.underlying3 hc.wf

abbrev Dat := DataW Unit
/-- A number among a map's elements. -/
abbrev num (x : Int) : Dat := .lit (.int .i64 x)

/-- Two maps that answer alike. -/
structure Same (D E : Dat) : Prop where
  tD : Tidy D
  tE : Tidy E
  has : ∀ k, has D k = has E k
  look : ∀ k z, D.atKey k z = E.atKey k z
  size : size D = size E

theorem Same.empty : Same (.map []) (.map []) := ⟨tidy_empty, tidy_empty, fun _ => rfl, fun _ _ => rfl, rfl⟩
theorem Same.put {D E : Dat} (h : Same D E) {k : Lit} (hk : WideAt.IsKeyLit k) (d : Dat) : Same (D.put k d) (E.put k d) := by
  refine ⟨h.tD.put hk d, h.tE.put hk d, fun j => ?_, fun j z => ?_, ?_⟩
  · by_cases e : j = k
    · subst e; rw [has_put_same h.tD.isMap hk, has_put_same h.tE.isMap hk]
    · rw [has_put_other e, has_put_other e, h.has]
  · by_cases e : j = k
    · subst e; rw [atKey_put_same h.tD.isMap hk, atKey_put_same h.tE.isMap hk]
    · rw [atKey_put_other e, atKey_put_other e, h.look]
  · rw [size_put h.tD, size_put h.tE, h.has, h.size]
theorem atKey_has {D : Dat} {k : Lit} (h : has D k = true) (z z' : Dat) : D.atKey k z = D.atKey k z' := by
  cases D <;> try (cases h; done)
  rename_i es
  obtain ⟨p, hp, hpk⟩ := List.any_eq_true.1 h
  have hs : (es.find? (fun p => p.1.sameKey k)).isSome = true := List.find?_isSome.2 ⟨p, hp, hpk⟩
  obtain ⟨x, hx⟩ := Option.isSome_iff_exists.1 hs
  simp [DataW.atKey, hx]
/-- What is there is put again. -/
theorem Same.again {D E : Dat} (h : Same D E) {k : Lit} (hk : WideAt.IsKeyLit k) {d z : Dat} (hh : Maps.has D k = true) (ha : D.atKey k z = d) : Same (D.put k d) E := by
  refine ⟨h.tD.put hk d, h.tE, fun j => ?_, fun j z' => ?_, ?_⟩
  · by_cases e : j = k
    · subst e; rw [has_put_same h.tD.isMap hk, ← h.has, hh]
    · rw [has_put_other e, h.has]
  · by_cases e : j = k
    · subst e; rw [atKey_put_same h.tD.isMap hk, ← h.look, ← ha, atKey_has hh]
    · rw [atKey_put_other e, h.look]
  · rw [size_put h.tD, hh, if_pos rfl, h.size]
theorem Same.del {D E : Dat} (h : Same D E) (k : Lit) : Same (D.del k) (E.del k) := by
  refine ⟨h.tD.del k, h.tE.del k, fun j => ?_, fun j z => ?_, ?_⟩
  · by_cases e : j = k
    · subst e; rw [has_del_same, has_del_same]
    · rw [has_del_other e, has_del_other e, h.has]
  · by_cases e : j = k
    · subst e; rw [atKey_del_same, atKey_del_same]
    · rw [atKey_del_other e, atKey_del_other e, h.look]
  · have h1 := size_del (k := k) h.tD
    have h2 := size_del (k := k) h.tE
    rw [h.has, h.size] at h1
    omega

/-- The first n objects of a client are struck. -/
def dels (D : Dat) (c : Int) : Nat → Dat
  | 0 => D
  | n + 1 => (dels D c n).del (kk c n)
theorem Same.dels {D E : Dat} (h : Same D E) (c : Int) : ∀ n, Same (dels D c n) (dels E c n)
  | 0 => h
  | n + 1 => (Same.dels h c n).del _

/-- A row of numbers, one turned. -/
def upd (v : Int → Int) (c x : Int) : Int → Int := fun y => if y = c then x else v y
theorem upd_same (v : Int → Int) (c x : Int) : upd v c x c = x := by simp [upd]
theorem upd_other {v : Int → Int} {c x y : Int} (h : y ≠ c) : upd v c x y = v y := by simp [upd, h]

/-- A map of four clients' numbers: what is not there is 0. -/
def VolIs (D : Dat) (v : Int → Int) : Prop := Tidy D ∧ ∀ c : Int, (0 ≤ c ∧ c ≤ 3 → D.atKey (.int .i64 c) (num 0) = num (v c)) ∧ (¬ (0 ≤ c ∧ c ≤ 3) → has D (.int .i64 c) = false)
theorem VolIs.empty : VolIs (.map []) (fun _ => 0) := ⟨tidy_empty, fun _ => ⟨fun _ => rfl, fun _ => rfl⟩⟩
theorem VolIs.put {D : Dat} {v : Int → Int} (h : VolIs D v) {c : Int} (hc : 0 ≤ c ∧ c ≤ 3) (x : Int) : VolIs (D.put (.int .i64 c) (num x)) (upd v c x) := by
  have hk : WideAt.IsKeyLit (.int .i64 c) := trivial
  refine ⟨h.1.put hk _, fun y => ⟨fun hy => ?_, fun hy => ?_⟩⟩
  · by_cases e : y = c
    · subst e; rw [atKey_put_same h.1.isMap hk, upd_same]
    · rw [atKey_put_other (by simpa using e), upd_other e]; exact (h.2 y).1 hy
  · rw [has_put_other (by simp; rintro rfl; exact hy hc)]; exact (h.2 y).2 hy
theorem VolIs.del {D : Dat} {v : Int → Int} (h : VolIs D v) (c : Int) : VolIs (D.del (.int .i64 c)) (upd v c 0) := by
  refine ⟨h.1.del _, fun y => ⟨fun hy => ?_, fun hy => ?_⟩⟩
  · by_cases e : y = c
    · subst e; rw [atKey_del_same, upd_same]
    · rw [atKey_del_other (by simpa using e), upd_other e]; exact (h.2 y).1 hy
  · by_cases e : y = c
    · subst e; exact has_del_same
    · rw [has_del_other (by simpa using e)]; exact (h.2 y).2 hy
end Go.Proofs.YtbebfliimjjohaaDoor.Lease
