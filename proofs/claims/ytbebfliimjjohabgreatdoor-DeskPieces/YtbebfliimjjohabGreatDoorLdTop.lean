/-
  For all strings a and b the Go function tenurekeep.DeskPieces, at the commit named beside this claim, returns true and leaves its arguments as they were; it starts no goroutine.
  Conditions: none on the arguments; the eight variables that the row lists are as the program's text lays them (the card ties them to that text; the tie is given).
-/
import Derived.Test.YtbebfliimjjohabGreatDoorLd48
import Derived.Test.YtbebfliimjjohabGreatDoorLd34
import Derived.Test.YtbebfliimjjohabGreatDoorTie
import Derived.Test.YtbebfliimjjohabGreatDoorCards
import Derived.ChangeSame
import Derived.ChangeVars
import Derived.JoinedOf
import Derived.LaidLaws
import Derived.LaidHandle
import Derived.Lay
import Derived.Lib.LaidTab
import Derived.Stop.LaidErr
import Derived.ChangeMaps5
import Derived.Stop.Joined
import Derived.SevenTiedAt
namespace Go.Proofs.YtbebfliimjjohabGreatDoor.DeskPiecesHolds
open Go.ChangeShapes Go.WideShapes Go.ChangeAt Go.RowKit

theorem own : ownKnob Tryz.prog.godebug = none := by kernel_rfl
def laid : List (String × DataW Unit) := Rows.deskPiecesRow.laid
def data : List (String × DataW Unit) := laid.filter fun x => x.2.handleName?.isNone
theorem et : Tryz.prog.globalNamed "errors.errorType" = some 0 := by kernel_rfl
theorem rt : (Tryz.prog.cutTypes.find? (·.1 == "internal/reflectlite.rtype")).map (·.2) = some 252 := by kernel_rfl
theorem oneRow : ((List.range 404).filter fun t => Tryz.prog.rowNamed t [101, 114, 114, 111, 114]) = [47] := by kernel_rfl
theorem size : Tryz.prog.types.size = 404 := by kernel_rfl
theorem pow : Tryz.prog.globalNamed "internal/strconv.uint64pow10" = some 4 := by kernel_rfl
theorem syn : Tryz.prog.globalNamed "strconv.ErrSyntax" = some 7 := by kernel_rfl
theorem ran : Tryz.prog.globalNamed "strconv.ErrRange" = some 8 := by kernel_rfl
theorem star : "*" ++ "errors.errorString" = "*errors.errorString" := by decide
theorem row (u : TypeId) (h : Tryz.prog.typeName? 3 u = some "*errors.errorString") : u = 375 :=
  typeName_ptr_named (nm := "errors.errorString") (by rw [star]; kernel_rfl) (by kernel_rfl) (by decide) u (by rw [star]; exact h)

/-- What the row's condition gives the walk. -/
theorem base_of {W : World} (h : laidMetH Tryz.prog laid W) : Wld.Base W.heap.size W := by
  have h' : laidMet Tryz.prog data W ∧ handlesMet Tryz.prog [("errors.errorType", Rows.laid_errors_errorType)] W := h
  obtain ⟨hd, hh⟩ := h'
  have d3 : laidMet Tryz.prog (("internal/strconv.uint64pow10", Lib.tabData .u64 Lib.pow10Tab) :: ("unicode/utf8.acceptRanges", Rows.laid_unicode_utf8_acceptRanges) :: ("strconv.ErrRange", Rows.laid_strconv_ErrRange) :: ("strconv.ErrSyntax", Rows.laid_strconv_ErrSyntax) :: [("unicode/utf8.first", Rows.laid_unicode_utf8_first)]) W := hd.tail.tail
  have htab : Lib.TabIs Tryz.prog W "internal/strconv.uint64pow10" .u64 Lib.pow10Tab := Lib.tabIs_of_head pow (by kernel_rfl) Tryz.underlying340 Tryz.underlying110 (by kernel_rfl) (by kernel_rfl) d3
  have d5 := d3.tail.tail
  obtain ⟨a0, s0, hv0, -, -, -⟩ := laid_sentinel d5 ran (by kernel_rfl) Tryz.underlying47 row Tryz.underlying375 Tryz.underlying377 rfl rfl Tryz.underlying9 (by kernel_rfl) (by kernel_rfl)
  obtain ⟨a1, s1, hv1, -, -, -⟩ := laid_sentinel d5.tail syn (by kernel_rfl) Tryz.underlying47 row Tryz.underlying375 Tryz.underlying377 rfl rfl Tryz.underlying9 (by kernel_rfl) (by kernel_rfl)
  have c8 : W.cell? ⟨8, 0, none⟩ = some (.iface 375 (.pointer (some a0))) := by simpa using World.var?_cell ran hv0 0
  have c7 : W.cell? ⟨7, 0, none⟩ = some (.iface 375 (.pointer (some a1))) := by simpa using World.var?_cell syn hv1 0
  have hla : Bare.Laid W := by
    obtain ⟨name, u, ty, e1, e2, e3, e4, e5⟩ := hh _ (List.mem_singleton.2 rfl)
    have en : name = [101, 114, 114, 111, 114] := (Option.some.inj e1).symm
    subst en
    obtain rfl := Option.some.inj (rt.symm.trans e2)
    have hm : ty ∈ (List.range 404).filter fun t => Tryz.prog.rowNamed t [101, 114, 114, 111, 114] := List.mem_filter.2 ⟨List.mem_range.2 (by rw [← size]; exact e3), e4⟩
    rw [oneRow] at hm
    obtain rfl := List.mem_singleton.1 hm
    have hk : typeHandle Tryz.prog 47 = .pointer (some ⟨9, 47, none⟩) := by kernel_rfl
    rw [hk] at e5
    unfold Bare.Laid
    simpa using World.var?_cell et e5 0
  have h9 : 9 ≤ W.heap.size := by
    rcases Nat.lt_or_ge 8 W.heap.size with k | k
    · exact k
    · simp [World.cell?, Array.getElem?_eq_none k] at c8
  exact ⟨hla, ⟨_, _, c7⟩, ⟨_, _, c8⟩, Lib.tabBelow_of_tabIs htab, h9, Nat.le_refl _⟩

/-- The settled world, the handle's cell laid. -/
noncomputable def hw (os : Os) : World := { World.holding Tryz.prog os ⟨#[], #[], []⟩ with heap := (World.holding Tryz.prog os ⟨#[], #[], []⟩).heap.modify 0 fun
      | .cells _ t frozen => .cells #[.iface 252 (.agg #[.pointer (some ⟨9, 47, none⟩)])] t frozen
      | o => o }
/-- A world that meets the condition. -/
noncomputable def lw (os : Os) : World := (hw os).layVars Tryz.prog data
theorem lw_os (os : Os) : (lw os).os = os := World.layVars_os _ _ _
theorem lw_data (os : Os) (args : Array Value) : laidMet Tryz.prog data ((lw os).forCall (fun _ _ => 0) ⟨#[], args, []⟩).memory := by
  have e1 : (data.filter fun x => (data.map (·.1)).contains x.1) = data := List.filter_eq_self.2 fun x hx => List.contains_iff_mem.2 (List.mem_map.2 ⟨x, hx, rfl⟩)
  have e2 : (data.filter fun x => !(data.map (·.1)).contains x.1) = [] := List.filter_eq_nil_iff.2 fun x hx => by rw [List.contains_iff_mem.2 (List.mem_map.2 ⟨x, hx, rfl⟩)]; simp
  have h : laidMet Tryz.prog data (lw os) := laidMet_layVars (w0 := hw os) (data.map (·.1)) [] (by rw [e1]; rfl) (by rw [e1]; kernel_rfl) (by rw [e1]; kernel_rfl) (by rw [e2]; exact LaidIn.none)
  exact h.of_heap (by simp [World.memory, World.forCall, Input.heap])
theorem lw_met (os : Os) (args : Array Value) : laidMetH Tryz.prog laid ((lw os).forCall (fun _ _ => 0) ⟨#[], args, []⟩).memory :=
  laidMetH_of_parts (lw_data os args) (by kernel_rfl)

set_option maxRecDepth 100000 in
theorem lifted (os : Os) (started : os.Started) (H : Type) (enc : TypeId × Value → H) :
    ReturnsInHanded {} Tryz.checked os 4 .any (fun w args => (Rows.deskPiecesSpec.pre enc Tryz.prog Tryz.f4 [] false w args ∧ laidMetH Tryz.prog laid w) ∧ sizedMet enc Tryz.prog Tryz.f4 (OpenSpec.ofChange Rows.deskPiecesSpec) false w args)
      (Rows.deskPiecesSpec.post enc Tryz.prog Tryz.f4 false true false false) := by
  refine returnsInHanded_of_change_and (C := Tryz.checked) (X := fun w _ => laidMetH Tryz.prog laid w) (fun _ _ _ hh h => h.of_heap hh) own started (by kernel_rfl) Tryz.func4
    (ChangeSpec.witness_shaped (enc := enc) (C := Tryz.checked) (os := os) (X := fun w _ => laidMetH Tryz.prog laid w) false (lw os) #[.string ⟨#[]⟩, .string ⟨#[]⟩] 8 (lw_os os)
      (World.shaped_of_ZipB (by kernel_rfl) (by kernel_rfl)) (by kernel_rfl) (by kernel_rfl) (by kernel_rfl) (lw_met os _)) ?_
  intro W base args ds gs before hval0 hW _ hsz hL _
  have hval : ∀ (j : Nat) t v, Tryz.f4.params[j]? = some t → args[j]? = some v → Value.okWide Tryz.prog W .any base t v := hval0
  have hW' := hW
  obtain ⟨p, q, hA0, hV, rfl, hfz, hnd⟩ := hW
  have hA : DataW.TrodAll enc Tryz.prog W 0 (fun _ => true) true Tryz.f4.params.toList args.toList ds p := hA0
  rw [Tryz.params4] at hA hval
  obtain ⟨v0, vs0, d0, ds0, p0, q0, hargs, rfl, rfl, h0, r0⟩ := trodAll_cons hA
  obtain ⟨v1, vs1, d1, ds1, p1, q1, rfl, rfl, rfl, h1, r1⟩ := trodAll_cons r0
  obtain ⟨rfl, rfl, rfl⟩ := trodAll_nil r1
  obtain rfl : args = #[v0, v1] := by cases args; simp_all
  obtain ⟨rfl, rfl⟩ := trodVars_none hV
  obtain ⟨a, rfl, rfl, rfl, w0⟩ := ChangeMaps.open_string Tryz.underlying9 (hval 0 9 v0 rfl rfl) h0
  obtain ⟨b, rfl, rfl, rfl, w1⟩ := ChangeMaps.open_string Tryz.underlying9 (hval 1 9 v1 rfl rfl) h1
  clear hA0 hval0
  have hz : a.size ≤ 140737488351232 ∧ b.size ≤ 140737488351232 := by
    have e : (DataW.weightsEach Tryz.prog (Tryz.f4.params.toList ++ Rows.deskPiecesSpec.plain.varTypes Tryz.prog) ([(.lit (.string a.data.toList) : DataW H), .lit (.string b.data.toList)] ++ [])).all (· ≤ reachBytes) = (decide (a.data.toList.length ≤ reachBytes) && (decide (b.data.toList.length ≤ reachBytes) && true)) := by kernel_rfl
    have k := e.symm.trans hsz
    simp only [Bool.and_eq_true, decide_eq_true_eq, Bool.and_true, Array.length_toList] at k
    exact k
  have walk : Calls Tryz.prog 4 #[.string a, .string b] W fun e w' => e = .returned (.bool true) ∧ Below W.heap.size W w' := by
    by_cases hlim : 1500 < a.size + b.size
    · exact Wld.pieces_long a b W hlim (by omega)
    · exact Wld.pieces_short W.heap.size a b W (base_of hL) (by omega)
  refine walk.mono fun e W' ⟨he, bel⟩ => ?_
  subst he
  exact ⟨_, rfl, _, _, _, [], [] ++ ([] ++ []), [], hW', trodAll_cons_mk (shut_bool Tryz.underlying4 _) trodAll_mk0, trodAll_cons_mk (ChangeMaps.shut_string Tryz.underlying9 w0) (trodAll_cons_mk (ChangeMaps.shut_string Tryz.underlying9 w1) trodAll_mk0), rfl, bel.frame _, fun h => by cases h⟩

theorem k_wf : Rows.deskPiecesRow.wf (OpenSpec.ofChange Rows.deskPiecesSpec) = true := by kernel_rfl
theorem k_out : laidOutB Tryz.prog = true := by kernel_rfl
theorem k_maps : mapsRowed Tryz.prog = true := by kernel_rfl
theorem k_tie : namedTie Tryz.prog Rows.deskPiecesRow.named Rows.deskPiecesSpec.vars = true := by kernel_rfl
theorem k_place : (Rows.deskPiecesRow.inPlace == Tryz.prog.inPlace 4) = true := by kernel_rfl
theorem k_un : (Rows.deskPiecesRow.unfollowed == Tryz.prog.unfollowed 4) = true := by kernel_rfl
theorem k_rec : (Rows.deskPiecesRow.recurses == Tryz.prog.recurses 4) = true := by kernel_rfl
theorem k_named : (Rows.deskPiecesRow.named == Tryz.prog.varsNamed 4) = true := by kernel_rfl
theorem k_heard : Tryz.prog.stopsHeard = true := by kernel_rfl
theorem k_enter : Tryz.prog.mayEnter = true := by kernel_rfl
theorem k_lifts : (Rows.deskPiecesRow.lifted == Tryz.prog.liftsFinal) = true := by kernel_rfl
theorem closed : joinedFacts Tryz.prog 4 Tryz.f4 Rows.deskPiecesSpec Rows.deskPiecesRow = true := by
  unfold joinedFacts
  rw [k_wf, k_out, k_maps, k_tie, k_place, k_un, k_rec, k_named, k_heard, k_enter, k_lifts]
  kernel_rfl
theorem over : Rows.DeskPiecesSaid :=
  OpenClaim.holds_of_wide_leaving 4 Tryz.f4 rfl rfl rfl rfl rfl rfl rfl ⟨rfl, rfl, rfl, rfl, rfl⟩ rfl rfl rfl rfl rfl (by kernel_rfl) Tryz.func4 closed
    (of_decide_eq_true (by kernel_rfl)) (by unfold Func.isWrapper; rw [if_neg (of_decide_eq_false (by kernel_rfl))]; exact ⟨rfl, rfl⟩)
    (fun os started H enc _ => Leav.leaving_of_handed (lifted os started H enc))

end Go.Proofs.YtbebfliimjjohabGreatDoor.DeskPiecesHolds
namespace Go.Proofs.YtbebfliimjjohabGreatDoor
open Go

/-- The statement: the card of DeskPieces. -/
theorem deskPieces_holds : Rows.DeskPiecesCardSaid :=
  Leav.holds_tied_goes .later [.data, .data, .data, .data, .handle, .sentinel, .sentinel, .pinned] true (true, "bf3683f5353f545ba0f97cdaeabc07086f32c531ffbe55673eb976d97603dd50") true
    DeskPiecesHolds.over (by kernel_rfl) deskPieces_row_tie rfl ⟨rfl, rfl⟩ (by kernel_rfl) rfl
    (fun f fn hf hfn => by
      obtain rfl : f = 4 := Option.some.inj ((show Tryz.prog.funcNamed "tenure/tenurekeep.DeskPieces" = some 4 by kernel_rfl).symm.trans hf) |>.symm
      obtain rfl : fn = Tryz.f4 := (Option.some.inj (Tryz.func4.symm.trans hfn)).symm
      exact ⟨by kernel_rfl, fun j t ht => by
        rw [Tryz.params4] at ht
        rcases j with _ | _ | j
        · obtain rfl : 9 = t := by simpa using ht
          exact (show Tryz.prog.wantsStandIn 9 = false by kernel_rfl)
        · obtain rfl : 9 = t := by simpa using ht
          exact (show Tryz.prog.wantsStandIn 9 = false by kernel_rfl)
        · simp at ht⟩)
    (by kernel_rfl)
#print axioms deskPieces_holds
end Go.Proofs.YtbebfliimjjohabGreatDoor
