/-
  For all lists of texts l and all integers workers and others the Go function tenurekeep.ManyWorkers, at the commit named beside this claim, returns true on every schedule of the goroutines that it starts; no data race is met on the way, and whoever is left at its return is only leaving.
  Conditions: none on the arguments; the eight variables that the row lists are as the program's text lays them (the card ties them to that text; the tie is given).
-/
import Derived.Test.YtbebfliimjjohabGreatDoorM45
set_option linter.all false
namespace Go.Proofs.YtbebfliimjjohabGreatDoor.Many
open Go.ChangeShapes Go.WideShapes Go.ChangeAt Go.RowKit Go.Eqv
noncomputable def hw (os:Os):World:={ World.holding Tryz.prog os ⟨#[],#[],[]⟩ with heap:=(World.holding Tryz.prog os ⟨#[],#[],[]⟩).heap.modify 0 fun
   |.cells _ t frozen=>.cells #[.iface 252 (.agg #[.pointer (some ⟨9,47,none⟩)])] t frozen
   |o=>o }
noncomputable def lw (os:Os):World:=(hw os).layVars Tryz.prog Bb
theorem aaU (os:Os):(lw os).os=os:=World.layVars_os _ _ _
theorem VT (os:Os) (args:Array Value):laidMet Tryz.prog Bb ((lw os).forCall (fun _ _=>0) ⟨#[],args,[]⟩).memory:=by
 have e1:(Bb.filter fun x=>(Bb.map (·.1)).contains x.1)=Bb:=ia.2 fun x hx=>List.contains_iff_mem.2 (ed.2 ⟨x,hx,rfl⟩)
 have e2:(Bb.filter fun x=>!(Bb.map (·.1)).contains x.1)=[]:=List.filter_eq_nil_iff.2 fun x hx=>by rw [List.contains_iff_mem.2 (ed.2 ⟨x,hx,rfl⟩)]; simp
 have h:laidMet Tryz.prog Bb (lw os):=laidMet_layVars (w0:=hw os) (Bb.map (·.1)) [] (by rw [e1]; rfl) (by rw [e1]; kernel_rfl) (by rw [e1]; kernel_rfl) (by rw [e2]; exact LaidIn.none)
 exact h.of_heap (by simp [World.memory,World.forCall,Input.heap])
theorem Y3 (os:Os) (args:Array Value):laidMetH Tryz.prog Jc ((lw os).forCall (fun _ _=>0) ⟨#[],args,[]⟩).memory :=
 laidMetH_of_parts (VT os args) (by kernel_rfl)
set_option maxRecDepth 100000 in
theorem Y2 (os:Os) (started:os.Started) (H:Type) (enc:TypeId × Value→H) :
  ReturnsInLeavingWide {} Tryz.checked os 5 .any (fun w args=>(Rows.manyWorkersSpec.pre enc Tryz.prog Tryz.f5 [] false w args∧laidMetH Tryz.prog Jc w)∧sizedMet enc Tryz.prog Tryz.f5 (OpenSpec.ofChange Rows.manyWorkersSpec) false w args)
   (Rows.manyWorkersSpec.post enc Tryz.prog Tryz.f5 false true false false) :=
 FM (C:=Tryz.checked) (X:=fun w _=>laidMetH Tryz.prog Jc w) (fun _ _ _ hh h=>h.of_heap hh) own started Tryz.func5
  (ChangeSpec.witness_shaped (enc:=enc) (C:=Tryz.checked) (os:=os) (X:=fun w _=>laidMetH Tryz.prog Jc w) false (lw os) #[.slice none 0 0,.int .i64 0,.int .i64 0] 8 (aaU os)
   (World.shaped_of_ZipB (by kernel_rfl) (by kernel_rfl)) (by kernel_rfl) (by kernel_rfl) (by kernel_rfl) (Y3 os _))
  fun W base args ds gs before hsh hval hW _ hL=>acs W base args ds gs before hsh hval hW hL
theorem aco:Rows.manyWorkersRow.wf (OpenSpec.ofChange Rows.manyWorkersSpec)=true:=by kernel_rfl
theorem aaR:laidOutB Tryz.prog=true:=by kernel_rfl
theorem Y1:mapsRowed Tryz.prog=true:=by kernel_rfl
theorem aaT:namedTie Tryz.prog Rows.manyWorkersRow.named Rows.manyWorkersSpec.vars=true:=by kernel_rfl
theorem VQ:(Rows.manyWorkersRow.inPlace == Tryz.prog.inPlace 5)=true:=by kernel_rfl
theorem acn:(Rows.manyWorkersRow.unfollowed == Tryz.prog.unfollowed 5)=true:=by kernel_rfl
theorem aaS:(Rows.manyWorkersRow.recurses == Tryz.prog.recurses 5)=true:=by kernel_rfl
theorem VP:(Rows.manyWorkersRow.named == Tryz.prog.varsNamed 5)=true:=by kernel_rfl
theorem VN:Tryz.prog.stopsHeard=true:=by kernel_rfl
theorem VM:Tryz.prog.mayEnter=true:=by kernel_rfl
theorem VO:(Rows.manyWorkersRow.lifted == Tryz.prog.liftsFinal)=true:=by kernel_rfl
theorem YZ:joinedFacts Tryz.prog 5 Tryz.f5 Rows.manyWorkersSpec Rows.manyWorkersRow=true:=by
 unfold joinedFacts
 rw [aco,aaR,Y1,aaT,VQ,acn,aaS,VP,VN,VM,VO]
 kernel_rfl
theorem acp:Rows.ManyWorkersSaid :=
 OpenClaim.holds_of_wide_leaving 5 Tryz.f5 rfl rfl rfl rfl rfl rfl rfl ⟨rfl,rfl,rfl,rfl,rfl⟩ rfl rfl rfl rfl rfl (by kernel_rfl) Tryz.func5 YZ
  (gT (by kernel_rfl)) (by unfold Func.isWrapper; rw [ay (qJ (by kernel_rfl))]; exact ⟨rfl,rfl⟩)
  (fun os started H enc _=>Y2 os started H enc)
end Go.Proofs.YtbebfliimjjohabGreatDoor.Many
namespace Go.Proofs.YtbebfliimjjohabGreatDoor
open Go
theorem manyWorkers_holds:Rows.ManyWorkersCardSaid :=
  Leav.xS .later [.data, .data, .data, .data, .handle, .sentinel, .sentinel, .pinned] true (true, "bf3683f5353f545ba0f97cdaeabc07086f32c531ffbe55673eb976d97603dd50") true
  Many.acp (by kernel_rfl) manyWorkers_row_tie rfl ⟨rfl,rfl⟩ (by kernel_rfl) rfl
  (fun f fn hf hfn => by
    obtain rfl : f = 5 := bb ((show Tryz.prog.funcNamed "tenure/tenurekeep.ManyWorkers" = some 5 by kernel_rfl).symm.trans hf) |>.symm
    obtain rfl : fn = Tryz.f5 := (bb (Tryz.func5.symm.trans hfn)).symm
    exact ⟨by kernel_rfl, fun j t ht => by
      rw [Tryz.params5] at ht
      rcases j with _ | _ | _ | j
      · obtain rfl : 55 = t := by simpa using ht
        exact (show Tryz.prog.wantsStandIn 55 = false by kernel_rfl)
      · obtain rfl : 3 = t := by simpa using ht
        exact (show Tryz.prog.wantsStandIn 3 = false by kernel_rfl)
      · obtain rfl : 3 = t := by simpa using ht
        exact (show Tryz.prog.wantsStandIn 3 = false by kernel_rfl)
      · simp at ht⟩)
  (by kernel_rfl)
#print axioms manyWorkers_holds
end Go.Proofs.YtbebfliimjjohabGreatDoor
