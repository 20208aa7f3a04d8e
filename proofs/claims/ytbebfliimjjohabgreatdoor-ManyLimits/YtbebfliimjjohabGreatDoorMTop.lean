/-
  For all integers texts, workers and long the Go function tenurekeep.ManyLimits, at the commit named beside this claim, returns true on every schedule of the goroutines that it starts; no data race is met on the way, and whoever is left at its return is only leaving.
  Conditions: none on the arguments; the eight variables that the row lists are as the program's text lays them (the card ties them to that text; the tie is given).
-/
import Derived.Test.YtbebfliimjjohabGreatDoorM47
set_option linter.all false
namespace Go.Proofs.YtbebfliimjjohabGreatDoor.Many
open Go.ChangeShapes Go.WideShapes Go.ChangeAt Go.RowKit Go.Eqv
noncomputable def hw (os:Os):World:={ World.holding Tryz.prog os ⟨#[],#[],[]⟩ with heap:=(World.holding Tryz.prog os ⟨#[],#[],[]⟩).heap.modify 0 fun
   |.cells _ t frozen=>.cells #[.iface 252 (.agg #[.pointer (some ⟨9,47,none⟩)])] t frozen
   |o=>o }
noncomputable def lw (os:Os):World:=(hw os).layVars Tryz.prog B7
theorem acN (os:Os):(lw os).os=os:=World.layVars_os _ _ _
theorem XD (os:Os) (args:Array Value):laidMet Tryz.prog B7 ((lw os).forCall (fun _ _=>0) ⟨#[],args,[]⟩).memory:=by
 have e1:(B7.filter fun x=>(B7.map (·.1)).contains x.1)=B7:=gK.2 fun x hx=>List.contains_iff_mem.2 (dY.2 ⟨x,hx,rfl⟩)
 have e2:(B7.filter fun x=>!(B7.map (·.1)).contains x.1)=[]:=List.filter_eq_nil_iff.2 fun x hx=>by rw [List.contains_iff_mem.2 (dY.2 ⟨x,hx,rfl⟩)]; simp
 have h:laidMet Tryz.prog B7 (lw os):=laidMet_layVars (w0:=hw os) (B7.map (·.1)) [] (by rw [e1]; rfl) (by rw [e1]; kernel_rfl) (by rw [e1]; kernel_rfl) (by rw [e2]; exact LaidIn.none)
 exact h.of_heap (by simp [World.memory,World.forCall,Input.heap])
theorem aaW (os:Os) (args:Array Value):laidMetH Tryz.prog Kv ((lw os).forCall (fun _ _=>0) ⟨#[],args,[]⟩).memory :=
 laidMetH_of_parts (XD os args) (by kernel_rfl)
set_option maxRecDepth 100000 in
theorem aaV (os:Os) (started:os.Started) (H:Type) (enc:TypeId × Value→H) :
  ReturnsInLeavingWide {} Tryz.checked os 6 .any (fun w args=>(Rows.manyLimitsSpec.pre enc Tryz.prog Tryz.f6 [] false w args∧laidMetH Tryz.prog Kv w)∧sizedMet enc Tryz.prog Tryz.f6 (OpenSpec.ofChange Rows.manyLimitsSpec) false w args)
   (Rows.manyLimitsSpec.post enc Tryz.prog Tryz.f6 false true false false) :=
 He (C:=Tryz.checked) (X:=fun w _=>laidMetH Tryz.prog Kv w) (fun _ _ _ hh h=>h.of_heap hh) own started Tryz.func6
  (ChangeSpec.witness_shaped (enc:=enc) (C:=Tryz.checked) (os:=os) (X:=fun w _=>laidMetH Tryz.prog Kv w) false (lw os) #[.int .i64 0,.int .i64 0,.int .i64 0] 8 (acN os)
   (World.shaped_of_ZipB (by kernel_rfl) (by kernel_rfl)) (by kernel_rfl) (by kernel_rfl) (by kernel_rfl) (aaW os _))
  fun W base args ds gs before hsh hval hW _ hL=>acP W base args ds gs before hsh hval hW hL
theorem aev:Rows.manyLimitsRow.wf (OpenSpec.ofChange Rows.manyLimitsSpec)=true:=by kernel_rfl
theorem acK:laidOutB Tryz.prog=true:=by kernel_rfl
theorem aaU:mapsRowed Tryz.prog=true:=by kernel_rfl
theorem acM:namedTie Tryz.prog Rows.manyLimitsRow.named Rows.manyLimitsSpec.vars=true:=by kernel_rfl
theorem XB:(Rows.manyLimitsRow.inPlace == Tryz.prog.inPlace 6)=true:=by kernel_rfl
theorem aeu:(Rows.manyLimitsRow.unfollowed == Tryz.prog.unfollowed 6)=true:=by kernel_rfl
theorem acL:(Rows.manyLimitsRow.recurses == Tryz.prog.recurses 6)=true:=by kernel_rfl
theorem XA:(Rows.manyLimitsRow.named == Tryz.prog.varsNamed 6)=true:=by kernel_rfl
theorem Xy:Tryz.prog.stopsHeard=true:=by kernel_rfl
theorem Xx:Tryz.prog.mayEnter=true:=by kernel_rfl
theorem Xz:(Rows.manyLimitsRow.lifted == Tryz.prog.liftsFinal)=true:=by kernel_rfl
theorem aaS:joinedFacts Tryz.prog 6 Tryz.f6 Rows.manyLimitsSpec Rows.manyLimitsRow=true:=by
 unfold joinedFacts
 rw [aev,acK,aaU,acM,XB,aeu,acL,XA,Xy,Xx,Xz]
 kernel_rfl
theorem aew:Rows.ManyLimitsSaid :=
 OpenClaim.holds_of_wide_leaving 6 Tryz.f6 rfl rfl rfl rfl rfl rfl rfl ⟨rfl,rfl,rfl,rfl,rfl⟩ rfl rfl rfl rfl rfl (by kernel_rfl) Tryz.func6 aaS
  (ek (by kernel_rfl)) (by unfold Func.isWrapper; rw [ax (rK (by kernel_rfl))]; exact ⟨rfl,rfl⟩)
  (fun os started H enc _=>aaV os started H enc)
end Go.Proofs.YtbebfliimjjohabGreatDoor.Many
namespace Go.Proofs.YtbebfliimjjohabGreatDoor
open Go
theorem manyLimits_holds:Rows.ManyLimitsCardSaid :=
  Leav.yM .later [.data, .data, .data, .data, .handle, .sentinel, .sentinel, .pinned] true (true, "bf3683f5353f545ba0f97cdaeabc07086f32c531ffbe55673eb976d97603dd50") true
  Many.aew (by kernel_rfl) manyLimits_row_tie rfl ⟨rfl,rfl⟩ (by kernel_rfl) rfl
  (fun f fn hf hfn=>by
   obtain rfl : f = 6 := aZ ((show Tryz.prog.funcNamed "tenure/tenurekeep.ManyLimits" = some 6 by kernel_rfl).symm.trans hf) |>.symm
   obtain rfl:fn=Tryz.f6:=(aZ (Tryz.func6.symm.trans hfn)).symm
   exact ⟨by kernel_rfl,fun j t ht=>by
    rw [Tryz.params6] at ht
    rcases j with _|_|_|j
    ·obtain rfl:3=t:=by simpa using ht
     exact (show Tryz.prog.wantsStandIn 3=false by kernel_rfl)
    ·obtain rfl:3=t:=by simpa using ht
     exact (show Tryz.prog.wantsStandIn 3=false by kernel_rfl)
    ·obtain rfl:3=t:=by simpa using ht
     exact (show Tryz.prog.wantsStandIn 3=false by kernel_rfl)
    ·simp at ht⟩)
  (by kernel_rfl)
#print axioms manyLimits_holds
end Go.Proofs.YtbebfliimjjohabGreatDoor
