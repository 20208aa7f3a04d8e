/- The sorted keys of a map. -/
import Derived.Test.YtbebfliimjjohabGreatDoorMAl1
import Derived.Test.YtbebfliimjjohabGreatDoorShelf
set_option linter.all false
namespace Go.Proofs
open Go.RowKit Go.Maps Go.Sort Go.Shelf
theorem Tryz.b3 {m:Nat}:AnyZ.SortsIn Tryz.prog Tryz.ah Fence.wide m :=
 ⟨fun blk off cap ss W hH hblk hsz=>gq.2 (AnyM.slices_Sort_string Tryz.b0 blk off cap ss W hH hblk hsz),
  fun p cap W=>gq.2 (AnyM.slices_Sort_string_none Tryz.b0 p cap W)⟩
theorem Tryz.a7 (mb:Option Nat) (W:World):CallsIn Fence.wide 5 Tryz.prog 150 #[.map mb] W fun e w'=>e=.returned (.func (.func 206) #[] #[.pointer (some (aA W.heap.size 0))])∧w'=W.alloc (.cells #[.map mb] 166) :=
 AnyZ.keys_in Tryz.bs Fence.wide 5 aB rfl mb W
set_option maxHeartbeats 1000000 in
theorem Tryz.ab {H:Type} {b nn:Nat} {D0:DataW H} {R:Value→Option (DataW H × List MemPlace)} (w:World) (hown:w.ownsMap Tryz.prog 9 R b nn D0) (hmax:Maps.size D0≤maxLen) (hbytes:Maps.size D0 * 16≤140737488355328) :
  CallsIn Fence.wide 5 Tryz.prog 149 #[.func (.func 206) #[] #[.pointer (some (aA w.heap.size 0))]] (w.alloc (.cells #[.map (some b)] 166)) fun e w'=>∃ (v:Value) (ss:List (List UInt8)),e=.returned v∧ss.Perm (strKeys D0) ∧
   w'.ownsRow (w.alloc (.cells #[.map (some b)] 166)).heap.size 9 1 v ss.length ((ss.mergeSort (fun x y=>decide (x≤y))).map encStr)∧(v=.slice none 0 0 ↔ ss=[])∧Below (w.alloc (.cells #[.map (some b)] 166)).heap.size (w.alloc (.cells #[.map (some b)] 166)) w':=by
 have hbl:=hown.lt
 have hseq:SeqGives Fence.wide 2 Tryz.prog 206 #[.pointer (some ⟨w.heap.size,0,none⟩)] encStr (fun ss=>ss.Perm (strKeys D0)) (Maps.size D0) (w.alloc (.cells #[.map (some b)] 166)) :=
  AnyZ.keys_gives (ρ:=Tryz.a2) { Tryz.bs with } Fence.wide _ aB rfl (by omega) w.heap.size b nn D0 _ (by simp) (by simp) (by
   obtain ⟨es,clock,hb,Ft,hs,hD⟩:=hown
   exact ⟨es,clock,(ff _ _ b hbl).trans hb,Ft,hs,hD⟩)
 exact AnyZ.sorted_in Tryz.b1 Fence.wide 5 aB aB aB aB rfl (by omega) (Tryz.b3) (enters_of Tryz.func205 (by kernel_rfl) rfl) 206 #[.pointer (some ⟨w.heap.size,0,none⟩)] aB (enters_of Tryz.func206 (by kernel_rfl) rfl) _ _ hmax hbytes _ hseq
end Go.Proofs
