/- Parts of the proof. -/
import Derived.Test.YtbebfliimjjohabGreatDoorLd44
import Derived.Test.YtbebfliimjjohabGreatDoorShelfI
set_option maxRecDepth 100000
set_option maxHeartbeats 8000000
namespace Go.Proofs.YtbebfliimjjohabGreatDoor
section
namespace Wld
open Go.RowKit Go.Maps Go.Sort
open Cache (tp row_kept row_below)
def Rk0(_:Value):Option (DataW Unit×List MemPlace):=some (.lit (.bool true),[])
def namesL:List (List UInt8):=deedsL.map fun x=>x.1.data.toList
theorem ent_keys(d:Nat):∀ (l:List (ByteArray×Nat)) (i:Nat),(entF d l i).map (·.key)=l.map fun x=>Value.string x.1
 | [],_=>rfl
 | (x,f) :: t,i=>by simp only[entF,List.map_cons,ent_keys d t (i+1)]
theorem ent_born(d:Nat):∀ (l:List (ByteArray×Nat)) (i:Nat),(entF d l i).map (·.born)=List.range' i l.length
 | [],_=>rfl
 | (x,f) :: t,i=>by simp only[entF,List.map_cons,ent_born d t (i+1),List.length_cons,List.range'_succ]
theorem ent_len(d:Nat)(l:List (ByteArray×Nat))(i:Nat):(entF d l i).length=l.length:=by
 rw[← List.length_map (f:=fun x:MapEntry=>x.born),ent_born,List.length_range']
theorem deeds_own{w:World}{m d:Nat}(h:DeedsIs w m d):∃ D0:DataW Unit,w.ownsMap Tryz.prog 9 Rk0 m 19 D0∧strKeys D0=namesL∧Maps.size D0=19:=by
 have hl:(entF d deedsL 0).length=19:=by rw[ent_len];rfl
 refine⟨_,⟨_,_,h,⟨?_,⟨?_,?_,?_⟩,?_⟩,?_,rfl⟩,by kernel_rfl,by kernel_rfl⟩
 ·rw[List.size_toArray,hl]
  unfold maxLen
  omega
 ·intro x hx
  have h1:x.born∈(entF d deedsL 0).map (·.born):=List.mem_map.2 ⟨x,hx,rfl⟩
  rw[ent_born] at h1
  have:=List.mem_range'.1 h1
  obtain⟨i,h2,h3⟩:=this
  have h4:deedsL.length=19:=rfl
  omega
 ·show ((entF d deedsL 0).map (·.born)).Nodup
  rw[ent_born]
  exact List.nodup_range'
 ·show ((entF d deedsL 0).map (·.key)).Nodup
  rw[ent_keys]
  have h1:(deedsL.map (·.1)).Nodup:=by decide
  have h2:(deedsL.map fun x=>Value.string x.1)=(deedsL.map (·.1)).map Value.string:=by rw[List.map_map];rfl
  rw[h2]
  exact List.Pairwise.map _ (fun a b hn e=>hn (by injection e)) h1
 ·intro x hx
  have h1:x.key∈(entF d deedsL 0).map (·.key):=List.mem_map.2 ⟨x,hx,rfl⟩
  rw[ent_keys] at h1
  obtain⟨p,hp,hk⟩:=List.mem_map.1 h1
  have h2:∀ p∈deedsL,p.1.size≤100:=by decide
  have h3:=h2 p hp
  refine⟨(.string p.1.data.toList,.lit (.bool true)),?_⟩
  unfold WideElems.rd
  rw[← hk,WideMaps.keyOf_string_mk Tryz.underlying9 (by unfold maxLen;omega)]
  rfl
 ·rw[List.size_toArray,hl]
  exact Nat.le_refl _
theorem names_sorted:namesL.mergeSort leB=namesL:=by
 have tr:∀ a b c:List UInt8,leB a b=true→leB b c=true→leB a c=true:=fun a b c h1 h2=>by simp only[leB,decide_eq_true_eq] at *;exact List.le_trans h1 h2
 have tot:∀ a b:List UInt8,(leB a b||leB b a)=true:=fun a b=>by simp only[leB,Bool.or_eq_true,decide_eq_true_eq];exact List.le_total a b
 have hp:namesL.Pairwise (fun a b=>leB a b=true):=by decide +kernel
 exact List.Perm.eq_of_pairwise (le:=fun a b=>leB a b=true) (fun a b _ _ h1 h2=>by simp only[leB,decide_eq_true_eq] at h1 h2;exact List.le_antisymm h1 h2) (List.pairwise_mergeSort tr tot namesL) hp (List.mergeSort_perm namesL leB)
theorem help_join:(⟨(Lib.join namesL [32]).toArray⟩:ByteArray)=helpT:=by decide +kernel
theorem help_walk(d m:Nat)(ao:Option Addr)(c:Nat)(w:World)(c1:w.cell? ⟨d,1,none⟩=some (.map (some m)))(hm:DeedsIs w m d) :
  Calls Tryz.prog 87 #[tp d,.slice ao 0 c] w fun e w'=>e = .returned (.string helpT)∧Below w.heap.size w w':=by
 have hn:=need_ok ao c 0 w
 obtain⟨D0,hown,hk,hs⟩:=deeds_own hm
 have hkeys:=(callsIn_wide.1 (Tryz.maps_Keys_150 (some m) w))
 have hsort:=(callsIn_wide.1 (Tryz.slices_Sorted_keys_149_150 m 19 D0 Rk0 w hown (by rw[hs];unfold maxLen;omega) (by rw[hs];omega)))
 have hb1:Below w.heap.size w (w.alloc (.cells #[.map (some m)] 166)):=(Below.refl _ _).alloc (Nat.le_refl _) _
 have HK:Hid (strKeys D0=namesL):=hk
 clear hown hk hs hm
 obtain⟨t,ht⟩:∃ t,helpT=t:=⟨_,rfl⟩
 have HT:Hid (helpT=t):=ht
 rw[ht]
 clear ht
 go_enter Tryz.func87,Tryz.ntmps87
 go_wp2_with fail
 refine hn.mono ?_
 rintro e w1 ⟨rfl,hw1⟩
 rw[hw1]
 clear hw1 hn
 go_wp2_with fail
 refine hkeys.mono ?_
 rintro e w1 ⟨rfl,hw1⟩
 rw[hw1]
 clear hw1 hkeys
 go_wp2_with fail
 refine hsort.mono ?_
 rintro e w2 ⟨v,ss,rfl,hS,hrow,hnil,hb⟩
 have hb2:Below w.heap.size w w2:=hb1.trans (hb.mono hb1.size)
 have e1:ss.mergeSort (fun x y=>decide (x≤y))=namesL:=by
  rw[HK.out] at hS
  exact(mergeSort_of_perm hS).trans names_sorted
 have e2:ss.length=19:=by
  rw[HK.out] at hS
  rw[hS.length_eq]
  rfl
 rw[e1,e2] at hrow
 have hjoin:Calls Tryz.prog 148 #[v,.string ⟨#[32]⟩] w2 fun e w'=>e = .returned (.string t)∧Below w2.heap.size w2 w':=by
  rcases hrow.2 with ⟨rfl,h1⟩|⟨g,cap,cur,rfl,hgb,hgh,hcap,_⟩
  ·cases h1
  ·have hlen:(deedsL.map (·.1)).length=19:=rfl
   have hj:=Tryz.strings_Join g 0 cap (deedsL.map (·.1)) ⟨#[32]⟩ w2 (fun j x hx=>by
    rw[Nat.zero_add,World.ownsRow.cellAt hrow j (by have:=(List.getElem?_eq_some_iff.1 hx).1;omega)]
    have:(namesL.map encStr)[j]?=((deedsL.map (·.1)).map Value.string)[j]?:=by
     have e:namesL.map encStr=(deedsL.map (·.1)).map Value.string:=by kernel_rfl
     rw[e]
    rw[this,List.getElem?_map,hx]
    rfl) (Array.getElem?_eq_some_iff.1 hgh).1 (by omega) (by omega) (by
    show (Lib.join ((deedsL.map (·.1)).map (·.data.toList)) [32]).length≤_
    decide +kernel)
   have e3:(⟨(Lib.join ((deedsL.map (·.1)).map (·.data.toList)) [32]).toArray⟩:ByteArray)=t:=help_join.trans HT.out
   rw[hlen] at hj
   refine hj.mono ?_
   rintro e w' ⟨rfl,hb'⟩
   exact⟨congrArg (fun x=>Ending.returned (Value.string x)) e3,hb'⟩
 have HB:Hid (Below w.heap.size w w2):=hb2
 clear hsort hS hrow hnil hb hb1 hb2 e1 e2 HK
 go_wp2_with fail
 refine hjoin.mono ?_
 rintro e w3 ⟨rfl,hb3⟩
 have HF:Hid (Below w.heap.size w w3):=HB.out.trans (hb3.mono HB.out.size)
 clear hjoin hb3 HB
 go_wp2_with fail
 go_ret
 exact⟨rfl,HF.out⟩
theorem helpT_any(B N d m:Nat)(w:World)(A:Wa)(s:Wd)(C:Nat)(v:Value)(ws:List ByteArray)(h:Ds B N d (.map (some m)) w A s C)(hm:DeedsIs w m d)(hw:Wds w v ws) :
  Calls Tryz.prog 87 #[tp d,v] w (Did B N d (.map (some m)) w (C+3) (helpP ws s)):=by
 obtain⟨ao,c,rfl,_,_⟩:=hw.has
 unfold helpP num0
 by_cases h0:ws.length=0
 ·rw[h0,if_pos rfl]
  refine(help_walk d m ao c w h.dk.c1 hm).mono ?_
  rintro e w' ⟨rfl,hb⟩
  exact Did.text h (by omega) rfl hb
 ·rw[if_neg h0]
  have hn:=need_no ao c ws.length 0 w (by omega)
  have HE:Hid (Did B N d (.map (some m)) w (C+3) (.inr 3,s) (thrown 3) w):=Did.form h (by omega) rfl (Below.refl _ _)
  clear h hw hm
  go_enter Tryz.func87,Tryz.ntmps87
  go_wp2_with fail
  refine hn.mono ?_
  rintro e w2 ⟨rfl,hw2⟩
  rw[hw2]
  clear hw2 hn
  go_wp2_with fail
  exact⟨rfl,HE.out⟩
end Wld
end
section
namespace Wld
open Go.RowKit Go.Maps
open Cache (tp row_kept row_below)
theorem calmN(B N d:Nat)(M:Value)(w:World)(A:Wa)(s:Wd)(C:Nat)(v:Value)(ws:List ByteArray)(h:Ds B N d M w A s C)(hw:Wds w v ws)(hn:numsOf ws 1=none) :
  Calls Tryz.prog 82 #[tp d,v] w (Did B N d M w (C+3) (calmP ws s)):=by
 refine calm_walk d A.Q v ws w _ h.q.1 h.q.2 (hw.nums h 1 (Below.refl _ _)) (fun w2 a hb ha h2=>?_) (fun hn w2 hb=>?_) (fun a w2 ha h2 hb=>?_)
 ·rw[hn] at ha;cases ha
 ·exact Did.form h (by omega) (by unfold calmP num1;rw[hn]) hb
 ·rw[hn] at ha;cases ha
theorem deed_all(B N d m:Nat)(w:World)(A:Wa)(s:Wd)(C:Nat)(v:Value)(ws:List ByteArray)(f:Nat)(x:ByteArray)(h:Ds B N d (.map (some m)) w A s C)(hm:DeedsIs w m d)(hw:Wds w v ws)(hf:findD deedsL x=some f)(hC:C+costD f ws≤800000000)
  (hgs:∀ g o n c,v = .slice (some ⟨g,o,none⟩) n c→∃ cs f,w.heap[g]?=some (.cells cs 9 f)) :
  Calls Tryz.prog f #[tp d,v] w (Did B N d (.map (some m)) w (C+costD f ws) (deedP f ws s)):=by
 have hid:=deed_ids hf
 have hC2:C≤800000000:=by omega
 clear hf
 simp only[deedsL,List.map_cons,List.map_nil,List.mem_cons,List.not_mem_nil,or_false] at hid
 rcases hid with rfl|rfl|rfl|rfl|rfl|rfl|rfl|rfl|rfl|rfl|rfl|rfl|rfl|rfl|rfl|rfl|rfl|rfl|rfl
 ·have e1:deedP 79 ws s=againP ws s:=rfl
  have e2:costD 79 ws=3:=rfl
  rw[e1,e2]
  exact againT B N d _ w A s C v ws h hw (by omega)
 ·have e1:deedP 80 ws s=beginP ws s:=rfl
  have e2:costD 80 ws=3:=rfl
  rw[e1,e2]
  exact beginT B N d _ w A s C v ws h hw
 ·have e1:deedP 81 ws s=callsP ws s:=rfl
  have e2:costD 81 ws=3:=rfl
  rw[e1,e2]
  exact callsT B N d _ w A s C v ws h hw (by omega)
 ·have e1:deedP 82 ws s=calmP ws s:=rfl
  rw[e1]
  cases hn:numsOf ws 1 with
  | none=>
   have e2:costD 82 ws=3:=by unfold costD;rw[if_neg (by rw[hn];rintro⟨_,q⟩;cases q)]
   rw[e2]
   exact calmN B N d _ w A s C v ws h hw hn
  | some l=>
   have e2:costD 82 ws=3600000:=by unfold costD;rw[if_pos ⟨rfl,by rw[hn];rfl⟩]
   rw[e2] at hC ⊢
   exact calmT B N d _ w A s C v ws h hw hC
 ·have e1:deedP 83 ws s=crashP ws s:=rfl
  have e2:costD 83 ws=3:=rfl
  rw[e1,e2]
  exact crashT B N d _ w A s C v ws h hw (by omega)
 ·have e1:deedP 84 ws s=deliverP ws s:=rfl
  have e2:costD 84 ws=3:=rfl
  rw[e1,e2]
  exact deliverT B N d _ w A s C v ws h hw (by omega)
 ·have e1:deedP 85 ws s=failsP ws s:=rfl
  have e2:costD 85 ws=3:=rfl
  rw[e1,e2]
  exact failsT B N d _ w A s C v ws h hw
 ·have e1:deedP 86 ws s=goesP ws s:=rfl
  have e2:costD 86 ws=3:=rfl
  rw[e1,e2]
  exact goesT B N d _ w A s C v ws h hw (by omega)
 ·have e1:deedP 87 ws s=helpP ws s:=rfl
  have e2:costD 87 ws=3:=rfl
  rw[e1,e2]
  exact helpT_any B N d m w A s C v ws h hm hw
 ·have e1:deedP 88 ws s=loseP ws s:=rfl
  have e2:costD 88 ws=3:=rfl
  rw[e1,e2]
  exact loseT B N d _ w A s C v ws h hw (by omega)
 ·have e1:deedP 89 ws s=manyP ws s:=rfl
  have e2:costD 89 ws=3:=rfl
  rw[e1,e2]
  exact manyT B N d _ w A s C v ws h hw
 ·have e1:deedP 90 ws s=readP ws s:=rfl
  have e2:costD 90 ws=3:=rfl
  rw[e1,e2]
  exact readT B N d _ w A s C v ws h hw (by omega)
 ·have e1:deedP 91 ws s=rebornP ws s:=rfl
  have e2:costD 91 ws=3:=rfl
  rw[e1,e2]
  exact rebornT B N d _ w A s C v ws h hw (by omega)
 ·have e1:deedP 92 ws s=restartP ws s:=rfl
  have e2:costD 92 ws=3:=rfl
  rw[e1,e2]
  exact restartT B N d _ w A s C v ws h hw (by omega)
 ·have e1:deedP 93 ws s=shortP ws s:=rfl
  have e2:costD 93 ws=3:=rfl
  rw[e1,e2]
  exact shortT B N d _ w A s C v ws h hw
 ·have e1:deedP 94 ws s=twiceP ws s:=rfl
  have e2:costD 94 ws=3:=rfl
  rw[e1,e2]
  exact twiceT B N d _ w A s C v ws h hw (by omega)
 ·have e1:deedP 95 ws s=upP ws s:=rfl
  have e2:costD 95 ws=3:=rfl
  rw[e1,e2]
  exact upT B N d _ w A s C v ws h hw
 ·have e1:deedP 96 ws s=(num1 ws s fun o=>valueP s o):=rfl
  have e2:costD 96 ws=3:=rfl
  rw[e1,e2]
  exact valueT B N d _ w A s C v ws h hw
 ·have e1:deedP 97 ws s=writeP ws s:=rfl
  have e2:costD 97 ws=3:=rfl
  rw[e1,e2]
  exact writeT B N d _ w A s C v ws h hw (by omega) hgs
end Wld
end
section
namespace Wld
open Go.RowKit Go.Maps Go.Shelf
open Cache (tp row_kept row_below)
theorem blank_any(r:Nat)(w:World):Calls Tryz.prog 103 #[.int .i32 r] w fun e w'=>e = .returned (.bool (blankB r))∧w'=w:=by
 have e:(((r:Int) == 32))=blankB r:=by
  unfold blankB
  by_cases h:r=32
  ·subst h;rfl
  ·rw[beq_false_of_ne h]
   have:(r:Int)≠32:=by omega
   simpa using this
 go_enter Tryz.func103,Tryz.ntmps103
 go_wp2
 go_ret
 exact⟨rfl,rfl⟩
theorem words_any(line:ByteArray)(w:World)(hl:line.size≤1000000) :
  Calls Tryz.prog 102 #[.string line,.func (.func 103) #[] #[]] w fun e w'=>∃ g,e = .returned (.slice (some ⟨g,0,none⟩) (wordsP line).length (wordsP line).length)∧w.heap.size≤g∧w'.ownsRow w.heap.size 9 1 (.slice (some ⟨g,0,none⟩) (wordsP line).length (wordsP line).length) (wordsP line).length ((wordsP line).map Value.string)∧Below w.heap.size w w':=by
 refine Tryz.strings_FieldsFunc 103 #[] (enters_of Tryz.func103 (by kernel_rfl) rfl) blankB line w (by omega) (fun W x hb=>?_)
 refine(blank_any x W).mono ?_
 rintro e w' ⟨rfl,rfl⟩
 exact⟨rfl,0,rfl⟩
theorem lookup_deeds{w:World}{m d:Nat}(h:DeedsIs w m d)(x:ByteArray):(Instr.lookup 166 (.map (some m)) (.string x) true).run Tryz.prog w = .ok (match findD deedsL x with|some f=>.tuple #[.func (.func f) #[tp d] #[],.bool true]|none=>.tuple #[.nilFunc,.bool false]) w:=by
 obtain⟨n,hn⟩:=find_ent d x deedsL 0 0
 have hc:∀ b,(Instr.checkKey b 10000 9 (.string x)).run Tryz.prog w = .ok () w:=fun b=>MapKept.run_checkKey (k:=.string x) Tryz.underlying9 (by simp[MapKept.IsKey]) b 9999
 have hf:=MapKept.run_findKey (P:=Tryz.prog) (w:=w) (kt:=9) (l:=(entF d deedsL 0)) Tryz.underlying9 hn
 have hz:(zeroValue 169).run Tryz.prog w = .ok .nilFunc w:=by kernel_rfl
 cases hfd:findD deedsL x with
 | none=>
  rw[hfd] at hf
  simp[Instr.lookup,run_underlying Tryz.underlying166,MapKept.run_getObj_map h,hc,hf,hz,Result.andThen]
 | some f=>
  rw[hfd] at hf
  simp[Instr.lookup,run_underlying Tryz.underlying166,MapKept.run_getObj_map h,hc,hf,Result.andThen]
theorem deed_enters{x:ByteArray}{f:Nat}(h:findD deedsL x=some f):∀ (args:Array Value) (w:World),(callFunc f args).run Tryz.prog w = .ok (.enter f args) w:=by
 have hid:=deed_ids h
 clear h
 simp only[deedsL,List.map_cons,List.map_nil,List.mem_cons,List.not_mem_nil,or_false] at hid
 rcases hid with rfl|rfl|rfl|rfl|rfl|rfl|rfl|rfl|rfl|rfl|rfl|rfl|rfl|rfl|rfl|rfl|rfl|rfl|rfl
 ·exact enters_of Tryz.func79 (by kernel_rfl) rfl
 ·exact enters_of Tryz.func80 (by kernel_rfl) rfl
 ·exact enters_of Tryz.func81 (by kernel_rfl) rfl
 ·exact enters_of Tryz.func82 (by kernel_rfl) rfl
 ·exact enters_of Tryz.func83 (by kernel_rfl) rfl
 ·exact enters_of Tryz.func84 (by kernel_rfl) rfl
 ·exact enters_of Tryz.func85 (by kernel_rfl) rfl
 ·exact enters_of Tryz.func86 (by kernel_rfl) rfl
 ·exact enters_of Tryz.func87 (by kernel_rfl) rfl
 ·exact enters_of Tryz.func88 (by kernel_rfl) rfl
 ·exact enters_of Tryz.func89 (by kernel_rfl) rfl
 ·exact enters_of Tryz.func90 (by kernel_rfl) rfl
 ·exact enters_of Tryz.func91 (by kernel_rfl) rfl
 ·exact enters_of Tryz.func92 (by kernel_rfl) rfl
 ·exact enters_of Tryz.func93 (by kernel_rfl) rfl
 ·exact enters_of Tryz.func94 (by kernel_rfl) rfl
 ·exact enters_of Tryz.func95 (by kernel_rfl) rfl
 ·exact enters_of Tryz.func96 (by kernel_rfl) rfl
 ·exact enters_of Tryz.func97 (by kernel_rfl) rfl
theorem Ds.boxed{B N d:Nat}{M:Value}{w:World}{A:Wa}{s:Wd}{C:Nat}(h:Ds B N d M w A s C){p i:Nat}(v:Value)(hp:Off w p)(hN:N≤p):Ds B N d M (w.setCell ⟨p,i,none⟩ v) A s C:=by
 have o:∀ y,y≠p→(w.setCell ⟨p,i,none⟩ v).heap[y]?=w.heap[y]?:=fun y hy=>Below.heap_setCell w ⟨p,i,none⟩ v y hy
 obtain⟨x,y⟩:=h.dk.wd.aside (w':=w.setCell ⟨p,i,none⟩ v) (by simp) (fun y hy=>o y (by
  rintro rfl
  rcases hy with q|q
  ·exact h.dk.wd.notOff q hp
  ·exact q.notOff rfl hp))
 have hd:d≠p:=by have:=h.dN;omega
 have e:∀ j,(w.setCell ⟨p,i,none⟩ v).cell? ⟨d,j,none⟩=w.cell? ⟨d,j,none⟩:=fun j=>World.cell?_of_block (a:=⟨d,j,none⟩) (o d hd)
 exact⟨⟨h.dk.typ.same (o d hd),(e 0).trans h.dk.c0,(e 1).trans h.dk.c1,x⟩,fun j=>(World.frozen?_of_block (a:=⟨d,j,none⟩) (o d hd)).trans (h.fro j),fun k hk=>h.low k (y k hk),h.base.below ((Below.refl _ _).setCell (p:=⟨p,i,none⟩) (by have:=h.bd;have:=h.dN;dsimp only;omega) _),h.bd,h.dN,by rw[World.size_setCell];exact h.nw,h.num,h.rk,h.em⟩
theorem Dz.boxed{N d:Nat}{w w':World}(h:Dz N d w w'){p i:Nat}(v:Value)(hp:w.heap.size≤p)(hN:N≤w.heap.size):Dz N d w (w'.setCell ⟨p,i,none⟩ v):=
 ⟨h.os,h.tape,h.output,by rw[World.size_setCell];exact h.size,fun k hk hd=>(Below.heap_setCell w' ⟨p,i,none⟩ v k (by dsimp only;omega)).trans (h.low k hk hd),fun k hk=>(Below.heap_setCell w' ⟨p,i,none⟩ v k (by have:=hk.lt;dsimp only;omega)).trans (h.off k hk)⟩
theorem DeedsIs.dz{N d m:Nat}{w w':World}(h:DeedsIs w m d)(z:Dz N d w w')(hm:m<N)(hd:m≠d):DeedsIs w' m d:=(z.low m hm hd).trans h
def okR(r:Res):Prop:=∀ n,r.1 = .inr n→n<100
theorem okR.inr{n:Nat}{s:Wd}(h:n<100):okR (.inr n,s):=fun k e=>by injection e with e;omega
theorem okR.inl{t:ByteArray}{s:Wd}:okR (.inl t,s):=fun k e=>by cases e
theorem okR.told{e:Int}{t:ByteArray}{s:Wd}(h:e<100):okR (told e t s):=fun k q=>by
 unfold Wld.told at q
 by_cases h0:e=0
 ·simp only[if_pos h0] at q
  cases q
 ·simp only[if_neg h0] at q
  injection q with q
  omega
theorem okR.num0{ws:List ByteArray}{s:Wd}{r:Res}(h:okR r):okR (num0 ws s r):=by
 unfold Wld.num0
 split
 ·exact h
 ·exact okR.inr (by omega)
theorem okR.num1{ws:List ByteArray}{s:Wd}{f:Int→Res}(h:∀ a,okR (f a)):okR (num1 ws s f):=by
 unfold Wld.num1
 split
 ·exact h _
 ·exact okR.inr (by omega)
theorem okR.num2{ws:List ByteArray}{s:Wd}{f:Int→Int→Res}(h:∀ a b,okR (f a b)):okR (num2 ws s f):=by
 unfold Wld.num2
 split
 ·exact h _ _
 ·exact okR.inr (by omega)
theorem okR.num4{ws:List ByteArray}{s:Wd}{f:Int→Int→Int→Int→Res}(h:∀ a b c d,okR (f a b c d)):okR (num4 ws s f):=by
 unfold Wld.num4
 split
 ·exact h _ _ _ _
 ·exact okR.inr (by omega)
theorem hasE_lt(s:Wd)(k:Int):s.hasE k<100:=by unfold Wd.hasE;split<;>omega
theorem netE_lt(s:Wd)(k:Int):s.netE k<100:=by unfold Wd.netE;split<;>omega
theorem freeE_lt(k:K)(o:Int):k.freeE o<100:=by
 unfold K.freeE
 split
 ·omega
 ·split<;>omega
theorem readE_lt(s:Wd)(k o:Int):s.readE k o<100:=by
 unfold Wd.readE
 split
 ·exact freeE_lt _ _
 ·omega
theorem writeE_lt(s:Wd)(k o:Int)(d:ByteArray):s.writeE k o d<100:=by
 unfold Wd.writeE K.writeE
 split
 ·split
  ·exact freeE_lt _ _
  ·split<;>omega
 ·omega
theorem goesE_lt(s:Wd)(l:List Int):s.goesE l<100:=by unfold Wd.goesE;split<;>omega
theorem deed_ok{x:ByteArray}{f:Nat}(h:findD deedsL x=some f)(ws:List ByteArray)(s:Wd):okR (deedP f ws s):=by
 have hid:=deed_ids h
 clear h
 simp only[deedsL,List.map_cons,List.map_nil,List.mem_cons,List.not_mem_nil,or_false] at hid
 rcases hid with rfl|rfl|rfl|rfl|rfl|rfl|rfl|rfl|rfl|rfl|rfl|rfl|rfl|rfl|rfl|rfl|rfl|rfl|rfl
 ·show okR (againP ws s)
  exact okR.num1 fun a=>okR.told (hasE_lt s a)
 ·show okR (beginP ws s)
  exact okR.num4 fun a b c k=>by
   split
   ·exact okR.inl
   ·exact okR.inr (by omega)
 ·show okR (callsP ws s)
  exact okR.num0 okR.inl
 ·show okR (calmP ws s)
  exact okR.num1 fun a=>by
   split
   ·exact okR.inr (by omega)
   ·exact okR.inl
 ·show okR (crashP ws s)
  exact okR.num0 okR.inl
 ·show okR (deliverP ws s)
  exact okR.num1 fun a=>okR.told (netE_lt s a)
 ·show okR (failsP ws s)
  exact okR.num2 fun a b=>okR.inl
 ·show okR (goesP ws s)
  unfold goesP
  split
  ·exact okR.told (goesE_lt s _)
  ·exact okR.inr (by omega)
 ·show okR (helpP ws s)
  exact okR.num0 okR.inl
 ·show okR (loseP ws s)
  exact okR.num1 fun a=>okR.told (netE_lt s a)
 ·show okR (manyP ws s)
  exact okR.num0 okR.inl
 ·show okR (readP ws s)
  exact okR.num2 fun a b=>okR.told (readE_lt s a b)
 ·show okR (rebornP ws s)
  exact okR.num1 fun a=>okR.told (hasE_lt s a)
 ·show okR (restartP ws s)
  refine okR.num0 ?_
  split
  ·exact okR.inr (by omega)
  ·exact okR.inl
 ·show okR (shortP ws s)
  exact okR.num2 fun a b=>by
   split
   ·exact okR.inl
   ·exact okR.inr (by omega)
 ·show okR (twiceP ws s)
  exact okR.num1 fun a=>okR.told (netE_lt s a)
 ·show okR (upP ws s)
  exact okR.num0 okR.inl
 ·show okR ((num1 ws s fun o=>valueP s o))
  exact okR.num1 fun a=>by
   unfold valueP
   split
   ·exact okR.inr (by omega)
   ·split
    ·exact okR.inl
    ·exact okR.inr (by omega)
 ·show okR (writeP ws s)
  unfold writeP
  split
  ·exact okR.num2 fun a b=>okR.told (writeE_lt s a b _)
  ·exact okR.inr (by omega)
def Ans(B N d m:Nat)(w:World)(t:ByteArray)(s:Wd)(C:Nat)(e:Ending)(w':World):Prop:=e = .returned (.string t)∧∃ A,Ds B N d (.map (some m)) w' A s C∧DeedsIs w' m d∧Dz N d w w'
theorem answerD_any(B N d m:Nat)(w:World)(A:Wa)(s:Wd)(C:Nat)(line:ByteArray)(h:Ds B N d (.map (some m)) w A s C)(hm:DeedsIs w m d)(hmN:m<N)(hmd:m≠d)(hl:line.size≤1000000)(hC:C+costL line≤800000000) :
  Calls Tryz.prog 49 #[tp d,.string line] w (Ans B N d m w (lineP line s) (lineR line s).2 (C+costL line)):=by
 have hmf:∀ (fn:Fn) (first cap:Array Value) (w:World),(Instr.makeFunc fn first cap).run Tryz.prog w = .ok (.func fn first cap) w:=fun _ _ _ _=>rfl
 have hb1:Below w.heap.size w (w.alloc (.cells #[.string ⟨#[]⟩] 9)):=(Below.refl _ _).alloc (Nat.le_refl _) _
 have hwd:=words_any line (w.alloc (.cells #[.string ⟨#[]⟩] 9)) hl
 have p1:(w.alloc (.cells #[.string ⟨#[]⟩] 9)).cell? ⟨w.heap.size,0,none⟩=some (.string ⟨#[]⟩):=by simp
 have f1:(w.alloc (.cells #[.string ⟨#[]⟩] 9)).frozen? ⟨w.heap.size,0,none⟩=false:=by simp
 have l1:w.heap.size<(w.alloc (.cells #[.string ⟨#[]⟩] 9)).heap.size:=by simp
 have hws:=words_size line
 have hwl:=words_len line
 obtain⟨T,hT⟩:∃ T,lineP line s=T:=⟨_,rfl⟩
 obtain⟨S,hS⟩:∃ S,(lineR line s).2=S:=⟨_,rfl⟩
 obtain⟨C',hC'⟩:∃ C',C+costL line=C':=⟨_,rfl⟩
 rw[hC'] at hC
 rw[hT,hS,hC']
 unfold lineP lineR at hT
 unfold lineR at hS
 unfold costL at hC'
 cases hW:wordsP line with
 | nil=>
  rw[hW] at hwd hT hS hC'
  dsimp only at hT hS hC'
  simp only[List.length_nil,List.map_nil] at hwd
  subst hT hS hC'
  clear hws hwl
  go_enter_defers Tryz.func49,Tryz.ntmps49
  go_wp2_with fail
  refine hwd.mono ?_
  rintro e w2 ⟨g,rfl,hg,hrow,hb⟩
  have hb2:Below w.heap.size w w2:=hb1.trans (hb.mono hb1.size)
  have p2:=(hb.cell (p:=⟨w.heap.size,0,none⟩) l1).trans p1
  have f2:=(hb.frozen (p:=⟨w.heap.size,0,none⟩) l1).trans f1
  have hbW:Below w.heap.size w (w2.setCell ⟨w.heap.size,0,none⟩ (.string ⟨#[111,107]⟩)):=hb2.setCell (p:=⟨w.heap.size,0,none⟩) (Nat.le_refl _) _
  have HF:Hid (Ans B N d m w ⟨#[111,107]⟩ s (C+3) (.returned (.string ⟨#[111,107]⟩)) (w2.setCell ⟨w.heap.size,0,none⟩ (.string ⟨#[111,107]⟩))):=by
   obtain⟨x,z⟩:=h.below hbW
   exact⟨rfl,A,x.more (by omega),hm.dz z hmN hmd,z⟩
  have r:(w2.setCell ⟨w.heap.size,0,none⟩ (.string ⟨#[111,107]⟩)).cell? ⟨w.heap.size,0,none⟩=some (.string ⟨#[111,107]⟩):=World.cell?_setCell_same _ _ _ p2
  clear hwd hrow hb p1 f1 h hm
  go_wp2_with fail
  refine leaves_cons (f:=101) (args:=#[.pointer (some ⟨w.heap.size,0,none⟩)]) (by simp) (by simp[go_sem]) ?_
  refine(catch_idle ⟨w.heap.size,0,none⟩ _).mono ?_
  rintro e u' w3 ⟨rfl,rfl,rfl⟩
  exact⟨.string ⟨#[111,107]⟩,by simp[results,Tryz.results49,go_sem,r],HF.out⟩
 | cons x ws=>
  rw[hW] at hwd hws hwl hT hS hC'
  dsimp only at hT hS hC'
  simp only[List.length_cons] at hwd hwl
  have HT:Hid ((match (match findD deedsL x with|none=>((.inr 3,s):Res)|some f=>deedP f ws s).1 with|.inl t=>t|.inr n=>errT n)=T):=hT
  have HS:Hid ((match findD deedsL x with|none=>((.inr 3,s):Res)|some f=>deedP f ws s).2=S):=hS
  have HCC:Hid (C+(match findD deedsL x with|none=>3|some f=>costD f ws)=C'):=hC'
  clear hT hS hC'
  go_enter_defers Tryz.func49,Tryz.ntmps49
  go_wp2_with fail
  refine hwd.mono ?_
  rintro e w2 ⟨g,rfl,hg,hrow,hb⟩
  have hb2:Below w.heap.size w w2:=hb1.trans (hb.mono hb1.size)
  have p2:=(hb.cell (p:=⟨w.heap.size,0,none⟩) l1).trans p1
  have f2:=(hb.frozen (p:=⟨w.heap.size,0,none⟩) l1).trans f1
  obtain⟨x2,z2⟩:=h.below hb2
  have c1:=x2.dk.c1
  have q0:w2.cell? ⟨g,0,none⟩=some (.string x):=by rw[World.ownsRow.cellAt hrow 0 (by omega)];rfl
  have hne:((ws.length:Int)+1 == 0)=false:=by simp;omega
  have HR:Hid (w2.ownsRow (w.alloc (.cells #[.string ⟨#[]⟩] 9)).heap.size 9 1 (.slice (some ⟨g,0,none⟩) (ws.length+1) (ws.length+1)) (ws.length+1) ((x :: ws).map Value.string)):=hrow
  have o2:Off w2 w.heap.size:=⟨_,(hb.block _ l1).trans (World.alloc_heap_new w _),rfl⟩
  have hm2:DeedsIs w2 m d:=hm.dz z2 hmN hmd
  have hm3:DeedsIs w2.drew m d:=hm2
  have hlk:=lookup_deeds hm3 x
  clear hwd hrow hb p1 f1
  cases hfd:findD deedsL x with
  | none=>
   rw[hfd] at hlk
   have hT:=HT.out
   have hS:=HS.out
   have hC':=HCC.out
   rw[hfd] at hT hS hC'
   dsimp only at hlk hT hS hC'
   subst hT hS hC'
   have HF:Hid (Ans B N d m w (errT 3) s (C+3) (.returned (.string (errT 3))) (w2.drew.setCell ⟨w.heap.size,0,none⟩ (.string (errT 3)))):=by
    obtain⟨x,z⟩:=h.below (hb2.drew.setCell (p:=⟨w.heap.size,0,none⟩) (Nat.le_refl _) (.string (errT 3)))
    exact⟨rfl,A,x.more (by omega),hm.dz z hmN hmd,z⟩
   have p3:w2.drew.cell? ⟨w.heap.size,0,none⟩=some (.string ⟨#[]⟩):=p2
   have f3:w2.drew.frozen? ⟨w.heap.size,0,none⟩=false:=f2
   have r:(w2.setCell ⟨w.heap.size,0,none⟩ (.string (errT 3))).cell? ⟨w.heap.size,0,none⟩=some (.string (errT 3)):=World.cell?_setCell_same _ _ _ p2
   have ht:=catch_thrown ⟨w.heap.size,0,none⟩ ⟨#[]⟩ 3 (by omega) [] w2.drew p3 f3
   clear h hm x2 z2 hm2 hm3 hb2 HR hfd hC HT HS HCC
   go_upto_region 5 with fail
   refine wp_region_still_lit (by kernel_rfl) (by kernel_rfl) ?_
   repeat still_step
   refine wpStill_nil ?_
   go_wp2_with fail
   refine leaves_cons (f:=101) (args:=#[.pointer (some ⟨w.heap.size,0,none⟩)]) (by simp) (by simp[go_sem]) ?_
   refine ht.mono ?_
   rintro e u' w3 ⟨rfl,rfl,rfl⟩
   exact⟨.string (errT 3),by simp[results,Tryz.results49,go_sem,r],HF.out⟩
  | some f=>
   rw[hfd] at hlk
   have hT:=HT.out
   have hS:=HS.out
   have hC':=HCC.out
   rw[hfd] at hT hS hC'
   dsimp only at hlk hT hS hC'
   have hent:=deed_enters hfd
   have HWG:∀ o,(0<ws.length→o=1)→Wds w2.drew (.slice (some ⟨g,o,none⟩) ws.length ws.length) ws∧∀ g' o' n c,Value.slice (some ⟨g,o,none⟩) ws.length ws.length = .slice (some ⟨g',o',none⟩) n c→∃ cs f,w2.drew.heap[g']?=some (.cells cs 9 f):=fun o ho=>by
    have hrow:=HR.out
    have hlt:=(World.ownsRow.lt hrow g rfl).2
    refine⟨⟨⟨_,_,rfl,Nat.le_refl _,fun h0=>⟨g,o,rfl,hlt,fun i hi=>?_⟩⟩,fun y hy=>by have:=hws y (List.mem_cons_of_mem _ hy);omega,by omega⟩,fun g' o' n c e=>?_⟩
    ·have:w2.cell? ⟨g,o+i,none⟩=some (.string ws[i]):=by
      rw[ho h0,World.ownsRow.cellAt hrow (1+i) (by omega),List.map_cons,Nat.add_comm,List.getElem?_cons_succ,List.getElem?_map,List.getElem?_eq_getElem hi]
      rfl
     exact this
    ·injection e with e _ _
     injection e with e
     injection e with e _ _
     subst e
     rcases hrow.2 with ⟨q,_⟩|⟨g2,cap,cur,q,_,hh,_⟩
     ·cases q
     ·injection q with q _ _
      injection q with q
      injection q with q _ _
      subst q
      exact⟨_,_,hh⟩
   obtain⟨x3,z3⟩:=h.below (hb2.trans ((below_drew w2).mono hb2.size))
   have HDD:Hid (∀ v,Wds w2.drew v ws→(∀ g' o' n c,v = .slice (some ⟨g',o',none⟩) n c→∃ cs f,w2.drew.heap[g']?=some (.cells cs 9 f))→Calls Tryz.prog f #[tp d,v] w2.drew (Did B N d (.map (some m)) w2.drew C' (deedP f ws s))):=fun v hv hg=>by
    rw[← hC']
    exact deed_all B N d m w2.drew A s C v ws f x x3 hm3 hv hfd (by rw[hC'];exact hC) hg
   have HPT:Hid (∀ w5 A5 t,Ds B N d (.map (some m)) w5 A5 S C'→Dz N d w2.drew w5→T=t→w5.cell? ⟨w.heap.size,0,none⟩=some (.string ⟨#[]⟩)∧w5.frozen? ⟨w.heap.size,0,none⟩=false∧Ans B N d m w T S C' (.returned (.string t)) (w5.setCell ⟨w.heap.size,0,none⟩ (.string t))):=fun w5 A5 t x5 z5 et=>by
    have o3:Off w2.drew w.heap.size:=o2
    have e5:=z5.off _ o3
    have o5:Off w5 w.heap.size:=o3.same e5
    have z6:Dz N d w w5:=z3.trans z5
    have z7:=z6.boxed (i:=0) (.string t) (Nat.le_refl _) h.nw
    exact⟨(World.cell?_of_block (a:=⟨w.heap.size,0,none⟩) e5).trans p2,(World.frozen?_of_block (a:=⟨w.heap.size,0,none⟩) e5).trans f2,by rw[et],A5,x5.boxed _ o5 h.nw,hm.dz z7 hmN hmd,z7⟩
   have hok:=deed_ok hfd ws s
   have HR1:Hid ((match (deedP f ws s).1 with|.inl t=>t|.inr n=>errT n)=T):=hT
   have HR2:Hid ((deedP f ws s).2=S):=hS
   have HOK:Hid (okR (deedP f ws s)):=hok
   have HWH:Hid (∀ o,(0<ws.length→o=1)→Wds w2.drew (.slice (some ⟨g,o,none⟩) ws.length ws.length) ws∧∀ g' o' n c,Value.slice (some ⟨g,o,none⟩) ws.length ws.length = .slice (some ⟨g',o',none⟩) n c→∃ cs f,w2.drew.heap[g']?=some (.cells cs 9 f)):=HWG
   clear h hm x2 z2 hm2 hm3 hb2 HR hfd hC HT HS HCC x3 z3 hT hS hC' HWG hws hwl hok o2 p2 f2
   go_upto_region 5 with fail
   refine wp_region_still_lit (by kernel_rfl) (by kernel_rfl) ?_
   repeat still_step
   refine wpStill_nil ?_
   by_cases h0:ws.length=0
   ·obtain⟨k1,k2⟩:=HWH.out 0 (fun q=>by omega)
    have hcall:=HDD.out _ k1 k2
    rw[h0] at hcall
    clear HDD HWH k1 k2
    go_wp2_with fail
    refine hcall.mono ?_
    rintro e w5 ⟨he,A5,x5,z5⟩
    rw[HR2.out] at x5
    have hr1:=HR1.out
    have hok:=HOK.out
    cases hr:(deedP f ws s).1 with
    | inl t=>
     rw[hr] at he hr1
     dsimp only at he hr1
     subst he
     obtain⟨p5,f5,hans⟩:=HPT.out w5 A5 t x5 z5 hr1.symm
     have r:(w5.setCell ⟨w.heap.size,0,none⟩ (.string t)).cell? ⟨w.heap.size,0,none⟩=some (.string t):=World.cell?_setCell_same _ _ _ p5
     have HF:Hid (Ans B N d m w T S C' (.returned (.string t)) (w5.setCell ⟨w.heap.size,0,none⟩ (.string t))):=hans
     clear hcall HPT HR1 HR2 HOK hok hr hr1 x5 z5 hans h0
     go_wp2_with fail
     refine leaves_cons (f:=101) (args:=#[.pointer (some ⟨w.heap.size,0,none⟩)]) (by simp) (by simp[go_sem]) ?_
     refine(catch_idle ⟨w.heap.size,0,none⟩ _).mono ?_
     rintro e u' w3 ⟨rfl,rfl,rfl⟩
     exact⟨.string t,by simp[results,Tryz.results49,go_sem,r],HF.out⟩
    | inr n=>
     have hn:=hok n hr
     rw[hr] at he hr1
     dsimp only at he hr1
     subst he
     obtain⟨p5,f5,hans⟩:=HPT.out w5 A5 (errT n) x5 z5 hr1.symm
     have r:(w5.setCell ⟨w.heap.size,0,none⟩ (.string (errT n))).cell? ⟨w.heap.size,0,none⟩=some (.string (errT n)):=World.cell?_setCell_same _ _ _ p5
     have HF:Hid (Ans B N d m w T S C' (.returned (.string (errT n))) (w5.setCell ⟨w.heap.size,0,none⟩ (.string (errT n)))):=hans
     have ht:=catch_thrown ⟨w.heap.size,0,none⟩ ⟨#[]⟩ n hn [] w5 p5 f5
     clear hcall HPT HR1 HR2 HOK hok hr hr1 x5 z5 hans h0
     go_wp2_with fail
     refine leaves_cons (f:=101) (args:=#[.pointer (some ⟨w.heap.size,0,none⟩)]) (by simp) (by simp[go_sem]) ?_
     refine ht.mono ?_
     rintro e u' w3 ⟨rfl,rfl,rfl⟩
     exact⟨.string (errT n),by simp[results,Tryz.results49,go_sem,r],HF.out⟩
   ·obtain⟨k1,k2⟩:=HWH.out 1 (fun q=>rfl)
    have hcall:=HDD.out _ k1 k2
    clear HDD HWH k1 k2
    go_wp2_with fail
    refine hcall.mono ?_
    rintro e w5 ⟨he,A5,x5,z5⟩
    rw[HR2.out] at x5
    have hr1:=HR1.out
    have hok:=HOK.out
    cases hr:(deedP f ws s).1 with
    | inl t=>
     rw[hr] at he hr1
     dsimp only at he hr1
     subst he
     obtain⟨p5,f5,hans⟩:=HPT.out w5 A5 t x5 z5 hr1.symm
     have r:(w5.setCell ⟨w.heap.size,0,none⟩ (.string t)).cell? ⟨w.heap.size,0,none⟩=some (.string t):=World.cell?_setCell_same _ _ _ p5
     have HF:Hid (Ans B N d m w T S C' (.returned (.string t)) (w5.setCell ⟨w.heap.size,0,none⟩ (.string t))):=hans
     clear hcall HPT HR1 HR2 HOK hok hr hr1 x5 z5 hans h0
     go_wp2_with fail
     refine leaves_cons (f:=101) (args:=#[.pointer (some ⟨w.heap.size,0,none⟩)]) (by simp) (by simp[go_sem]) ?_
     refine(catch_idle ⟨w.heap.size,0,none⟩ _).mono ?_
     rintro e u' w3 ⟨rfl,rfl,rfl⟩
     exact⟨.string t,by simp[results,Tryz.results49,go_sem,r],HF.out⟩
    | inr n=>
     have hn:=hok n hr
     rw[hr] at he hr1
     dsimp only at he hr1
     subst he
     obtain⟨p5,f5,hans⟩:=HPT.out w5 A5 (errT n) x5 z5 hr1.symm
     have r:(w5.setCell ⟨w.heap.size,0,none⟩ (.string (errT n))).cell? ⟨w.heap.size,0,none⟩=some (.string (errT n)):=World.cell?_setCell_same _ _ _ p5
     have HF:Hid (Ans B N d m w T S C' (.returned (.string (errT n))) (w5.setCell ⟨w.heap.size,0,none⟩ (.string (errT n)))):=hans
     have ht:=catch_thrown ⟨w.heap.size,0,none⟩ ⟨#[]⟩ n hn [] w5 p5 f5
     clear hcall HPT HR1 HR2 HOK hok hr hr1 x5 z5 hans h0
     go_wp2_with fail
     refine leaves_cons (f:=101) (args:=#[.pointer (some ⟨w.heap.size,0,none⟩)]) (by simp) (by simp[go_sem]) ?_
     refine ht.mono ?_
     rintro e u' w3 ⟨rfl,rfl,rfl⟩
     exact⟨.string (errT n),by simp[results,Tryz.results49,go_sem,r],HF.out⟩
end Wld
end
end Go.Proofs.YtbebfliimjjohabGreatDoor
