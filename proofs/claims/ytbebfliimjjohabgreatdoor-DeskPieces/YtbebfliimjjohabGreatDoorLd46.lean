/- Parts of the proof. -/
import Derived.Test.YtbebfliimjjohabGreatDoorLd45
import Derived.RangeFuncNested
import Derived.RangeFuncBound
import Derived.RangeFuncCalls
import Derived.RangeFuncLeaves
import Derived.Shelf.Abstract
import Derived.Shelf.RegionOpen
import Derived.OwnWalkIn
import Derived.TacticsInMore
import Derived.LoopNIn
import Derived.LoopIn
set_option maxRecDepth 100000
set_option maxHeartbeats 8000000
namespace Go.Proofs.YtbebfliimjjohabGreatDoor
section
namespace Wld
open Go.RowKit Go.Maps Go.Shelf
open Cache (tp row_kept row_below)
def cutL:List UInt8→List (List UInt8)
 | []=>[[]]
 | c :: t=>if c=10 then [] :: cutL t else match cutL t with
  | []=>[[c]]
  | x :: r=>(c :: x) :: r
theorem cutL_ne:∀ l,cutL l≠[]
 | []=>by simp[cutL]
 | c :: t=>by
  unfold cutL
  split
  ·simp
  ·split<;>simp
theorem cut_none:∀ l,Lib.indexByte l 10 = -1→cutL l = [l]
 | [],_=>rfl
 | c :: t,h=>by
  unfold Lib.indexByte at h
  unfold cutL
  by_cases hc:c=10
  ·subst hc;simp at h
  ·rw[if_neg hc]
   rw[if_neg (by simpa using hc)] at h
   have ht:Lib.indexByte t 10 = -1:=by
    by_cases q:Lib.indexByte t 10 = -1
    ·exact q
    ·rw[if_neg (by simpa using q)] at h
     have:∀ l:List UInt8,-1≤Lib.indexByte l 10:=fun l=>by
      induction l with
      | nil=>simp[Lib.indexByte]
      | cons a b ih=>
       unfold Lib.indexByte
       split
       ·omega
       ·split<;>omega
     have:=this t
     omega
   rw[cut_none t ht]
theorem cut_some:∀ l,Lib.indexByte l 10≠-1→0≤Lib.indexByte l 10∧(Lib.indexByte l 10).toNat<l.length∧cutL l=l.take (Lib.indexByte l 10).toNat :: cutL (l.drop ((Lib.indexByte l 10).toNat+1))
 | [],h=>by simp[Lib.indexByte] at h
 | c :: t,h=>by
  by_cases hc:c=10
  ·subst hc
   have e:Lib.indexByte (10 :: t) 10=0:=by simp[Lib.indexByte]
   rw[e]
   refine⟨by omega,by simp,?_⟩
   simp[cutL]
  ·have e:Lib.indexByte (c :: t) 10=if Lib.indexByte t 10 == -1 then -1 else Lib.indexByte t 10+1:=by
    rw[Lib.indexByte,if_neg (by simpa using hc)]
   by_cases q:Lib.indexByte t 10 = -1
   ·rw[e,if_pos (by simpa using q)] at h
    exact absurd rfl h
   ·rw[if_neg (by simpa using q)] at e
    obtain⟨h1,h2,h3⟩:=cut_some t q
    rw[e]
    have e2:(Lib.indexByte t 10+1).toNat=(Lib.indexByte t 10).toNat+1:=by omega
    rw[e2]
    refine⟨by omega,by simp only[List.length_cons];omega,?_⟩
    rw[List.take_succ_cons,List.drop_succ_cons]
    conv=>lhs;unfold cutL
    rw[if_neg hc,h3]
def linesB(s:ByteArray):List ByteArray:=(cutL s.data.toList).map fun l=>⟨l.toArray⟩
theorem ba_ext{a b:ByteArray}(h:a.data.toList=b.data.toList):a=b:=Go.WideShapes.bytes_inj h
theorem lines_none{s:ByteArray}(h:Lib.indexByte s.data.toList 10 = -1):linesB s = [s]:=by
 unfold linesB
 rw[cut_none _ h]
 simp
theorem lines_some{s:ByteArray}(h:Lib.indexByte s.data.toList 10≠-1):∃ i:Nat,Lib.indexByte s.data.toList 10=i∧i<s.size∧linesB s=s.extract 0 i :: linesB (s.extract (i+1) s.size):=by
 obtain⟨h1,h2,h3⟩:=cut_some _ h
 refine⟨(Lib.indexByte s.data.toList 10).toNat,by omega,by rw[Array.length_toList] at h2;exact h2,?_⟩
 generalize (Lib.indexByte s.data.toList 10).toNat=i at *
 unfold linesB
 rw[h3,List.map_cons]
 congr 1
 ·apply ba_ext
  simp
 ·have:(s.extract (i+1) s.size).data.toList=s.data.toList.drop (i+1):=by
   rw[ByteArray.data_extract,Array.toList_extract,List.extract_eq_take_drop]
   exact List.take_of_length_le (by rw[List.length_drop,Array.length_toList];exact Nat.le_refl _)
  rw[this]
theorem cut_sum:∀ l,((cutL l).map fun x=>x.length+1).sum=l.length+1
 | []=>rfl
 | c :: t=>by
  have h:=cut_sum t
  unfold cutL
  split
  ·simp only[List.map_cons,List.sum_cons,List.length_nil,List.length_cons]
   omega
  ·cases ht:cutL t with
   | nil=>exact absurd ht (cutL_ne t)
   | cons x r=>
    rw[ht] at h
    simp only[List.map_cons,List.sum_cons,List.length_cons] at h ⊢
    omega
theorem lines_sum(s:ByteArray):((linesB s).map fun x=>x.size+1).sum=s.size+1:=by
 have h:=cut_sum s.data.toList
 rw[Array.length_toList] at h
 unfold linesB
 rw[List.map_map]
 exact h
theorem sum_mem{l:List ByteArray}{x:ByteArray}(h:x∈l):x.size+1≤(l.map fun x=>x.size+1).sum:=by
 induction l with
 | nil=>cases h
 | cons y t ih=>
  simp only[List.map_cons,List.sum_cons]
  rcases List.mem_cons.1 h with rfl|q
  ·omega
  ·have:=ih q;omega
theorem lines_size{s x:ByteArray}(h:x∈linesB s):x.size≤s.size:=by
 have h1:=sum_mem h
 rw[lines_sum] at h1
 omega
theorem lines_len(s:ByteArray):(linesB s).length≤s.size+1:=by
 rw[← lines_sum]
 generalize linesB s=l
 induction l with
 | nil=>exact Nat.le_refl _
 | cons x t ih=>simp only[List.length_cons,List.map_cons,List.sum_cons];omega
def leftB(p:Nat)(w:World):Nat:=match w.cell? ⟨p,0,none⟩ with
 | some (.string s)=>s.size
 | _=>0
attribute [local go_sem] Oper.semAt_some
theorem split_in(l pS pE pV:Nat)(text:ByteArray)(J:ByteArray→List ByteArray→World→Prop)(hl:text.size≤1000000)
  (hY:∀ rest pre x W,J rest pre W→pre++[x] <+: linesB text→YieldAt Fence.wide 3 Tryz.prog l #[.string x] W fun e W'=>e = .returned (.bool true)∧J rest (pre++[x]) W')
  (hset:∀ rest rest' pre W,J rest pre W→J rest' pre (W.setCell ⟨pS,0,none⟩ (.string rest')))
  (hc:∀ rest pre W,J rest pre W→W.cell? ⟨pS,0,none⟩=some (.string rest)∧W.frozen? ⟨pS,0,none⟩=false∧W.cell? ⟨pE,0,none⟩=some (.string ⟨#[10]⟩)∧W.cell? ⟨pV,0,none⟩=some (.int .i64 0))
  (W:World) (h0:J text [] W) :
  CallsIn Fence.wide 4 Tryz.prog 154 #[.func (.yield l) #[] #[],.pointer (some ⟨pE,0,none⟩),.pointer (some ⟨pS,0,none⟩),.pointer (some ⟨pV,0,none⟩)] W fun e W'=>(∃ v,e = .returned v)∧∃ rest,J rest (linesB text) W':=by
 refine callsIn_of_wp Tryz.func154 rfl trivial ?_ rfl
 simp only[Tryz.ntmps154,List.size_toArray,List.length_cons,List.length_nil,Nat.reduceAdd,Nat.reduceSub,Array.replicate_succ,Array.replicate_zero,List.push_toArray,List.append_toArray,List.nil_append,List.cons_append]
 obtain⟨c0,f0,c1,c2⟩:=hc _ _ _ h0
 have HY:Hid (∀ rest pre x W,J rest pre W→pre++[x] <+: linesB text→YieldAt Fence.wide 3 Tryz.prog l #[.string x] W fun e W'=>e = .returned (.bool true)∧J rest (pre++[x]) W'):=hY
 have HS:Hid (∀ rest rest' pre W,J rest pre W→J rest' pre (W.setCell ⟨pS,0,none⟩ (.string rest'))):=hset
 have HC:Hid (∀ rest pre W,J rest pre W→W.cell? ⟨pS,0,none⟩=some (.string rest)∧W.frozen? ⟨pS,0,none⟩=false∧W.cell? ⟨pE,0,none⟩=some (.string ⟨#[10]⟩)∧W.cell? ⟨pV,0,none⟩=some (.int .i64 0)):=hc
 have HJ0:Hid (J text [] W):=h0
 clear hY hset hc h0
 gi_wp2
 clear c0 f0 c1 c2
 gi_loopw [] (fun wr=>∃ rest pre,J rest pre wr∧linesB text=pre++linesB rest∧rest.size≤1000000) (fun wr=>leftB pS wr)
 case atStart=>exact⟨text,[],HJ0.out,rfl,hl⟩
 case round=>
  obtain⟨rest,pre,hJ,hlines,hsz⟩:=hrel
  obtain⟨c0,f0,c1,c2⟩:=HC.out _ _ _ hJ
  have HLB:Hid (leftB pS wr=rest.size):=by unfold Hid leftB;rw[c0]
  have HL:Hid (linesB text=pre++linesB rest):=hlines
  have HJ:Hid (J rest pre wr):=hJ
  clear hJ hlines HJ0
  have hix:=(callsIn_wide (n:=3)).2 (Tryz.strings_Index_one rest 10 wr)
  by_cases hi:Lib.indexByte rest.data.toList 10 = -1
  ·rw[hi] at hix
   have HLN:Hid (linesB rest = [rest]):=lines_none hi
   obtain⟨fn,tmps,assign,body,hy,hR⟩:=HY.out rest pre rest wr HJ.out ⟨[],by rw[HL.out,HLN.out,List.append_nil]⟩
   clear hi
   gi_wp2
   refine⟨trivial,hix.mono ?_⟩
   rintro e w' ⟨rfl,hw'⟩
   rw[hw']
   clear hix hw'
   gi_wp2
   refine hR.mono ?_
   rintro e W3 ⟨rfl,hJ3⟩
   have HE:Hid (∃ rest,J rest (linesB text) W3):=⟨rest,by rw[HL.out,HLN.out];exact hJ3⟩
   clear hR hJ3 HL HLN hy
   gi_wp2
   go_end0
   exact⟨⟨_,rfl⟩,HE.out⟩
  ·obtain⟨i,hii,his,hln⟩:=lines_some hi
   rw[hii] at hix
   obtain⟨fn,tmps,assign,body,hy,hR⟩:=HY.out rest pre (rest.extract 0 i) wr HJ.out ⟨linesB (rest.extract (i+1) rest.size),by rw[HL.out,hln,List.append_assoc];rfl⟩
   have HLN:Hid (linesB rest=rest.extract 0 i :: linesB (rest.extract (i+1) rest.size)):=hln
   have hneg:¬ (i:Int)<0:=by omega
   have hw0:IntKind.i64.wrap ((i:Int)+0)=i:=wrapJ (by omega) (by omega)
   have hw1:IntKind.i64.wrap ((i:Int)+1)=(i:Int)+1:=wrapJ (by omega) (by omega)
   clear hi hln hii
   gi_wp2
   refine⟨trivial,hix.mono ?_⟩
   rintro e w' ⟨rfl,hw'⟩
   rw[hw']
   clear hix hw'
   gi_wp2
   refine hR.mono ?_
   rintro e W3 ⟨rfl,hJ3⟩
   obtain⟨d0,g0,d1,d2⟩:=HC.out _ _ _ hJ3
   have HJ4:Hid (J (rest.extract (i+1) rest.size) (pre++[rest.extract 0 i]) (W3.setCell ⟨pS,0,none⟩ (.string (rest.extract (i+1) rest.size)))):=HS.out _ _ _ _ hJ3
   have HLB4:Hid (leftB pS (W3.setCell ⟨pS,0,none⟩ (.string (rest.extract (i+1) rest.size)))<rest.size∧(rest.extract (i+1) rest.size).size≤1000000):=by
    have e:leftB pS (W3.setCell ⟨pS,0,none⟩ (.string (rest.extract (i+1) rest.size)))=(rest.extract (i+1) rest.size).size:=by
     unfold leftB
     rw[World.cell?_setCell_same _ _ _ d0]
    unfold Hid
    rw[e,ByteArray.size_extract]
    omega
   clear hR hJ3 hy c0 f0 c1 c2 HJ
   gi_wp2
   go_roundw
   case rel=>exact⟨_,_,HJ4.out,by rw[HL.out,HLN.out,List.append_assoc];rfl,HLB4.out.2⟩
   case measure=>have:=HLB4.out.1;rw[HLB.out];exact this
end Wld
end
section
namespace Wld
open Go.RowKit Go.Maps
open Lease (I64 objB)
open Num (M okB)
open Net (hasB)
def el(w:Wd):Nat:=w.events.length
theorem el_put(w:Wd)(t:Int)(m:M):el (w.put t m)=el w:=by unfold Wd.put;split<;>rfl
theorem el_send(t:Int):∀ (l:List M) (w:Wd),el (w.send t l)=el w
 | [],_=>rfl
 | m :: l,w=>(el_send t l (w.put t m)).trans (el_put w t m)
theorem el_tells:∀ (l:List M) (w:Wd),el (w.tells l)=el w
 | [],_=>rfl
 | m :: l,w=>(el_tells l (w.put (seatN m.c:Nat) m)).trans (el_put w _ m)
theorem el_fallen(w:Wd):el w.fallen=el w:=by
 unfold Wd.fallen
 split
 ·rfl
 ·split<;>rfl
theorem el_answer(w:Wd)(r:Sv×List M):el (w.answer r)=el w:=(el_fallen _).trans (el_tells r.2 _)
theorem el_note(w:Wd)(k:Nat):el (w.note k)=el w:=by
 unfold Wd.note
 split
 ·rfl
 ·exact List.length_modify _ _ _
theorem el_ask(w:Wd)(k:Nat):el (w.ask k)=el w:=el_send _ _ _
theorem el_again(w:Wd)(k:Nat):el (w.again k)=el w:=el_ask { w with step:=w.step+1 } k
theorem el_told(w:Wd)(t:Int)(m:M):el (w.told t m)=el w:=by
 unfold Wd.told
 split
 ·unfold Wd.toldServer
  split
  ·rfl
  ·exact el_answer _ _
 ·split
  ·exact(el_note _ _).trans (el_send _ _ _)
  ·rfl
theorem el_deliver(w:Wd)(k:Nat):el (w.deliver k)=el w:=by
 unfold Wd.deliver
 split
 ·rfl
 ·exact el_told _ _ _
theorem el_twice(w:Wd)(k:Nat):el (w.twice k)=el w:=by
 unfold Wd.twice
 split
 ·rfl
 ·split<;>rfl
theorem el_begin(w:Wd)(k:Nat)(c:K):el (w.begin k c)=el w+1:=by
 have h:el (w.opens k c)=el w+1:=by simp[el,Wd.opens]
 unfold Wd.begin Wd.asked
 split
 ·exact(el_note _ _).trans h
 ·exact(el_ask _ _).trans ((el_note _ _).trans h)
theorem el_goes(w:Wd)(b:Int)(f:Nat→Int):el (w.goes b f)=el w:=by
 unfold Wd.goes Wd.ticked
 split
 ·rfl
 ·exact el_answer _ _
theorem el_failing(w:Wd)(x t:Int):el (w.failing x t)=el w:=by unfold Wd.failing;split<;>rfl
theorem el_restart(w:Wd):el w.restart=el w:=by unfold Wd.restart;split<;>rfl
theorem el_drain:∀ (f:Nat) (w:Wd),el (w.drain f)=el w
 | 0,_=>rfl
 | f+1,w=>by
  unfold Wd.drain
  split
  ·rfl
  ·exact(el_drain f _).trans (el_deliver w 0)
theorem el_calmK(w:Wd):∀ k,el (w.calmK k)=el w
 | 0=>rfl
 | k+1=>(el_drain _ _).trans ((el_again _ _).trans (el_calmK w k))
theorem el_calm1(w:Wd):el w.calm1=el w:=(el_drain _ _).trans ((el_goes _ _ _).trans ((el_calmK _ _).trans (el_restart w)))
theorem el_calm(w:Wd):∀ r,el (w.calm r)=el w
 | 0=>rfl
 | r+1=>(el_calm1 _).trans (el_calm w r)
def elR(s:Wd)(r:Res):Prop:=el r.2≤el s+1
theorem elR.same{s:Wd}{x:ByteArray ⊕ Nat}:elR s (x,s):=Nat.le_succ _
theorem elR.num0{ws:List ByteArray}{s:Wd}{r:Res}(h:elR s r):elR s (num0 ws s r):=by
 unfold Wld.num0
 split
 ·exact h
 ·exact elR.same
theorem elR.num1{ws:List ByteArray}{s:Wd}{f:Int→Res}(h:∀ a,elR s (f a)):elR s (num1 ws s f):=by
 unfold Wld.num1
 split
 ·exact h _
 ·exact elR.same
theorem elR.num2{ws:List ByteArray}{s:Wd}{f:Int→Int→Res}(h:∀ a b,elR s (f a b)):elR s (num2 ws s f):=by
 unfold Wld.num2
 split
 ·exact h _ _
 ·exact elR.same
theorem elR.num4{ws:List ByteArray}{s:Wd}{f:Int→Int→Int→Int→Res}(h:∀ a b c d,elR s (f a b c d)):elR s (num4 ws s f):=by
 unfold Wld.num4
 split
 ·exact h _ _ _ _
 ·exact elR.same
theorem elR.of{s s':Wd}{e:Int}{t:ByteArray}(h:el s'=el s):elR s (told e t s'):=by show el s'≤_;omega
theorem el_againD(s:Wd)(k:Int):el (s.againD k)=el s:=by
 unfold Wd.againD
 split
 ·exact el_again _ _
 ·rfl
theorem el_rebornD(s:Wd)(k:Int):el (s.rebornD k)=el s:=by unfold Wd.rebornD;split<;>rfl
theorem el_deliverD(s:Wd)(k:Int):el (s.deliverD k)=el s:=by
 unfold Wd.deliverD
 split
 ·exact el_deliver _ _
 ·rfl
theorem el_loseD(s:Wd)(k:Int):el (s.loseD k)=el s:=by unfold Wd.loseD;split<;>rfl
theorem el_twiceD(s:Wd)(k:Int):el (s.twiceD k)=el s:=by
 unfold Wd.twiceD
 split
 ·exact el_twice _ _
 ·rfl
theorem el_goesD(s:Wd)(l:List Int):el (s.goesD l)=el s:=by
 unfold Wd.goesD
 split
 ·exact el_goes _ _ _
 ·rfl
theorem el_readD(s:Wd)(k o:Int):el (s.readD k o)≤el s+1:=by
 unfold Wd.readD
 split
 ·split
  ·exact Nat.le_of_eq (el_begin _ _ _)
  ·exact Nat.le_succ _
 ·exact Nat.le_succ _
theorem el_writeD(s:Wd)(k o:Int)(d:ByteArray):el (s.writeD k o d)≤el s+1:=by
 unfold Wd.writeD
 split
 ·split
  ·exact Nat.le_of_eq (el_begin _ _ _)
  ·exact Nat.le_succ _
 ·exact Nat.le_succ _
theorem deed_el{x:ByteArray}{f:Nat}(h:findD deedsL x=some f)(ws:List ByteArray)(s:Wd):elR s (deedP f ws s):=by
 have hid:=deed_ids h
 clear h
 simp only[deedsL,List.map_cons,List.map_nil,List.mem_cons,List.not_mem_nil,or_false] at hid
 rcases hid with rfl|rfl|rfl|rfl|rfl|rfl|rfl|rfl|rfl|rfl|rfl|rfl|rfl|rfl|rfl|rfl|rfl|rfl|rfl
 ·show elR s (againP ws s)
  exact elR.num1 fun a=>elR.of (el_againD s a)
 ·show elR s (beginP ws s)
  refine elR.num4 fun a b c k=>?_
  split
  ·exact Nat.zero_le _
  ·exact elR.same
 ·show elR s (callsP ws s)
  exact elR.num0 elR.same
 ·show elR s (calmP ws s)
  refine elR.num1 fun a=>?_
  split
  ·exact elR.same
  ·exact Nat.le_trans (Nat.le_of_eq (el_calm s a.toNat)) (Nat.le_succ _)
 ·show elR s (crashP ws s)
  exact elR.num0 (Nat.le_succ _)
 ·show elR s (deliverP ws s)
  exact elR.num1 fun a=>elR.of (el_deliverD s a)
 ·show elR s (failsP ws s)
  exact elR.num2 fun a b=>Nat.le_trans (Nat.le_of_eq (el_failing s a b)) (Nat.le_succ _)
 ·show elR s (goesP ws s)
  unfold goesP
  split
  ·exact elR.of (el_goesD s _)
  ·exact elR.same
 ·show elR s (helpP ws s)
  exact elR.num0 elR.same
 ·show elR s (loseP ws s)
  exact elR.num1 fun a=>elR.of (el_loseD s a)
 ·show elR s (manyP ws s)
  exact elR.num0 elR.same
 ·show elR s (readP ws s)
  exact elR.num2 fun a b=>el_readD s a b
 ·show elR s (rebornP ws s)
  exact elR.num1 fun a=>elR.of (el_rebornD s a)
 ·show elR s (restartP ws s)
  exact elR.num0 (Nat.le_trans (Nat.le_of_eq (el_restart s)) (Nat.le_succ _))
 ·show elR s (shortP ws s)
  refine elR.num2 fun a b=>?_
  split<;>exact elR.same
 ·show elR s (twiceP ws s)
  exact elR.num1 fun a=>elR.of (el_twiceD s a)
 ·show elR s (upP ws s)
  exact elR.num0 elR.same
 ·show elR s ((num1 ws s fun o=>valueP s o))
  refine elR.num1 fun a=>?_
  unfold valueP
  split
  ·exact elR.same
  ·split<;>exact elR.same
 ·show elR s (writeP ws s)
  unfold writeP
  split
  ·exact elR.num2 fun a b=>el_writeD s a b _
  ·exact elR.same
theorem line_el(line:ByteArray)(s:Wd):el (lineR line s).2≤el s+1:=by
 unfold lineR
 cases wordsP line with
 | nil=>exact Nat.le_succ _
 | cons x ws=>
  dsimp only
  cases hf:findD deedsL x with
  | none=>exact Nat.le_succ _
  | some f=>exact deed_el hf ws s
def szR(K:Nat)(r:Res):Prop:=∀ t,r.1 = .inl t→t.size≤K
theorem szR.inr{K n:Nat}{s:Wd}:szR K (.inr n,s):=fun t e=>by cases e
theorem szR.inl{K:Nat}{t:ByteArray}{s:Wd}(h:t.size≤K):szR K (.inl t,s):=fun u e=>by injection e with e;rw[← e];exact h
theorem szR.told{K:Nat}{e:Int}{t:ByteArray}{s:Wd}(h:t.size≤K):szR K (told e t s):=fun u q=>by
 unfold Wld.told at q
 by_cases h0:e=0
 ·simp only[if_pos h0] at q
  injection q with q
  rw[← q]
  exact h
 ·simp only[if_neg h0] at q
  cases q
theorem szR.num0{K:Nat}{ws:List ByteArray}{s:Wd}{r:Res}(h:szR K r):szR K (num0 ws s r):=by
 unfold Wld.num0
 split
 ·exact h
 ·exact szR.inr
theorem szR.num1{K:Nat}{ws:List ByteArray}{s:Wd}{f:Int→Res}(h:∀ a,szR K (f a)):szR K (num1 ws s f):=by
 unfold Wld.num1
 split
 ·exact h _
 ·exact szR.inr
theorem szR.num2{K:Nat}{ws:List ByteArray}{s:Wd}{f:Int→Int→Res}(h:∀ a b,szR K (f a b)):szR K (num2 ws s f):=by
 unfold Wld.num2
 split
 ·exact h _ _
 ·exact szR.inr
theorem szR.num4{K:Nat}{ws:List ByteArray}{s:Wd}{f:Int→Int→Int→Int→Res}(h:∀ a b c d,szR K (f a b c d)):szR K (num4 ws s f):=by
 unfold Wld.num4
 split
 ·exact h _ _ _ _
 ·exact szR.inr
theorem join_sz{l:List Ev}(h:∀ e∈l,EvOk e):(Lib.join (l.map fun e=>(evT e).data.toList) [44,32]).length≤510*l.length:=by
 cases l with
 | nil=>exact Nat.zero_le _
 | cons e t=>
  rw[List.map_cons,Lib.join_length]
  have h1:=lens_le 500 ((evT e).data.toList :: t.map fun e=>(evT e).data.toList) (fun x hx=>by
   rw[← List.map_cons (f:=fun e=>(evT e).data.toList)] at hx
   obtain⟨e',he',rfl⟩:=List.mem_map.1 hx
   exact evT_size (h e' he'))
  simp only[List.length_cons,List.length_map,List.length_nil] at h1 ⊢
  omega
theorem deed_sz{x:ByteArray}{f:Nat}(h:findD deedsL x=some f)(ws:List ByteArray)(s:Wd){C:Nat}(hk:Bk s C):szR (1000+510*el s) (deedP f ws s):=by
 have hid:=deed_ids h
 clear h
 simp only[deedsL,List.map_cons,List.map_nil,List.mem_cons,List.not_mem_nil,or_false] at hid
 rcases hid with rfl|rfl|rfl|rfl|rfl|rfl|rfl|rfl|rfl|rfl|rfl|rfl|rfl|rfl|rfl|rfl|rfl|rfl|rfl
 ·show szR (1000+510*el s) (againP ws s)
  exact szR.num1 fun a=>szR.told (by show 5≤_;omega)
 ·show szR (1000+510*el s) (beginP ws s)
  refine szR.num4 fun a b c k=>?_
  split
  ·exact szR.inl (by show 5≤_;omega)
  ·exact szR.inr
 ·show szR (1000+510*el s) (callsP ws s)
  refine szR.num0 (szR.inl ?_)
  have h1:=join_sz hk.2.2.ev
  have h2:(Lib.join (s.events.map fun e=>(evT e).data.toList) [44,32]).toArray.size=(Lib.join (s.events.map fun e=>(evT e).data.toList) [44,32]).length:=List.size_toArray
  show (Lib.join (s.events.map fun e=>(evT e).data.toList) [44,32]).toArray.size≤_
  rw[h2]
  unfold el
  omega
 ·show szR (1000+510*el s) (calmP ws s)
  refine szR.num1 fun a=>?_
  split
  ·exact szR.inr
  ·exact szR.inl (by show 4≤_;omega)
 ·show szR (1000+510*el s) (crashP ws s)
  exact szR.num0 (szR.inl (by show 5≤_;omega))
 ·show szR (1000+510*el s) (deliverP ws s)
  exact szR.num1 fun a=>szR.told (by show 7≤_;omega)
 ·show szR (1000+510*el s) (failsP ws s)
  exact szR.num2 fun a b=>szR.inl (by show 5≤_;omega)
 ·show szR (1000+510*el s) (goesP ws s)
  unfold goesP
  split
  ·exact szR.told (by show 4≤_;omega)
  ·exact szR.inr
 ·show szR (1000+510*el s) (helpP ws s)
  exact szR.num0 (szR.inl (Nat.le_trans (by decide:helpT.size≤1000) (by omega)))
 ·show szR (1000+510*el s) (loseP ws s)
  exact szR.num1 fun a=>szR.told (by show 4≤_;omega)
 ·show szR (1000+510*el s) (manyP ws s)
  refine szR.num0 (szR.inl ?_)
  have h1:=hk.1.netl
  have h2:=itoaT_size (y:=s.net.length) ⟨by omega,by omega⟩
  omega
 ·show szR (1000+510*el s) (readP ws s)
  exact szR.num2 fun a b=>szR.told (by show 4≤_;omega)
 ·show szR (1000+510*el s) (rebornP ws s)
  exact szR.num1 fun a=>szR.told (by show 6≤_;omega)
 ·show szR (1000+510*el s) (restartP ws s)
  refine szR.num0 ?_
  split
  ·exact szR.inr
  ·exact szR.inl (by show 7≤_;omega)
 ·show szR (1000+510*el s) (shortP ws s)
  refine szR.num2 fun a b=>?_
  split
  ·rename_i q
   have h2:=itoaT_size (short_i64 q)
   exact szR.inl (by omega)
  ·exact szR.inr
 ·show szR (1000+510*el s) (twiceP ws s)
  exact szR.num1 fun a=>szR.told (by show 5≤_;omega)
 ·show szR (1000+510*el s) (upP ws s)
  refine szR.num0 (szR.inl ?_)
  cases s.sv.isSome
  ·exact Nat.le_trans (by decide:(⟨(Lib.formatBool false).toArray⟩:ByteArray).size≤1000) (by omega)
  ·exact Nat.le_trans (by decide:(⟨(Lib.formatBool true).toArray⟩:ByteArray).size≤1000) (by omega)
 ·show szR (1000+510*el s) ((num1 ws s fun o=>valueP s o))
  refine szR.num1 fun a=>?_
  unfold valueP
  split
  ·exact szR.inr
  ·rename_i v hv
   split
   ·obtain⟨hu,_⟩:=hk.1.sv v hv
    have h2:=hu.vv0 a.toNat
    have h3:=hu.vv1 a.toNat
    have h4:=hu.len
    have h5:=shownT_size (hu.vdl a.toNat) (v:=v.vv a.toNat) ⟨by omega,by omega⟩
    exact szR.inl (by omega)
   ·exact szR.inr
 ·show szR (1000+510*el s) (writeP ws s)
  unfold writeP
  split
  ·exact szR.num2 fun a b=>szR.told (by show 5≤_;omega)
  ·exact szR.inr
theorem errT_size{n:Nat}(h:n<100):(errT n).size≤1000:=by
 unfold errT
 rw[ByteArray.size_append]
 have h2:=Lib.itoa_length_le (n:Int) (by omega) (by omega)
 rw[Lib.itoa_nonneg] at h2
 have h3:(⟨(Lib.decDigits n).toArray⟩:ByteArray).size=(Lib.decDigits n).length:=List.size_toArray
 have h4:(⟨#[101,114,114,111,114,32]⟩:ByteArray).size=6:=rfl
 omega
theorem line_sz(line:ByteArray)(s:Wd){C:Nat}(hk:Bk s C):(lineP line s).size≤1000+510*el s:=by
 unfold lineP lineR
 cases wordsP line with
 | nil=>show 2≤_;omega
 | cons x ws=>
  dsimp only
  cases hf:findD deedsL x with
  | none=>exact Nat.le_trans (errT_size (by omega)) (by omega)
  | some f=>
   dsimp only
   have h1:=deed_sz hf ws s hk
   have h2:=deed_ok hf ws s
   cases hr:(deedP f ws s).1 with
   | inl t=>exact h1 t hr
   | inr n=>exact Nat.le_trans (errT_size (h2 n hr)) (by omega)
def runP:List ByteArray→Wd→Wd
 | [],s=>s
 | x :: t,s=>runP t (lineR x s).2
def outP:List ByteArray→Wd→List UInt8
 | [],_=>[]
 | x :: t,s=>(lineP x s).data.toList++10 :: outP t (lineR x s).2
def costs:List ByteArray→Nat
 | []=>0
 | x :: t=>costL x+costs t
theorem run_snoc(x:ByteArray):∀ (l:List ByteArray) (s:Wd),runP (l++[x]) s=(lineR x (runP l s)).2
 | [],_=>rfl
 | y :: t,s=>run_snoc x t (lineR y s).2
theorem out_snoc(x:ByteArray):∀ (l:List ByteArray) (s:Wd),outP (l++[x]) s=outP l s++(lineP x (runP l s)).data.toList++[10]
 | [],s=>by simp[outP,runP]
 | y :: t,s=>by
  show (lineP y s).data.toList++10 :: outP (t++[x]) (lineR y s).2=_
  rw[out_snoc x t]
  simp[outP,runP]
theorem costs_snoc(x:ByteArray):∀ (l:List ByteArray),costs (l++[x])=costs l+costL x
 | []=>by simp[costs]
 | y :: t=>by
  show costL y+costs (t++[x])=_
  rw[costs_snoc x t]
  simp only[costs]
  omega
theorem run_el:∀ (l:List ByteArray) (s:Wd),el (runP l s)≤el s+l.length
 | [],_=>Nat.le_refl _
 | y :: t,s=>by
  have h1:=run_el t (lineR y s).2
  have h2:=line_el y s
  simp only[runP,List.length_cons]
  omega
end Wld
end
section
namespace Wld
open Go.RowKit Go.Maps Go.Shelf
open Cache (tp row_kept row_below)
theorem WdIs.footLt{w:World}{A:Wa}{s:Wd}(h:WdIs w A s){k:Nat}(f:wfoot w A s k):k<w.heap.size:=by
 rcases f with f|f|⟨v,f1,f2⟩|⟨i,hi,f⟩|⟨i,hi,f⟩|⟨f1,f2⟩
 ·rw[f];exact h.lt
 ·rw[f];exact h.gt.lt
 ·obtain⟨v',hv',hr⟩:=h.evs
  rw[f1] at hv'
  injection hv' with hv'
  subst hv'
  exact(World.ownsRow.lt hr k f2).2
 ·rw[f];exact(h.cli i hi).isC.lt
 ·rw[f];exact(h.cli i hi).seen.elim fun _ q=>World.ownsMap.lt q.1
 ·obtain⟨v,hv⟩:=Option.isSome_iff_exists.1 f1
  have u:=h.up v hv
  exact u.sv.footLt f2
theorem Ds.other{B N d:Nat}{M:Value}{w w':World}{A:Wa}{s:Wd}{C:Nat}(h:Ds B N d M w A s C)(hb:Below N w w')(o:∀ y,N≤y→y<w.heap.size→¬ Off w y→w'.heap[y]?=w.heap[y]?):Ds B N d M w' A s C:=by
 have od:∀ y,y<N→w'.heap[y]?=w.heap[y]?:=fun y hy=>hb.block y hy
 obtain⟨x,y⟩:=h.dk.wd.aside (w':=w') hb.size (fun y hy=>by
  rcases hy with q|q
  ·exact o y (h.low y q) (h.dk.wd.footLt q) (h.dk.wd.notOff q)
  ·rcases Nat.lt_or_ge y N with k|k
   ·exact od y k
   ·exact o y k q.lt (q.notOff rfl))
 have e:∀ j,w'.cell? ⟨d,j,none⟩=w.cell? ⟨d,j,none⟩:=fun j=>World.cell?_of_block (a:=⟨d,j,none⟩) (od d h.dN)
 exact⟨⟨h.dk.typ.same (od d h.dN),(e 0).trans h.dk.c0,(e 1).trans h.dk.c1,x⟩,fun j=>(World.frozen?_of_block (a:=⟨d,j,none⟩) (od d h.dN)).trans (h.fro j),fun k hk=>h.low k (y k hk),h.base.below (hb.mono (by have:=h.bd;have:=h.dN;omega)),h.bd,h.dN,Nat.le_trans h.nw hb.size,h.num,h.rk,h.em⟩
structure Jb(w0:World)(B N d m pd b pS pE pV:Nat)(rest:ByteArray)(s:Wd)(C:Nat)(out:List UInt8)(W:World):Prop where
 ds:∃ A,Ds B N d (.map (some m)) W A s C
 dm:DeedsIs W m d
 mN:m<N
 md:m≠d
 w0d:w0.heap.size≤d
 bl:Below w0.heap.size w0 W
 bu:Lib.IsBuilderF 97 5 N b (Lib.byteCells out) W
 hd:W.heap[pd]?=some (.cells #[tp d] 93 (0,0))
 hS:W.heap[pS]?=some (.cells #[.string rest] 9 (0,0))
 hE:W.heap[pE]?=some (.cells #[.string ⟨#[10]⟩] 9 (0,0))
 hV:W.heap[pV]?=some (.cells #[.int .i64 0] 3 (0,0))
 SE:pS≠pE
 Nd:N≤pd
 NS:N≤pS
 NE:N≤pE
 NV:N≤pV
theorem builder_same{T e B b:Nat}{bs:List Value}{w w':World}(h:Lib.IsBuilderF T e B b bs w)(hb:w'.heap[b]?=w.heap[b]?)(hr:∀ (g:Nat) (c:Array Value) (f:Nat×Nat),w.heap[g]?=some (.cells c e f)→w'.heap[g]?=w.heap[g]?):Lib.IsBuilderF T e B b bs w':=by
 have k:∀ p,Lib.BuilderAtF T e B b p bs w→Lib.BuilderAtF T e B b p bs w':=fun p q=>by
  obtain⟨h1,v,h2,⟨h3,h4⟩,h5⟩:=q
  refine⟨h1,v,hb.trans h2,⟨h3,?_⟩,h5⟩
  rcases h4 with h4|⟨g,cap,cur,fz,e1,e2,e3,rest⟩
  ·exact .inl h4
  ·exact .inr ⟨g,cap,cur,fz,e1,e2,(hr _ _ _ e3).trans e3,rest⟩
 exact h.elim (fun q=>.inl (k _ q)) (fun q=>.inr (k _ q))
theorem builder_off{T e B b:Nat}{bs:List Value}{w:World}(h:Lib.IsBuilderF T e B b bs w)(hT:ownT T=false):Off w b∧B≤b∧∃ c f,w.heap[b]?=some (.cells c T f):=by
 have k:∀ p,Lib.BuilderAtF T e B b p bs w→Off w b∧B≤b∧∃ c f,w.heap[b]?=some (.cells c T f):=fun p q=>by
  obtain⟨h1,v,h2,_⟩:=q
  exact⟨⟨_,h2,by simp[offK,hT]⟩,h1,_,_,h2⟩
 exact h.elim (fun q=>k _ q) (fun q=>k _ q)
variable {w0:World} {B N d m pd b pS pE pV:Nat} {rest:ByteArray} {s s':Wd} {C C':Nat} {out:List UInt8} {W W':World}
theorem Jb.ans(h:Jb w0 B N d m pd b pS pE pV rest s C out W)(hd:∃ A,Ds B N d (.map (some m)) W' A s' C')(hm:DeedsIs W' m d)(z:Dz N d W W'):Jb w0 B N d m pd b pS pE pV rest s' C' out W':=by
 have k:∀ {p:Nat} {o:Obj},W.heap[p]?=some o→offK o=true→W'.heap[p]?=some o:=fun {p o} e ho=>(z.off p ⟨o,e,ho⟩).trans e
 refine⟨hd,hm,h.mN,h.md,h.w0d,h.bl.trans (z.to (by obtain⟨A,x⟩:=h.ds;have:=x.dN;have:=h.w0d;omega) h.w0d),builder_same h.bu (z.off b (builder_off h.bu rfl).1) (fun g c f e=>z.off g ⟨_,e,rfl⟩),k h.hd rfl,k h.hS rfl,k h.hE rfl,k h.hV rfl,h.SE,h.Nd,h.NS,h.NE,h.NV⟩
theorem Jb.wrote{out':List UInt8}(h:Jb w0 B N d m pd b pS pE pV rest s C out W)(hbu:Lib.IsBuilderF 97 5 N b (Lib.byteCells out') W')(hb:Below N W W')(ho:Lib.OthersKept 5 (some b) W W'):Jb w0 B N d m pd b pS pE pV rest s C out' W':=by
 obtain⟨o1,o2,cb,fb,o3⟩:=builder_off h.bu rfl
 have k:∀ {p:Nat} {o:Obj},W.heap[p]?=some o→p≠b→(∀ c fz,o≠.cells c 5 fz)→W'.heap[p]?=some o:=fun {p o} e hp hn=>ho p o e (by intro q;injection q with q;exact hp q) hn
 have nb:∀ {p:Nat} {c:Array Value} {t:TypeId} {f:Nat×Nat},W.heap[p]?=some (.cells c t f)→t≠97→p≠b:=fun {p c t f} e ht q=>by
  subst q
  rw[o3] at e
  injection e with e
  injection e with _ e _
  exact ht e.symm
 have hds:∃ A,Ds B N d (.map (some m)) W' A s C:=by
  obtain⟨A,x⟩:=h.ds
  refine⟨A,x.other hb fun y hy hlt hno=>?_⟩
  obtain⟨o,e⟩:∃ o,W.heap[y]?=some o:=⟨_,Array.getElem?_eq_getElem hlt⟩
  rw[e]
  refine k e (fun q=>hno (by rw[q];exact o1)) (fun c fz q=>hno ⟨o,e,by rw[q];rfl⟩)
 refine⟨hds,(hb.block m h.mN).trans h.dm,h.mN,h.md,h.w0d,h.bl.trans (hb.mono (by obtain⟨A,x⟩:=h.ds;have:=x.dN;have:=h.w0d;omega)),hbu,k h.hd (nb h.hd (by decide)) (by rintro c fz q;cases q),k h.hS (nb h.hS (by decide)) (by rintro c fz q;cases q),k h.hE (nb h.hE (by decide)) (by rintro c fz q;cases q),k h.hV (nb h.hV (by decide)) (by rintro c fz q;cases q),h.SE,h.Nd,h.NS,h.NE,h.NV⟩
theorem Jb.off(h:Jb w0 B N d m pd b pS pE pV rest s C out W){p:Nat}{o:Obj}(hp:W.heap[p]?=some o)(hc:∀ c t f,o≠.cells c t f)(ho:offK o=true)(hN:N≤p)(o':Obj):Jb w0 B N d m pd b pS pE pV rest s C out (W.putObj p o'):=by
 have k:∀ y,y≠p→(W.putObj p o').heap[y]?=W.heap[y]?:=fun y hy=>World.putObj_heap_other hy
 have ne:∀ {y:Nat} {c:Array Value} {t:TypeId} {f:Nat×Nat},W.heap[y]?=some (.cells c t f)→y≠p:=fun {y c t f} e q=>by
  subst q
  rw[hp] at e
  injection e with e
  exact hc _ _ _ e
 have hb:Below N W (W.putObj p o'):=⟨rfl,rfl,rfl,by simp,fun y hy=>k y (by omega)⟩
 obtain⟨o1,o2,cb,fb,o3⟩:=builder_off h.bu rfl
 have hds:∃ A,Ds B N d (.map (some m)) (W.putObj p o') A s C:=by
  obtain⟨A,x⟩:=h.ds
  exact⟨A,x.other hb fun y hy hlt hno=>k y (by rintro rfl;exact hno ⟨o,hp,ho⟩)⟩
 exact⟨hds,(hb.block m h.mN).trans h.dm,h.mN,h.md,h.w0d,h.bl.trans (hb.mono (by obtain⟨A,x⟩:=h.ds;have:=x.dN;have:=h.w0d;omega)),builder_same h.bu (k b (ne o3)) (fun g c f e=>k g (ne e)),(k _ (ne h.hd)).trans h.hd,(k _ (ne h.hS)).trans h.hS,(k _ (ne h.hE)).trans h.hE,(k _ (ne h.hV)).trans h.hV,h.SE,h.Nd,h.NS,h.NE,h.NV⟩
theorem Jb.set(h:Jb w0 B N d m pd b pS pE pV rest s C out W)(rest':ByteArray):Jb w0 B N d m pd b pS pE pV rest' s C out (W.setCell ⟨pS,0,none⟩ (.string rest')):=by
 have k:∀ y,y≠pS→(W.setCell ⟨pS,0,none⟩ (.string rest')).heap[y]?=W.heap[y]?:=fun y hy=>Below.heap_setCell W ⟨pS,0,none⟩ _ y hy
 have ne:∀ {y:Nat} {c:Array Value} {t:TypeId} {f:Nat×Nat},W.heap[y]?=some (.cells c t f)→t≠9→y≠pS:=fun {y c t f} e ht q=>by
  subst q
  rw[h.hS] at e
  injection e with e
  injection e with _ e _
  exact ht e.symm
 have hb:Below N W (W.setCell ⟨pS,0,none⟩ (.string rest')):=(Below.refl _ _).setCell (p:=⟨pS,0,none⟩) h.NS _
 obtain⟨o1,o2,cb,fb,o3⟩:=builder_off h.bu rfl
 have hds:∃ A,Ds B N d (.map (some m)) (W.setCell ⟨pS,0,none⟩ (.string rest')) A s C:=by
  obtain⟨A,x⟩:=h.ds
  exact⟨A,x.other hb fun y hy hlt hno=>k y (by rintro rfl;exact hno ⟨_,h.hS,rfl⟩)⟩
 exact⟨hds,(hb.block m h.mN).trans h.dm,h.mN,h.md,h.w0d,h.bl.trans (hb.mono (by obtain⟨A,x⟩:=h.ds;have:=x.dN;have:=h.w0d;omega)),builder_same h.bu (k b (ne o3 (by decide))) (fun g c f e=>k g (ne e (by decide))),(k _ (ne h.hd (by decide))).trans h.hd,by
  have:=heap_setCell_same W pS 0 #[.string rest] 9 (.string rest') h.hS
  exact this,(k _ (Ne.symm h.SE)).trans h.hE,(k _ (ne h.hV (by decide))).trans h.hV,h.SE,h.Nd,h.NS,h.NE,h.NV⟩
end Wld
end
section
namespace Wld
open Go.RowKit Go.Maps Go.Shelf
open Cache (tp row_kept row_below)
theorem wpIn_split{g:Operand}{ps:Array Tmp}{assign body:Code}{Q:Exit→Act→World→Prop}{a:Act}{W0:World}{pS pE pV:Nat}{tt:ByteArray}
  (hg:a.eval g = .func (.func 154) #[] #[.pointer (some ⟨pE,0,none⟩),.pointer (some ⟨pS,0,none⟩),.pointer (some ⟨pV,0,none⟩)]) (hps:ps.size=1) (hl:tt.size≤1000000)
  (I:ByteArray→List ByteArray→World→Prop) (h0:∀ r,I tt [] ((W0.alloc (.deferred (some []))).alloc (.loop r)))
  (hoff:∀ rest pre W r r',I rest pre W→W.heap[W0.heap.size+1]?=some (.loop r)→I rest pre (W.putObj (W0.heap.size+1) (.loop r')))
  (hset:∀ rest rest' pre W,I rest pre W→I rest' pre (W.setCell ⟨pS,0,none⟩ (.string rest')))
  (hc:∀ rest pre W,I rest pre W→W.cell? ⟨pS,0,none⟩=some (.string rest)∧W.frozen? ⟨pS,0,none⟩=false∧W.cell? ⟨pE,0,none⟩=some (.string ⟨#[10]⟩)∧W.cell? ⟨pV,0,none⟩=some (.int .i64 0))
  (a1:ByteArray→Act)
  (hassign:∀ (x:ByteArray) (W:World) (K:Act→World→Prop),K (a1 x) W→assign.wpIn (Fence.wide.inRound (W0.heap.size+1)) 3 Tryz.prog (Exit.then K (fun _ _ _=>False)) { tmps:=(ps.zip #[.string x]).foldl (fun t (p,v)=>t.setIfInBounds p v) a.tmps,defers:=[] } W)
  (hbody:∀ rest pre x W,I rest pre W→pre++[x] <+: linesB tt→(∃ r,W.heap[W0.heap.size+1]?=some (.loop r))→W.heap[W0.heap.size]?=some (.deferred (some [])) →
   body.wpIn (Fence.wide.inRound (W0.heap.size+1)) 3 Tryz.prog (fun e _ W'=>e = .normal∧I rest (pre++[x]) W'∧W'.heap[W0.heap.size+1]?=W.heap[W0.heap.size+1]?∧W'.heap[W0.heap.size]?=W.heap[W0.heap.size]?) (a1 x) W)
  (hdone:∀ rest W,I rest (linesB tt) W→W.heap[W0.heap.size]?=some (.deferred (some []))→Q .normal { a with defers:={ target:=.collected W0.heap.size,args:=#[] } :: a.defers } W) :
  (Code.rangeFunc g ps assign body).wpIn Fence.wide 5 Tryz.prog Q a W0:=by
 refine wpIn_rangeFunc ?_
 intro fn hfn
 show ∃ (l:Nat) (mark:List Deferred) (w₁:World) (d:Deferred) (w₁':World) (f:FuncId) (args:Array Value) (w₂:World),(Instr.enterLoop fn a.tmps ps assign body none).run Tryz.prog W0 = .ok (l,mark) w₁∧_
 obtain⟨rec,hrec⟩:∃ rec:LoopState→Option Code→Loop,rec=fun st pe=>{ state:=st,pending:=pe,fn,tmps:=a.tmps,params:=ps,assign,body,defers:=W0.heap.size }:=⟨_,rfl⟩
 obtain⟨W1,hW1⟩:∃ W1,(W0.alloc (.deferred (some []))).alloc (.loop (rec .ready none))=W1:=⟨_,rfl⟩
 have hL1:W1.heap[W0.heap.size+1]?=some (.loop (rec .ready none)):=by
  rw[← hW1];have:=World.alloc_heap_new (W0.alloc (.deferred (some []))) (.loop (rec .ready none));rwa [World.size_alloc] at this
 have hK1:W1.heap[W0.heap.size]?=some (.deferred (some [])):=by
  rw[← hW1];exact(Below.heap_alloc _ _ _ (by simp)).trans (World.alloc_heap_new W0 _)
 have hI1:I tt [] W1:=by rw[← hW1];exact h0 _
 refine⟨W0.heap.size+1,[{ target:=.collected W0.heap.size,args:=#[] }],W1,{ target:=.fn (.func 154) #[.pointer (some ⟨pE,0,none⟩),.pointer (some ⟨pS,0,none⟩),.pointer (some ⟨pV,0,none⟩)],args:=#[.func (.yield (W0.heap.size+1)) #[] #[]] },W1,154,
  #[.func (.yield (W0.heap.size+1)) #[] #[],.pointer (some ⟨pE,0,none⟩),.pointer (some ⟨pS,0,none⟩),.pointer (some ⟨pV,0,none⟩)],W1,?_,?_,?_,?_,fun _=>by omega,?_⟩
 ·rw[← hW1,hrec];exact run_enterLoop_outer _ _ _ _ _
 ·simp only[resolve,hg]
  simp[go_sem]
 ·intro f' hf';trivial
 ·simp[invoke,go_sem]
 ·refine(split_in (W0.heap.size+1) pS pE pV tt (fun rest pre W=>I rest pre W∧W.heap[W0.heap.size+1]?=some (.loop (rec .ready none))∧W.heap[W0.heap.size]?=some (.deferred (some []))) hl ?_ ?_ (fun rest pre W hW=>hc rest pre W hW.1) W1 ⟨hI1,hL1,hK1⟩).mono ?_
  ·rintro rest pre x W ⟨hi,hl2,hk⟩ hpre
   have hlt:W0.heap.size+1<W.heap.size:=(Array.getElem?_eq_some_iff.1 hl2).1
   have hy:=run_yield (P:=Tryz.prog) (args:=#[.string x]) hl2 (by rw[hrec];exact hps.symm)
   rw[hrec] at hy
   refine⟨fn,_,assign,body,hy,roundIn_of_wpIn hfn (hassign x W _ ?_)⟩
   clear hy
   refine⟨_,run_beginRound hl2 (by rw[hrec]),?_⟩
   have hl3:(W.putObj (W0.heap.size+1) (.loop { rec .ready none with state:=.busy })).heap[W0.heap.size+1]?=some (.loop { rec .ready none with state:=.busy }):=World.putObj_heap_same hlt
   have hk3:(W.putObj (W0.heap.size+1) (.loop { rec .ready none with state:=.busy })).heap[W0.heap.size]?=some (.deferred (some [])):=(World.putObj_heap_other (by omega)).trans hk
   refine wpIn_mono (hbody rest pre x _ (hoff _ _ _ _ _ hi hl2) hpre ⟨_,hl3⟩ hk3) ?_
   rintro e a3 W3 ⟨rfl,hi3,e1,e2⟩
   have hl4:=e1.trans hl3
   have hr:=run_endRound (P:=Tryz.prog) none hl4
   refine⟨_,_,hr,rfl,hoff _ _ _ _ _ hi3 hl4,?_,?_⟩
   ·rw[World.putObj_heap_same (Array.getElem?_eq_some_iff.1 hl4).1,hrec]
    rfl
   ·exact(World.putObj_heap_other (by omega)).trans (e2.trans hk3)
  ·rintro rest rest' pre W ⟨hi,hl2,hk⟩
   have hcl:=(hc _ _ _ hi).1
   have hne:∀ p,(∃ o,W.heap[p]?=some o∧∀ c t f,o≠.cells c t f)→p≠pS:=fun p hp e=>by
    obtain⟨o,ho,hn⟩:=hp
    subst e
    unfold World.cell? at hcl
    rw[ho] at hcl
    cases o<;>first|(exact hn _ _ _ rfl)|cases hcl
   exact⟨hset _ _ _ _ hi,(Below.heap_setCell W ⟨pS,0,none⟩ _ _ (hne _ ⟨_,hl2,by rintro c t f q;cases q⟩)).trans hl2,(Below.heap_setCell W ⟨pS,0,none⟩ _ _ (hne _ ⟨_,hk,by rintro c t f q;cases q⟩)).trans hk⟩
  ·rintro e W2 ⟨⟨v,rfl⟩,rest,hi,hl2,hk⟩
   refine⟨none,_,(by have:=run_endLoop (P:=Tryz.prog) hl2 (by rw[hrec];simp);rw[hrec] at this;exact this),?_⟩
   exact hdone rest _ (hoff _ _ _ _ _ hi hl2) ((World.putObj_heap_other (by omega)).trans hk)
end Wld
end
end Go.Proofs.YtbebfliimjjohabGreatDoor
