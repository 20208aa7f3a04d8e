/- Parts of the proof. -/
import Derived.Test.YtbebfliimjjohabGreatDoorLd47
set_option maxRecDepth 100000
set_option maxHeartbeats 8000000
namespace Go.Proofs.YtbebfliimjjohabGreatDoor
section
namespace Wld
open Go.RowKit Go.Maps Go.Shelf
open Cache (tp row_kept row_below)
def trimT(text:ByteArray):ByteArray:=⟨(Lib.trimSuffix text.data.toList [10]).toArray⟩
def sessP(text:ByteArray):ByteArray:=if 20000<text.size then errT 4++⟨#[10]⟩ else ⟨(outP (linesB (trimT text)) s0).toArray⟩
theorem trim_size(text:ByteArray):(trimT text).size≤text.size:=by
 unfold trimT Lib.trimSuffix
 show (if Lib.hasSuffix text.data.toList [10]=true then text.data.toList.take (text.data.toList.length-[10].length) else text.data.toList).toArray.size≤_
 rw[List.size_toArray]
 split
 ·rw[List.length_take,Array.length_toList]
  exact Nat.le_trans (Nat.min_le_right _ _) (Nat.le_refl _)
 ·rw[Array.length_toList]
  exact Nat.le_refl _
theorem splitSeq_any(t sep:ByteArray)(w:World) :
  Calls Tryz.prog 98 #[.string t,.string sep,.int .i64 0] w fun e w'=>e = .returned (.func (.func 154) #[] #[.pointer (some ⟨w.heap.size+1,0,none⟩),.pointer (some ⟨w.heap.size,0,none⟩),.pointer (some ⟨w.heap.size+2,0,none⟩)])∧w'=((w.alloc (.cells #[.string t] 9)).alloc (.cells #[.string sep] 9)).alloc (.cells #[.int .i64 0] 3):=by
 have hmf:∀ (fn:Fn) (first cap:Array Value) (w:World),(Instr.makeFunc fn first cap).run Tryz.prog w = .ok (.func fn first cap) w:=fun _ _ _ _=>rfl
 go_enter Tryz.func98,Tryz.ntmps98
 go_wp2
 go_ret
 exact⟨rfl,rfl⟩
theorem SplitSeq_any(t sep:ByteArray)(w:World) :
  Calls Tryz.prog 46 #[.string t,.string sep] w fun e w'=>e = .returned (.func (.func 154) #[] #[.pointer (some ⟨w.heap.size+1,0,none⟩),.pointer (some ⟨w.heap.size,0,none⟩),.pointer (some ⟨w.heap.size+2,0,none⟩)])∧w'=((w.alloc (.cells #[.string t] 9)).alloc (.cells #[.string sep] 9)).alloc (.cells #[.int .i64 0] 3):=by
 have hs:=splitSeq_any t sep w
 go_enter Tryz.func46,Tryz.ntmps46
 go_wp2_with fail
 refine hs.mono ?_
 rintro e w' ⟨rfl,hw⟩
 rw[hw]
 clear hs hw
 go_wp2_with fail
 go_ret
 exact⟨rfl,rfl⟩
theorem alloc5(w:World)(o1 o2 o3 o4 o5:Obj):(((((w.alloc o1).alloc o2).alloc o3).alloc o4).alloc o5).heap[w.heap.size]?=some o1∧(((((w.alloc o1).alloc o2).alloc o3).alloc o4).alloc o5).heap[w.heap.size+1]?=some o2∧(((((w.alloc o1).alloc o2).alloc o3).alloc o4).alloc o5).heap[w.heap.size+2]?=some o3∧(((((w.alloc o1).alloc o2).alloc o3).alloc o4).alloc o5).heap[w.heap.size+3]?=some o4∧(((((w.alloc o1).alloc o2).alloc o3).alloc o4).alloc o5).heap[w.heap.size+4]?=some o5∧(((((w.alloc o1).alloc o2).alloc o3).alloc o4).alloc o5).heap.size=w.heap.size+5∧Below w.heap.size w (((((w.alloc o1).alloc o2).alloc o3).alloc o4).alloc o5):=by
 have e:∀ (v:World) (o:Obj),(v.alloc o).heap=v.heap.push o:=fun _ _=>rfl
 refine⟨?_,?_,?_,?_,?_,?_,(((((Below.refl _ _).alloc (Nat.le_refl _) _).alloc (by simp) _).alloc (by simp only[World.size_alloc];omega) _).alloc (by simp only[World.size_alloc];omega) _).alloc (by simp only[World.size_alloc];omega) _⟩
 all_goals simp only[e,Array.getElem?_push,Array.size_push]
 ·rw[if_neg (by omega),if_neg (by omega),if_neg (by omega),if_neg (by omega)]
  simp
 ·rw[if_neg (by omega),if_neg (by omega),if_neg (by omega)]
  simp
 ·rw[if_neg (by omega),if_neg (by omega)]
  simp
 ·rw[if_neg (by omega)]
  simp
 ·simp
theorem prefix_costs{l l':List ByteArray}(h:l <+: l'):costs l≤costs l':=by
 obtain⟨t,rfl⟩:=h
 induction l with
 | nil=>exact Nat.zero_le _
 | cons x r ih=>
  show costL x+costs r≤costL x+costs (r++t)
  omega
theorem Jb.below{w0:World}{B N d m pd b pS pE pV:Nat}{rest:ByteArray}{s:Wd}{C:Nat}{out:List UInt8}{W W':World}(h:Jb w0 B N d m pd b pS pE pV rest s C out W)(hb:Below W.heap.size W W'):Jb w0 B N d m pd b pS pE pV rest s C out W':=by
 obtain⟨A,x⟩:=h.ds
 obtain⟨y,z⟩:=x.below hb
 exact h.ans ⟨A,y⟩ (h.dm.dz z h.mN h.md) z
theorem cells_at{w:World}{b:Nat}{cs:Array Value}{t:TypeId}(h:w.heap[b]?=some (.cells cs t (0,0)))(v:Value)(hv:cs[0]?=some v):w.cell? ⟨b,0,none⟩=some v∧w.frozen? ⟨b,0,none⟩=false:=by
 refine⟨?_,?_⟩
 ·simp[World.cell?,h,hv]
 ·simp[World.frozen?,h]
theorem byte_app(a b:List UInt8):Lib.byteCells (a++b)=Lib.byteCells a++Lib.byteCells b:=by
 unfold Lib.byteCells
 exact List.map_append
theorem byte_len(a:List UInt8):(Lib.byteCells a).length=a.length:=by
 unfold Lib.byteCells
 exact List.length_map _
def Ir(w0:World)(B N d m pd b pS pE pV:Nat)(rest:ByteArray)(pre:List ByteArray)(W:World):Prop:=Jb w0 B N d m pd b pS pE pV rest (runP pre s0) (costs pre) (outP pre s0) W∧(outP pre s0).length≤pre.length*11000000
attribute [local go_sem] Oper.semAt_some
theorem session_short(B:Nat)(text:ByteArray)(w:World)(h:Base B w)(hl:text.size≤20000)(hcost:costs (linesB (trimT text))≤800000000) :
  Calls Tryz.prog 19 #[.string text] w fun e w'=>e = .returned (.string (sessP text))∧Below w.heap.size w w':=by
 have e:sessP text=⟨(outP (linesB (trimT text)) s0).toArray⟩:=if_neg (by omega)
 rw[e]
 clear e
 have htr:=trim_size text
 have hts:=fun w=>(callsIn_wide (n:=4)).2 (Tryz.strings_TrimSuffix text ⟨#[10]⟩ w (by omega))
 have hts:∀ w,CallsIn Fence.wide 4 Tryz.prog 47 #[.string text,.string ⟨#[10]⟩] w fun e w'=>e = .returned (.string (trimT text))∧w'=w:=hts
 generalize trimT text=tt at *
 have hop:=(callsIn_wide (n:=4)).2 (openD_any B w h)
 have hgt:¬ (20000:Int)<(text.size:Int):=by omega
 refine(callsIn_wide (n:=5)).1 ?_
 refine callsIn_of_wp_marks Tryz.func19 rfl trivial ?_ rfl
 simp only[Tryz.ntmps19,List.size_toArray,List.length_cons,List.length_nil,Nat.reduceAdd,Nat.reduceSub,Array.replicate_succ,Array.replicate_zero,List.push_toArray,List.append_toArray,List.nil_append,List.cons_append]
 gi_wp2
 refine⟨trivial,hop.mono ?_⟩
 rintro e w1 ⟨A,rfl,hD,hM,hb1⟩
 have HD:Hid (Ds B (w.heap.size+2) w.heap.size (.map (some (w.heap.size+1))) w1 A s0 0):=hD
 have HM:Hid (DeedsIs w1 (w.heap.size+1) w.heap.size):=hM
 clear hop hD hM
 gi_wp2
 refine⟨trivial,(hts _).mono ?_⟩
 rintro e w2 ⟨rfl,hw2⟩
 rw[hw2]
 clear hw2 hts
 gi_wp2
 refine⟨trivial,((callsIn_wide (n:=4)).2 (SplitSeq_any tt ⟨#[10]⟩ _)).mono ?_⟩
 rintro e w2 ⟨rfl,hw2⟩
 rw[hw2]
 clear hw2
 gi_wp2
 simp only[Nat.add_assoc,Nat.reduceAdd]
 obtain⟨a1,a2,a3,a4,a5,a6,a7⟩:=alloc5 w1 (.cells #[.pointer (some ⟨w.heap.size,0,none⟩)] 93) (.cells #[.pointer none,.slice none 0 0] 97) (.cells #[.string tt] 9) (.cells #[.string ⟨#[10]⟩] 9) (.cells #[.int .i64 0] 3)
 obtain⟨W0,hW0⟩:∃ W0,((((w1.alloc (.cells #[.pointer (some ⟨w.heap.size,0,none⟩)] 93)).alloc (.cells #[.pointer none,.slice none 0 0] 97)).alloc (.cells #[.string tt] 9)).alloc (.cells #[.string ⟨#[10]⟩] 9)).alloc (.cells #[.int .i64 0] 3)=W0:=⟨_,rfl⟩
 rw[hW0] at a1 a2 a3 a4 a5 a6 a7
 rw[hW0]
 clear hW0
 have hn1:w.heap.size+2≤w1.heap.size:=HD.out.nw
 have hJ0:Jb w B (w.heap.size+2) w.heap.size (w.heap.size+1) w1.heap.size (w1.heap.size+1) (w1.heap.size+2) (w1.heap.size+3) (w1.heap.size+4) tt s0 0 [] W0:=by
  obtain⟨x,_⟩:=HD.out.below a7
  exact⟨⟨A,x⟩,(a7.block _ (by omega)).trans HM.out,by omega,by omega,Nat.le_refl _,hb1.trans (a7.mono hb1.size),.inl ⟨by omega,_,a2,World.ownsRowF_nil _ _ _ _,by simp[Value.ownBlock]⟩,a1,a3,a4,a5,by omega,by omega,by omega,by omega,by omega⟩
 have HJ0:Hid (Jb w B (w.heap.size+2) w.heap.size (w.heap.size+1) w1.heap.size (w1.heap.size+1) (w1.heap.size+2) (w1.heap.size+3) (w1.heap.size+4) tt s0 0 [] W0):=hJ0
 clear a1 a2 a3 a4 a5 a7 HD HM hJ0 hb1
 have hn2:w.heap.size+2≤W0.heap.size:=by omega
 clear a6
 generalize w1.heap.size=n1 at *
 have HOF:Hid (∀ W rest pre p o o',Ir w B (w.heap.size+2) w.heap.size (w.heap.size+1) n1 (n1+1) (n1+2) (n1+3) (n1+4) rest pre W→W.heap[p]?=some (.loop o)→w.heap.size+2≤p→Ir w B (w.heap.size+2) w.heap.size (w.heap.size+1) n1 (n1+1) (n1+2) (n1+3) (n1+4) rest pre (W.putObj p (.loop o'))):=fun W rest pre p o o' hi hp hN=>⟨hi.1.off hp (by rintro c t f q;cases q) rfl hN _,hi.2⟩
 refine wpIn_split (pS:=n1+2) (pE:=n1+3) (pV:=n1+4) (tt:=tt) rfl rfl (by omega) (Ir w B (w.heap.size+2) w.heap.size (w.heap.size+1) n1 (n1+1) (n1+2) (n1+3) (n1+4)) ?h0 ?hoff ?hset ?hc
  (fun x=>{ tmps:=#[Value.string text,undef,Value.string ⟨#[]⟩,Value.pointer (some ⟨n1,0,none⟩),Value.pointer (some ⟨n1+1,0,none⟩),Value.string x,Value.string text,Value.int IntKind.i64 text.size,Value.bool false,undef,undef,tp w.heap.size,Value.string text,Value.string tt,Value.func (Fn.func 154) #[] #[Value.pointer (some ⟨n1+3,0,none⟩),Value.pointer (some ⟨n1+2,0,none⟩),Value.pointer (some ⟨n1+4,0,none⟩)],Value.string x,undef,undef,undef,undef,undef,undef],defers:=[] }) ?hassign ?hbody ?hdone
 case h0=>exact fun r=>⟨HJ0.out.below (((Below.refl _ _).alloc (Nat.le_refl _) _).alloc (by simp) _),Nat.zero_le _⟩
 case hoff=>exact fun rest pre W r r' hi hp=>HOF.out W rest pre _ r r' hi hp (by omega)
 case hset=>exact fun rest rest' pre W hi=>⟨hi.1.set rest',hi.2⟩
 case hc=>
  intro rest pre W hi
  obtain⟨e1,e2⟩:=cells_at hi.1.hS _ rfl
  exact⟨e1,e2,(cells_at hi.1.hE _ rfl).1,(cells_at hi.1.hV _ rfl).1⟩
 case hassign=>
  intro x W K hK
  gi_wp2
  exact hK
 case hbody=>
  intro rest pre x W hi hpre hlp hdf
  obtain⟨hJ,hln⟩:=hi
  obtain⟨Ax,hDs⟩:=hJ.ds
  have hxs:x.size≤tt.size:=lines_size (hpre.subset (List.mem_append_right _ List.mem_cons_self))
  have hco:costs pre+costL x≤800000000:=by
   have:=prefix_costs hpre
   rw[costs_snoc] at this
   omega
  have hpl:pre.length≤20001:=by
   have h1:=hpre.length_le
   have h2:=lines_len tt
   rw[List.length_append] at h1
   omega
  have hans:=(callsIn_wide (n:=2)).2 (answerD_any B (w.heap.size+2) w.heap.size (w.heap.size+1) W Ax (runP pre s0) (costs pre) x hDs hJ.dm hJ.mN hJ.md (by omega) hco)
  have hsz:=line_sz x (runP pre s0) hDs.bk
  have hel:=run_el pre s0
  have hel0:el s0=0:=rfl
  have c0:=(cells_at hJ.hd _ rfl).1
  have hs2:(lineP x (runP pre s0)).size≤10600000:=by omega
  have hlen:(outP pre s0).length≤220011000000:=by omega
  have HJ:Hid (Jb w B (w.heap.size+2) w.heap.size (w.heap.size+1) n1 (n1+1) (n1+2) (n1+3) (n1+4) rest (runP pre s0) (costs pre) (outP pre s0) W):=hJ
  have HLN:Hid ((outP (pre++[x]) s0).length≤(pre++[x]).length*11000000):=by
   unfold Hid
   have e1:(outP (pre++[x]) s0).length=(outP pre s0).length+(lineP x (runP pre s0)).size+1:=by
    rw[out_snoc,List.length_append,List.length_append]
    rfl
   have e2:(pre++[x]).length=pre.length+1:=by rw[List.length_append];rfl
   rw[e1,e2,Nat.succ_mul]
   omega
  have HDF:Hid (W.heap[W0.heap.size]?=some (.deferred (some []))):=hdf
  have HLP:Hid (∃ r,W.heap[W0.heap.size+1]?=some (.loop r)):=hlp
  clear hJ hDs hln hpre hlp hdf hel hel0 hsz hco hxs hpl
  gi_wp2
  refine⟨trivial,(CallsIn.inRound (W0.heap.size+1) hans).mono ?_⟩
  rintro e W2 ⟨rfl,A2,hD2,hM2,z2⟩
  rw[← run_snoc,← costs_snoc] at hD2
  have hA2:∃ A,Ds B (w.heap.size+2) w.heap.size (.map (some (w.heap.size+1))) W2 A (runP (pre++[x]) s0) (costs (pre++[x])):=⟨A2,hD2⟩
  have hJ2:=HJ.out.ans hA2 hM2 z2
  have hl2:W2.heap[W0.heap.size+1]?=W.heap[W0.heap.size+1]?:=by
   obtain⟨r,hr⟩:=HLP.out
   exact z2.off _ ⟨_,hr,rfl⟩
  have hd2:W2.heap[W0.heap.size]?=W.heap[W0.heap.size]?:=z2.off _ ⟨_,HDF.out,rfl⟩
  obtain⟨t,ht⟩:∃ t,lineP x (runP pre s0)=t:=⟨_,rfl⟩
  have HT:Hid (lineP x (runP pre s0)=t):=ht
  rw[ht] at hs2 ⊢
  have hN2:w.heap.size+2≤W2.heap.size:=by obtain⟨A2,x2⟩:=hA2;exact x2.nw
  have hws:=(callsIn_wide (n:=2)).2 (writeString_any (w.heap.size+2) (n1+1) (Lib.byteCells (outP pre s0)) t W2 hJ2.bu (by rw[byte_len];omega) hN2)
  have HJ2:Hid (Jb w B (w.heap.size+2) w.heap.size (w.heap.size+1) n1 (n1+1) (n1+2) (n1+3) (n1+4) rest (runP (pre++[x]) s0) (costs (pre++[x])) (outP pre s0) W2):=hJ2
  clear hans hA2 hD2 hM2 z2 hJ2 HJ ht c0
  gi_wp2
  refine⟨trivial,(CallsIn.inRound (W0.heap.size+1) hws).mono ?_⟩
  rintro e W3 ⟨rfl,hbu3,hb3,ho3⟩
  have e3:Lib.byteCells (outP pre s0)++Lib.strCells t=Lib.byteCells (outP pre s0++t.data.toList):=(byte_app _ _).symm
  rw[e3] at hbu3
  have hJ3:=HJ2.out.wrote (.inr hbu3) hb3 ho3
  have hN3:w.heap.size+2≤W3.heap.size:=Nat.le_trans hN2 hb3.size
  have hl3:W3.heap[W0.heap.size+1]?=W.heap[W0.heap.size+1]?:=by
   obtain⟨r,hr⟩:=HLP.out
   rw[hr] at hl2 ⊢
   exact ho3 _ _ hl2 (by
    intro q
    injection q with q
    have:=(builder_off HJ2.out.bu rfl).2.2
    obtain⟨c,f,k⟩:=this
    rw[q] at hl2
    rw[hl2] at k
    cases k) (by rintro c fz q;cases q)
  have hd3:W3.heap[W0.heap.size]?=W.heap[W0.heap.size]?:=by
   have hr:=HDF.out
   rw[hr] at hd2 ⊢
   exact ho3 _ _ hd2 (by
    intro q
    injection q with q
    have:=(builder_off HJ2.out.bu rfl).2.2
    obtain⟨c,f,k⟩:=this
    rw[q] at hd2
    rw[hd2] at k
    cases k) (by rintro c fz q;cases q)
  have hlen3:(Lib.byteCells (outP pre s0++t.data.toList)).length+1≤140737488355328:=by
   have e1:t.data.toList.length=t.size:=Array.length_toList
   rw[byte_len,List.length_append,e1]
   omega
  have hwb:=(callsIn_wide (n:=2)).2 (writeByte_any (w.heap.size+2) (n1+1) (Lib.byteCells (outP pre s0++t.data.toList)) 10 W3 hJ3.bu hlen3 hN3)
  have HJ3:Hid (Jb w B (w.heap.size+2) w.heap.size (w.heap.size+1) n1 (n1+1) (n1+2) (n1+3) (n1+4) rest (runP (pre++[x]) s0) (costs (pre++[x])) (outP pre s0++t.data.toList) W3):=hJ3
  clear hws hbu3 hb3 ho3 hJ3 HJ2 hl2 hd2 e3 hN2
  gi_wp2
  refine⟨trivial,(CallsIn.inRound (W0.heap.size+1) hwb).mono ?_⟩
  rintro e W4 ⟨rfl,hbu4,hb4,ho4⟩
  have e4:Lib.byteCells (outP pre s0++t.data.toList)++[.int .u8 10]=Lib.byteCells (outP (pre++[x]) s0):=by
   rw[out_snoc,HT.out,byte_app (outP pre s0++t.data.toList) [10]]
   rfl
  rw[e4] at hbu4
  have hJ4:=HJ3.out.wrote (.inr hbu4) hb4 ho4
  have hl4:W4.heap[W0.heap.size+1]?=W.heap[W0.heap.size+1]?:=by
   obtain⟨r,hr⟩:=HLP.out
   rw[hr] at hl3 ⊢
   exact ho4 _ _ hl3 (by
    intro q
    injection q with q
    have:=(builder_off HJ3.out.bu rfl).2.2
    obtain⟨c,f,k⟩:=this
    rw[q] at hl3
    rw[hl3] at k
    cases k) (by rintro c fz q;cases q)
  have hd4:W4.heap[W0.heap.size]?=W.heap[W0.heap.size]?:=by
   have hr:=HDF.out
   rw[hr] at hd3 ⊢
   exact ho4 _ _ hd3 (by
    intro q
    injection q with q
    have:=(builder_off HJ3.out.bu rfl).2.2
    obtain⟨c,f,k⟩:=this
    rw[q] at hd3
    rw[hd3] at k
    cases k) (by rintro c fz q;cases q)
  have HF:Hid (Ir w B (w.heap.size+2) w.heap.size (w.heap.size+1) n1 (n1+1) (n1+2) (n1+3) (n1+4) rest (pre++[x]) W4∧W4.heap[W0.heap.size+1]?=W.heap[W0.heap.size+1]?∧W4.heap[W0.heap.size]?=W.heap[W0.heap.size]?):=⟨⟨hJ4,HLN.out⟩,hl4,hd4⟩
  clear hwb hbu4 hb4 ho4 hJ4 HJ3 hl3 hd3 e4 hl4 hd4 hN3
  gi_wp2
  exact HF.out
 case hdone=>
  intro rest W hi hdf
  obtain⟨Ax,hDs⟩:=hi.1.ds
  have hst:=(callsIn_wide (n:=4)).2 (Tryz.Builder_String_any_k (w.heap.size+2) (n1+1) (outP (linesB tt) s0) W hi.1.bu hDs.nw)
  have HJ:Hid (Jb w B (w.heap.size+2) w.heap.size (w.heap.size+1) n1 (n1+1) (n1+2) (n1+3) (n1+4) rest (runP (linesB tt) s0) (costs (linesB tt)) (outP (linesB tt) s0) W):=hi.1
  have HDF:Hid (W.heap[W0.heap.size]?=some (.deferred (some []))):=hdf
  have HN:Hid (w.heap.size+2≤W.heap.size∧w.heap.size≤W0.heap.size):=⟨hDs.nw,by omega⟩
  clear hi hDs hdf
  gi_wp2
  refine⟨trivial,hst.mono ?_⟩
  rintro e W2 ⟨rfl,hbu2,hb2,ho2⟩
  have hd2:W2.heap[W0.heap.size]?=some (.deferred (some [])):=ho2 _ _ HDF.out (by
    intro q
    injection q with q
    have:=(builder_off HJ.out.bu rfl).2.2
    obtain⟨c,f,k⟩:=this
    have hdf:=HDF.out
    rw[q] at hdf
    rw[hdf] at k
    cases k) (by rintro c fz q;cases q)
  have HB:Hid (Below w.heap.size w (W2.putObj W0.heap.size (.deferred none))):=by
   have h1:=HJ.out.bl.trans (hb2.mono (by omega))
   exact⟨h1.os,h1.tape,h1.output,by simpa using h1.size,fun k hk=>(World.putObj_heap_other (by have:=HN.out.2;omega)).trans (h1.block k hk)⟩
  clear hst hbu2 hb2 ho2 HJ HDF
  gi_wp2
  refine⟨by simp,.inl ⟨_,_,rfl,run_takeDeferred hd2,?_⟩⟩
  exact⟨_,results_tmp rfl _ _ _,rfl,HB.out⟩
end Wld
end
section
namespace Wld
open Go.RowKit Go.Maps Go.Shelf
def calmQ:ByteArray:=⟨#[119,114,105,116,101,32,48,32,49,32,97,10,99,97,108,109,32,51,48,10,114,101,97,100,32,49,32,49,10,99,97,108,109,32,49,10,99,97,108,108,115,10,120,10]⟩
def calmR:ByteArray:=⟨#[119,114,105,116,101,10,99,97,108,109,10,114,101,97,100,10,99,97,108,109,10,119,114,105,116,101,32,48,32,49,32,97,32,49,44,32,114,101,97,100,32,49,32,49,32,97,32,49,10,101,114,114,111,114,32,51,10]⟩
theorem calm_is:sessP calmQ=calmR:=by kernel_rfl
theorem costs_le:∀ l:List ByteArray,costs l≤514286*(l.map fun x=>x.size+1).sum
 | []=>Nat.zero_le _
 | x :: t=>by
  have h1:=cost_le x
  have h2:=costs_le t
  show costL x+costs t≤514286*((x.size+1)+(t.map fun x=>x.size+1).sum)
  rw[Nat.mul_add]
  omega
theorem sess_costs(text:ByteArray):costs (linesB (trimT text))≤514286*(text.size+1):=by
 have h1:=costs_le (linesB (trimT text))
 rw[lines_sum] at h1
 have h2:=trim_size text
 exact Nat.le_trans h1 (Nat.mul_le_mul (Nat.le_refl _) (by omega))
theorem cut_app(b:List UInt8):∀ a:List UInt8,cutL (a++10 :: b)=cutL a++cutL b
 | []=>by simp[cutL]
 | c :: t=>by
  have ih:=cut_app b t
  show cutL (c :: (t++10 :: b))=_
  by_cases hc:c=10
  ·rw[cutL,if_pos hc,ih,cutL,if_pos hc]
   rfl
  ·rw[cutL,if_neg hc,ih,cutL,if_neg hc]
   cases ht:cutL t with
   | nil=>exact absurd ht (cutL_ne t)
   | cons x r=>rfl
theorem lines_app(a b:List UInt8):linesB ⟨(a++10 :: b).toArray⟩=linesB ⟨a.toArray⟩++linesB ⟨b.toArray⟩:=by
 unfold linesB
 show (cutL (a++10 :: b)).map _=(cutL a).map _++(cutL b).map _
 rw[cut_app,List.map_append]
theorem out_app:∀ (l l':List ByteArray) (s:Wd),outP (l++l') s=outP l s++outP l' (runP l s)
 | [],_,_=>rfl
 | x :: t,l',s=>by
  show (lineP x s).data.toList++10 :: outP (t++l') (lineR x s).2=((lineP x s).data.toList++10 :: outP t (lineR x s).2)++outP l' (runP t (lineR x s).2)
  rw[out_app t l']
  simp only[List.append_assoc,List.cons_append]
theorem trim_one(a:List UInt8):Lib.trimSuffix (a++[10]) [10]=a:=by
 have h:Lib.hasSuffix (a++[10]) [10]=true:=by simp[Lib.hasSuffix]
 unfold Lib.trimSuffix
 rw[if_pos h]
 simp
theorem trim_two(a b:List UInt8):∃ b',Lib.trimSuffix (a++10 :: b) [10]=a∨Lib.trimSuffix (a++10 :: b) [10]=a++10 :: b':=by
 unfold Lib.trimSuffix
 split
 ·rcases List.eq_nil_or_concat b with rfl|⟨t,c,rfl⟩
  ·exact⟨[],.inl (by simp)⟩
  ·refine⟨t,.inr ?_⟩
   have e:a++10 :: (t++[c])=(a++10 :: t)++[c]:=by simp
   have n:((a++10 :: t)++[c]).length-[(10:UInt8)].length=(a++10 :: t).length:=by simp
   rw[List.concat_eq_append,e,n,List.take_left']
   rfl
 ·exact⟨b,.inr rfl⟩
theorem sess_at{x y:ByteArray}(hx:x.size≤20000)(hy:y.size≤20000)(h:outP (linesB (trimT x)) s0 <+: outP (linesB (trimT y)) s0):(sessP x).data.toList <+: (sessP y).data.toList:=by
 have e1:sessP x=⟨(outP (linesB (trimT x)) s0).toArray⟩:=if_neg (by omega)
 have e2:sessP y=⟨(outP (linesB (trimT y)) s0).toArray⟩:=if_neg (by omega)
 rw[e1,e2]
 exact h
theorem sess_pre(a b:ByteArray)(h:(a++⟨#[10]⟩++b).size≤20000):(sessP (a++⟨#[10]⟩)).data.toList <+: (sessP (a++⟨#[10]⟩++b)).data.toList:=by
 have ea:(a++⟨#[10]⟩:ByteArray).data.toList=a.data.toList++[10]:=by simp[ByteArray.data_append]
 have eb:(a++⟨#[10]⟩++b:ByteArray).data.toList=a.data.toList++10 :: b.data.toList:=by simp[ByteArray.data_append]
 have hs:(a++⟨#[10]⟩:ByteArray).size≤20000:=by
  have:=ByteArray.size_append (a:=a++⟨#[10]⟩) (b:=b)
  omega
 refine sess_at hs h ?_
 unfold trimT
 rw[ea,eb,trim_one]
 obtain⟨b',e|e⟩:=trim_two a.data.toList b.data.toList
 ·rw[e]
  exact List.prefix_refl _
 ·rw[e,lines_app,out_app]
  exact List.prefix_append _ _
theorem session_any(B:Nat)(text:ByteArray)(w:World)(h:Base B w)(hs:text.size≤1502) :
  Calls Tryz.prog 19 #[.string text] w fun e w'=>e = .returned (.string (sessP text))∧Below w.heap.size w w':=by
 have hc:=sess_costs text
 exact session_short B text w h (by omega) (by omega)
theorem calmK_any(B:Nat)(w:World)(h:Base B w):Calls Tryz.prog 18 #[] w fun e w'=>e = .returned (.bool true)∧Below w.heap.size w w':=by
 have hs0:=session_any B calmQ w h (by decide)
 rw[calm_is] at hs0
 have hs:Calls Tryz.prog 19 #[.string ⟨#[119,114,105,116,101,32,48,32,49,32,97,10,99,97,108,109,32,51,48,10,114,101,97,100,32,49,32,49,10,99,97,108,109,32,49,10,99,97,108,108,115,10,120,10]⟩] w fun e w'=>e = .returned (.string ⟨#[119,114,105,116,101,10,99,97,108,109,10,114,101,97,100,10,99,97,108,109,10,119,114,105,116,101,32,48,32,49,32,97,32,49,44,32,114,101,97,100,32,49,32,49,32,97,32,49,10,101,114,114,111,114,32,51,10]⟩)∧Below w.heap.size w w':=hs0
 clear hs0
 go_enter Tryz.func18,Tryz.ntmps18
 go_wp2_with fail
 refine hs.mono ?_
 rintro e w' ⟨rfl,hb⟩
 clear hs
 go_wp2_with fail
 go_ret
 exact⟨rfl,hb⟩
theorem extract_pre{x y:ByteArray}(h:x.data.toList <+: y.data.toList):y.extract 0 x.size=x:=by
 apply ba_ext
 obtain⟨t,ht⟩:=h
 have e:(y.extract 0 x.size).data.toList=y.data.toList.take x.size:=by simp[ByteArray.data_extract]
 rw[e,← ht,List.take_left']
 exact Array.length_toList
theorem pre_size{x y:ByteArray}(h:x.data.toList <+: y.data.toList):x.size≤y.size:=by
 have:=h.length_le
 rwa [Array.length_toList,Array.length_toList] at this
theorem pieces_long(a b:ByteArray)(w:World)(hl:1500<a.size+b.size)(hl2:a.size+b.size≤9223372036854775807) :
  Calls Tryz.prog 4 #[.string a,.string b] w fun e w'=>e = .returned (.bool true)∧Below w.heap.size w w':=by
 have hgt:(1500:Int)<(a.size:Int)+(b.size:Int):=by omega
 go_enter Tryz.func4,Tryz.ntmps4
 go_wp2_with fail
 go_ret
 exact⟨rfl,Below.refl _ _⟩
theorem pieces_short(B:Nat)(a b:ByteArray)(w:World)(h:Base B w)(hl:a.size+b.size≤1500) :
  Calls Tryz.prog 4 #[.string a,.string b] w fun e w'=>e = .returned (.bool true)∧Below w.heap.size w w':=by
 have hgt:¬ (1500:Int)<(a.size:Int)+(b.size:Int):=by omega
 have hcalm:=calmK_any B w h
 have z1:(a++⟨#[10]⟩:ByteArray).size=a.size+1:=ByteArray.size_append
 have z2:(a++⟨#[10]⟩++b:ByteArray).size=a.size+1+b.size:=by rw[ByteArray.size_append,z1]
 have hp:=sess_pre a b (by omega)
 have hex:=extract_pre hp
 have hle:=pre_size hp
 have HS1:Hid (∀ w',Below w.heap.size w w'→Calls Tryz.prog 19 #[.string (a++⟨#[10]⟩)] w' fun e w2=>e = .returned (.string (sessP (a++⟨#[10]⟩)))∧Below w'.heap.size w' w2):=fun w' hb=>session_any B _ w' (h.on hb) (by omega)
 have HS2:Hid (∀ w',Below w.heap.size w w'→Calls Tryz.prog 19 #[.string (a++⟨#[10]⟩++b)] w' fun e w2=>e = .returned (.string (sessP (a++⟨#[10]⟩++b)))∧Below w'.heap.size w' w2):=fun w' hb=>session_any B _ w' (h.on hb) (by omega)
 clear hp
 generalize sessP (a++⟨#[10]⟩)=x at *
 generalize sessP (a++⟨#[10]⟩++b)=y at *
 have g1:¬ 9223372036854775807<a.size+1:=by omega
 have g2:¬ 9223372036854775807<(a++⟨#[10]⟩:ByteArray).size+b.size:=by omega
 go_enter Tryz.func4,Tryz.ntmps4
 go_wp2_with fail
 refine hcalm.mono ?_
 rintro e w1 ⟨rfl,hb1⟩
 have HB1:Hid (Below w.heap.size w w1):=hb1
 clear hcalm hb1
 go_wp2_with fail
 refine(HS1.out w1 HB1.out).mono ?_
 rintro e w2 ⟨rfl,hb2⟩
 have HB2:Hid (Below w.heap.size w w2):=HB1.out.trans (hb2.mono HB1.out.size)
 clear HS1 HB1 hb2
 go_wp2_with fail
 refine(HS2.out w2 HB2.out).mono ?_
 rintro e w3 ⟨rfl,hb3⟩
 have HB3:Hid (Below w.heap.size w w3):=HB2.out.trans (hb3.mono HB2.out.size)
 clear HS2 HB2 hb3
 go_wp2_with fail
 go_ret
 exact⟨rfl,HB3.out⟩
end Wld
end
end Go.Proofs.YtbebfliimjjohabGreatDoor
