/- Parts of the proof. -/
import Derived.Test.YtbebfliimjjohabGreatDoorLd21
set_option maxRecDepth 100000
set_option maxHeartbeats 8000000
namespace Go.Proofs.YtbebfliimjjohabGreatDoor
section
namespace Wld
open Go.RowKit Go.Maps
open Lease (Ob I64 upd TabIs hol dels objB HasI kk mx)
open Cache (tp row_kept row_below)
open Wal (R mayB timeB)
open Num (M)
structure Wr(w wr:World)(a:Ad)(s:Sv)(o:Nat)(l0:List M)(li:List Int)(C:Nat)(vi:Value)(m:M)(k:Nat)(v:Value):Prop where
 tel:Tells w wr a v s (l0++(li.take k).map fun c=>s.invalM c o)
 box:MB wr w.heap.size m
 bl:w.heap.size<wr.heap.size
 bf:¬ foot wr a w.heap.size
 own:HasI wr C vi li
 apart:∀ g,v.ownBlock=some g→vi.ownBlock≠some g
 bapart:∀ g,v.ownBlock=some g→g≠w.heap.size
theorem writeS_any(a:Ad)(s:Sv)(mk mc mn me ms mv:Int)(o:Nat)(ml:Bool)(md:ByteArray)(now:Int)(B:Nat)(w:World)(h:SvIs w a s)(ho:o<8)(hB:SvB s B)(hBB:B≤100000000000000)(hm:okW o ⟨mk,mc,mn,me,ms,o,mv,ml,md⟩) :
  Calls Tryz.prog 186 #[tp a.S,Wire.M.agg ⟨mk,mc,mn,me,ms,o,mv,ml,md⟩,.int .i64 now] w fun e w'=>∃ v,e = .returned v∧Tells w w' a v (s.writeS ⟨mk,mc,mn,me,ms,o,mv,ml,md⟩ o now).1 (s.writeS ⟨mk,mc,mn,me,ms,o,mv,ml,md⟩ o now).2:=by
 have hc:0≤mc:=by have:=hm.2.1;simp[timeB,Num.inB] at this;omega
 have hB0:MB (mbox w mk mc mn me ms o mv ml md) w.heap.size ⟨mk,mc,mn,me,ms,o,mv,ml,md⟩:=mbox_is w _ _ _ _ _ _ _ _ _
 have F:SvIs (mbox w mk mc mn me ms o mv ml md) a s:=h.alloc _
 have hF:Fs a w (mbox w mk mc mn me ms o mv ml md):=(Fs.refl _ _).alloc h _
 have hfr:¬ foot (mbox w mk mc mn me ms o mv ml md) a w.heap.size:=h.fresh ((Below.refl _ _).alloc (Nat.le_refl _) _) (Nat.le_refl _)
 have hsz:(mbox w mk mc mn me ms o mv ml md).heap.size=w.heap.size+1:=by simp
 have ho0:(0:Int)≤(o:Int):=by omega
 have ho8:(o:Int)<8:=by omega
 have hmw0:=h.lts
 have hsl:=seatN_lt mc
 have hsl0:(0:Int)≤((seatN mc:Nat):Int):=by omega
 have hsl4:((seatN mc:Nat):Int)<4:=by omega
 have hseat:=fun w=>seat_any mc w hc
 unfold mbox at *
 unfold Wire.M.agg
 dsimp only
 clear h
 go_enter Tryz.func186,Tryz.ntmps186
 go_upto_region 1 with fail
 generalize w.alloc (.cells #[.int .i64 mk,.int .i64 mc,.int .i64 mn,.int .i64 me,.int .i64 ms,.int .i64 o,.int .i64 mv,.bool ml,.string md] 129)=w1 at *
 have b1:=hB0.c1
 dsimp only at b1
 obtain⟨l0,l1,l2,l3,l4,l5⟩:=F.lastCells hsl
 have hlt:=F.lt
 have p0:=fun ob=>(World.cell?_alloc_lt w1 ob ⟨a.S,23+seatN mc*6,none⟩ hlt).trans l0
 have p1:=fun ob=>(World.cell?_alloc_lt w1 ob ⟨a.S,23+seatN mc*6+1,none⟩ hlt).trans l1
 have p2:=fun ob=>(World.cell?_alloc_lt w1 ob ⟨a.S,23+seatN mc*6+2,none⟩ hlt).trans l2
 have p3:=fun ob=>(World.cell?_alloc_lt w1 ob ⟨a.S,23+seatN mc*6+3,none⟩ hlt).trans l3
 have p4:=fun ob=>(World.cell?_alloc_lt w1 ob ⟨a.S,23+seatN mc*6+4,none⟩ hlt).trans l4
 have p5:=fun ob=>(World.cell?_alloc_lt w1 ob ⟨a.S,23+seatN mc*6+5,none⟩ hlt).trans l5
 have pb:=fun ob=>(World.cell?_alloc_lt w1 ob ⟨w.heap.size,1,none⟩ (by dsimp only;omega)).trans b1
 have hne:a.S≠w1.heap.size:=by omega
 have hne2:w.heap.size≠w1.heap.size:=by omega
 obtain⟨L,hL⟩:∃ L,s.last (seatN mc)=L:=⟨_,rfl⟩
 rw[hL] at l0 l1 l2 l3 l4 l5 p0 p1 p2 p3 p4 p5
 go_cut[7] from 11 to 18 (fun x wx=>x = .pointer (some ⟨w.heap.size+1,0,none⟩)∧wx=(w1.alloc (.cells #[.int .i64 L.c,.int .i64 L.n,.int .i64 L.o,.int .i64 L.v,.string L.d,.int .i64 L.e] 138)).drew)
 case first=>
  go_region_with (first|(go_at_call 137;refine(hseat _).mono ?_;rintro e w' ⟨rfl,rfl⟩))
  all_goals go_wp2_with fail
  all_goals go_meet
  all_goals exact⟨rfl,rfl⟩
 case rest=>
  obtain⟨rfl,hW⟩:=hcut
  have hb2:Below w1.heap.size w1 wc:=by rw[hW];exact((Below.refl _ _).alloc (Nat.le_refl _) _).drew
  have hs2:wc.heap.size=w.heap.size+2:=by rw[hW];show (w1.alloc _).heap.size=_;simp;omega
  have hX2:Wal.Bx wc (w.heap.size+1) L:=by
   rw[hW,← hsz]
   exact Wal.Bx.made w1 L _
  have F2:=F.below hb2
  have hF2:=hF.below F hb2
  have hB2:=hB0.below hb2 (by omega)
  have hfr2:¬ foot wc a w.heap.size:=fun f=>hfr ((foot_same (World.cell?_of_block (hb2.block a.U F.lts.2.1)) (fun i _=>World.cell?_of_block (hb2.block a.S F.lts.2.2.2.2.1))) f)
  have hfv2:¬ foot wc a (w.heap.size+1):=F.fresh hb2 (by omega)
  clear hW F hF hB0 hfr p0 p1 p2 p3 p4 p5 pb l0 l1 l2 l3 l4 l5 b1 hb2 hne hne2 hlt
  obtain⟨x0,x1,x2,x3,x4,x5⟩:=id hX2
  have b0:=hB2.c0
  have b1:=hB2.c1
  have b2:=hB2.c2
  have b3:=hB2.c3
  have b4:=hB2.c4
  have b5:=hB2.c5
  have b6:=hB2.c6
  have b7:=hB2.c7
  have b8:=hB2.c8
  dsimp only at b0 b1 b2 b3 b4 b5 b6 b7 b8
  by_cases hsame:mc=L.c∧mn=L.n
  ·have HE:Hid (s.writeS ⟨mk,mc,mn,me,ms,o,mv,ml,md⟩ o now=(s,[s.doneM ⟨mk,mc,mn,me,ms,o,mv,ml,md⟩ L.v])):=by
    unfold Hid Sv.writeS
    dsimp only
    rw[hL,if_pos hsame]
   have hdn:=done_any a s ⟨mk,mc,mn,me,ms,o,mv,ml,md⟩ L.v wc F2 hc
   obtain⟨mi,hmi⟩:∃ mi,s.doneM ⟨mk,mc,mn,me,ms,o,mv,ml,md⟩ L.v=mi:=⟨_,rfl⟩
   have HM:Hid (s.doneM ⟨mk,mc,mn,me,ms,o,mv,ml,md⟩ L.v=mi):=hmi
   rw[hmi] at hdn
   unfold Wire.M.agg at hdn
   dsimp only at hdn
   rw[show (.agg #[.int .i64 mi.k,.int .i64 mi.c,.int .i64 mi.n,.int .i64 mi.e,.int .i64 mi.s,.int .i64 mi.o,.int .i64 mi.v,.bool mi.l,.string mi.d]:Value)=Wire.M.agg mi from rfl] at hdn
   have g1:(mc == L.c)=true:=by simpa using hsame.1
   have g2:(mn == L.n)=true:=by simpa using hsame.2
   clear hsame hmi hL
   go_wp2_with fail
   refine hdn.mono ?_
   rintro e w3 ⟨rfl,hb3⟩
   have F3:=F2.below hb3
   have hF3:=hF2.below F2 hb3
   clear hdn F2 hF2 hB2 hX2
   go_wp2_with (refine wpList_oneMsg rfl 35 rfl mi rfl ?_)
   go_ret
   rw[HE.out,HM.out]
   exact⟨_,rfl,Tells.one mi F3 hF3⟩
  ·have HE:Hid (s.writeS ⟨mk,mc,mn,me,ms,o,mv,ml,md⟩ o now=if later mc mn L=false then (s,[]) else if (s.enq ⟨mk,mc,mn,me,ms,o,mv,ml,md⟩ o).2=false then ((s.enq ⟨mk,mc,mn,me,ms,o,mv,ml,md⟩ o).1,[]) else (s.enq ⟨mk,mc,mn,me,ms,o,mv,ml,md⟩ o).1.wrote o now):=by
    unfold Hid Sv.writeS
    dsimp only
    rw[hL,if_neg hsame]
   have hla:=later_any mc mn L wc
   have HB':=hB.enq hm
   obtain⟨x,hx⟩:∃ x,s.enq ⟨mk,mc,mn,me,ms,o,mv,ml,md⟩ o=x:=⟨_,rfl⟩
   have hen:=fun w h=>enqueue_any a s mk mc mn me ms mv o ml md w h ho x hx
   rw[hx] at HE HB'
   obtain⟨se,be⟩:=x
   dsimp only at HE HB' hen
   unfold Wire.M.agg Wal.R.agg at *
   dsimp only at hen
   go_upto_region 2 with fail
   go_cut[30] from 19 to 29 (fun x wx=>x = .bool false∧wx=wc)
   case first=>
    by_cases h1:mc=L.c
    ·have g1:(mc == L.c)=true:=by simpa using h1
     have g2:(mn == L.n)=false:=by simpa using fun q=>hsame ⟨h1,q⟩
     clear hsame h1
     go_wp2_with fail
     go_meet
     case rel=>exact⟨rfl,rfl⟩
    ·have g1:(mc == L.c)=false:=by simpa using h1
     clear hsame h1
     go_wp2_with fail
     go_meet
     case rel=>exact⟨rfl,rfl⟩
   case rest=>
    obtain⟨rfl,hwc⟩:=hcut
    rename_i wd
    subst hwc
    clear hsame hL hx
    cases hlt:later mc mn L with
    | false=>
     rw[hlt] at hla
     have HE2:Hid (s.writeS ⟨mk,mc,mn,me,ms,o,mv,ml,md⟩ o now=(s,[])):=HE.out.trans (if_pos hlt)
     go_wp2_with fail
     refine hla.mono ?_
     rintro e w3 ⟨rfl,hb3⟩
     have F3:=F2.below hb3
     have hF3:=hF2.below F2 hb3
     clear hla F2 hF2 hB2 hX2
     go_wp2_with fail
     go_ret
     rw[HE2.out]
     exact⟨_,rfl,Out.nil _ _ _,F3,hF3⟩
    | true=>
     rw[hlt] at hla
     have HE2:Hid (s.writeS ⟨mk,mc,mn,me,ms,o,mv,ml,md⟩ o now=if be=false then (se,[]) else se.wrote o now):=HE.out.trans (if_neg (by rw[hlt];decide))
     go_wp2_with fail
     refine hla.mono ?_
     rintro e w3 ⟨rfl,hb3⟩
     have hs3:=hb3.size
     have F3:=F2.below hb3
     have hF3:=hF2.below F2 hb3
     have hB3:=hB2.below hb3 (by omega)
     have hfr3:¬ foot w3 a w.heap.size:=fun f=>hfr2 ((foot_same (World.cell?_of_block (hb3.block a.U F2.lts.2.1)) (fun i _=>World.cell?_of_block (hb3.block a.S F2.lts.2.2.2.2.1))) f)
     clear hla F2 hF2 hB2 hX2 x0 x1 x2 x3 x4 x5 b0 b1 b2 b3 b4 b5 b6 b7 b8 hfr2 hfv2 hb3 HE hlt
     have b0:=hB3.c0
     have b1:=hB3.c1
     have b2:=hB3.c2
     have b3:=hB3.c3
     have b4:=hB3.c4
     have b5:=hB3.c5
     have b6:=hB3.c6
     have b7:=hB3.c7
     have b8:=hB3.c8
     dsimp only at b0 b1 b2 b3 b4 b5 b6 b7 b8
     go_wp2_with fail
     refine(hen w3 F3).mono ?_
     rintro e w4 ⟨rfl,F4,hF34⟩
     have hF4:=hF3.trans hF34
     have hB4:=hB3.fs hF34 (by omega) hfr3
     have hfr4:¬ foot w4 a w.heap.size:=fun f=>hfr3 (hF34.grows _ (by omega) f)
     have hs4:=hF34.size
     clear hen F3 hF3 hB3 hfr3 hF34 b0 b1 b2 b3 b4 b5 b6 b7 b8
     have b5:=hB4.c5
     dsimp only at b5
     cases be with
     | false=>
      have HE3:Hid (s.writeS ⟨mk,mc,mn,me,ms,o,mv,ml,md⟩ o now=(se,[])):=HE2.out.trans (if_pos rfl)
      go_wp2_with fail
      go_ret
      rw[HE3.out]
      exact⟨_,rfl,Out.nil _ _ _,F4,hF4⟩
     | true=>
      have HE3:Hid (s.writeS ⟨mk,mc,mn,me,ms,o,mv,ml,md⟩ o now=se.wrote o now):=HE2.out.trans (if_neg (by decide))
      clear HE2
      have had:=advance_any a se o now w4 F4 ho (HB'.wok o) (fun c=>by have:=HB'.ses c;omega) HB'.vv0 (fun x=>by have:=HB'.vv1 x;have:=HB'.len;omega) HB'.left0 HB'.left1
      obtain⟨HB2,hl2⟩:=HB'.advance o now
      obtain⟨HB3,hl3⟩:=HB2.awaited o now
      go_wp2_with fail
      refine had.mono ?_
      rintro e w5 ⟨v5,rfl,T5⟩
      have F5:=T5.sv
      have hF5:=hF4.trans T5.fs
      have hB5:=hB4.fs T5.fs (by omega) hfr4
      have hfr5:¬ foot w5 a w.heap.size:=fun f=>hfr4 (T5.fs.grows _ (by omega) f)
      have hs5:=T5.fs.size
      have O5:Out w w5 a v5 (se.advance o now).2:=⟨T5.out.own.mono (by omega),T5.out.sep⟩
      have hv5:∀ g,v5.ownBlock=some g→g≠w.heap.size∧g<w5.heap.size:=fun g hg=>⟨by have:=(World.ownsRow.lt T5.out.own g hg).1;omega,(World.ownsRow.lt T5.out.own g hg).2⟩
      obtain⟨av,cv,hav,hcv,_⟩:=Net.row_shape T5.out.own
      subst hav
      have haw:=awaited_any a (se.advance o now).1 o now w5 F5 ho (fun c=>by have:=HB2.ses c;omega)
      clear had F4 hF4 hB4 hfr4 T5 b5 hcv
      have b5:=hB5.c5
      dsimp only at b5
      go_wp2_with fail
      refine haw.mono ?_
      rintro e w6 ⟨vi,rfl,hI,F6,hF56⟩
      have hF6:=hF5.trans hF56
      have hB6:=hB5.fs hF56 (by omega) hfr5
      have hfr6:¬ foot w6 a w.heap.size:=fun f=>hfr5 (hF56.grows _ (by omega) f)
      have O6:=O5.fs hF56
      have hs6:=hF56.size
      clear haw F5 hF5 hB5 hfr5 b5 O5
      have HE4:Hid (s.writeS ⟨mk,mc,mn,me,ms,o,mv,ml,md⟩ o now=(((se.advance o now).1.awaited o now).1,(se.advance o now).2++((se.advance o now).1.awaited o now).2.map fun c=>((se.advance o now).1.awaited o now).1.invalM c o)):=HE3.out
      clear HE3
      obtain⟨sw,hsw⟩:∃ sw,((se.advance o now).1.awaited o now).1=sw:=⟨_,rfl⟩
      obtain⟨li,hli⟩:∃ li,((se.advance o now).1.awaited o now).2=li:=⟨_,rfl⟩
      obtain⟨l0,hl0⟩:∃ l0,(se.advance o now).2=l0:=⟨_,rfl⟩
      rw[hsw] at HB3 F6
      rw[hli] at hl3 hI
      rw[hl0] at hl2 O6 hv5
      rw[hsw,hli,hl0] at HE4
      rw[hl0]
      clear hsw hli hl0 HB2
      obtain⟨ai,ci,rfl,hcells⟩:=hI.shape
      have hsep:∀ g,(Value.slice av l0.length cv).ownBlock=some g→(Value.slice ai li.length ci).ownBlock≠some g:=fun g hg e=>by
       have q1:=(hv5 g hg).2
       have q2:=(World.ownsRow.lt hI g e).1
       omega
      have HW0:Hid (Wr w w6 a sw o l0 li w5.heap.size (.slice ai li.length ci) ⟨mk,mc,mn,me,ms,o,mv,ml,md⟩ 0 (.slice av l0.length cv)):=⟨⟨by simpa using O6,F6,hF6⟩,hB6,by omega,hfr6,hI,hsep,fun g hg=>(hv5 g hg).1⟩
      obtain⟨i0,hi,hy0,hy1,hy2⟩:=info_parts info_msg
      have hv0:=HB3.vv0 o
      have hv1:sw.vv o≤4611686018427387904:=by have:=HB3.vv1 o;have:=HB3.len;omega
      clear O6 F6 hF6 hB6 hfr6 hI hv5 hsep hF56
      go_wp2_with fail
      go_loopw [8,61] (fun v i wr=>∃ k:Nat,k≤li.length∧i = .int .i64 k∧Wr w wr a sw o l0 li w5.heap.size (.slice ai li.length ci) ⟨mk,mc,mn,me,ms,o,mv,ml,md⟩ k v) (fun _ i _=>li.length-(intOf i).toNat)
      case atStart=>exact⟨0,by omega,rfl,HW0.out⟩
      case round=>
       obtain⟨k,hk,rfl,A⟩:=hrel
       by_cases hlt2:k<li.length
       ·obtain⟨g,rfl,_⟩:=hcells (by omega)
        have hcell:wr.cell? ⟨g,k,none⟩=some (.int .i64 li[k]):=by
         have:=World.ownsRow.cellAt A.own k (by omega)
         rw[this,List.getElem?_map,List.getElem?_eq_getElem hlt2]
         rfl
        have b5:=A.box.c5
        dsimp only at b5
        have hinv:=inval_any a sw li[k] o wr A.tel.sv ho hv0 hv1
        have htk:(li.take (k+1)).map (fun c=>sw.invalM c o)=(li.take k).map (fun c=>sw.invalM c o)++[sw.invalM li[k] o]:=by
         rw[List.take_succ_eq_append_getElem hlt2,List.map_append]
         rfl
        have HT:Hid ((li.take (k+1)).map (fun c=>sw.invalM c o)=(li.take k).map (fun c=>sw.invalM c o)++[sw.invalM li[k] o]):=htk
        obtain⟨lk,hlk⟩:∃ lk,li[k]=lk:=⟨_,rfl⟩
        rw[hlk] at hcell hinv HT
        obtain⟨mi,hmi⟩:∃ mi,sw.invalM lk o=mi:=⟨_,rfl⟩
        rw[hmi] at hinv HT
        have HMI:Hid (sw.invalM lk o=mi):=hmi
        have hkI:(k:Int)<(li.length:Int):=by omega
        have HA:Hid (Wr w wr a sw o l0 li w5.heap.size (.slice (some ⟨g,0,none⟩) li.length ci) ⟨mk,mc,mn,me,ms,o,mv,ml,md⟩ k u8):=A
        obtain⟨lo,hlo⟩:∃ lo,l0++(li.take k).map (fun c=>sw.invalM c o)=lo:=⟨_,rfl⟩
        have hlol:lo.length≤14:=by rw[← hlo];simp;omega
        have HLO:Hid (l0++(li.take k).map (fun c=>sw.invalM c o)=lo):=hlo
        have O1:=A.tel.out
        have F1:=A.tel.sv
        have hF1:=A.tel.fs
        rw[hlo] at O1
        clear A htk hmi hlk hlo
        go_wp2_with fail
        refine hinv.mono ?_
        rintro e w7 ⟨rfl,hb7⟩
        have F7:=F1.below hb7
        have hF7:=hF1.below F1 hb7
        have O7:=O1.fs (Fs.of_below F1 hb7)
        have hs7:=hF7.size
        have hs17:=hb7.size
        have hbx7:=HA.out.box.below hb7 HA.out.bl
        have hI7:=HA.out.own.below hb7
        obtain⟨av8,cv8,hav8,hcv8,_⟩:=Net.row_shape O7.own
        subst hav8
        have HF17:Hid (∀ f,foot w7 a f→foot wr a f):=fun f hf=>foot_same (World.cell?_of_block (hb7.block a.U F1.lts.2.1)) (fun i _=>World.cell?_of_block (hb7.block a.S F1.lts.2.2.2.2.1)) hf
        clear hinv F1 hF1 O1 hcv8 b5 hcell hb7
        go_wp2_with (first|refine wpList_oneMsg rfl 70 rfl mi rfl ?_|(at_builtin;refine App.wpList_append_at rfl _ _ 141 rfl w.heap.size 129 i0 (.agg #[.int .i64 0,.int .i64 0,.int .i64 0,.int .i64 0,.int .i64 0,.int .i64 0,.int .i64 0,.bool false,.string ⟨#[]⟩]) 9 80 Tryz.underlying141 hi hy0 hy1 hy2 rfl (by decide) _ _ _ rfl (O7.own.alloc _) ⟨w7.heap.size,0,none⟩ 1 1 (mcell mi) rfl rfl (msg_made w7 mi) (mcell_one _) ?r3 ?r4 ?r5 ?_))
        case r3=>unfold maxLen;omega
        case r4=>omega
        case r5=>simp;omega
        intro v9 w9 hown9 hg9 hat9
        obtain⟨O9,F9,hF9⟩:=O7.app F7 hF7 hown9 hg9 hat9
        have hblk:∀ q,q<w7.heap.size→(Value.slice av8 lo.length cv8).ownBlock≠some q→w9.heap[q]?=w7.heap[q]?:=fun q hq hn=>(hg9.block q (by simp;omega) (fun e=>hn e.symm)).trans (Below.heap_alloc w7 _ q hq)
        have HW9:Hid (Wr w w9 a sw o l0 li w5.heap.size (.slice (some ⟨g,0,none⟩) li.length ci) ⟨mk,mc,mn,me,ms,o,mv,ml,md⟩ (k+1) v9):=by
         have hbl:=HA.out.bl
         have eb:=hblk w.heap.size (by omega) (fun e=>HA.out.bapart _ e rfl)
         have e:∀ j,w9.cell? ⟨w.heap.size,j,none⟩=w7.cell? ⟨w.heap.size,j,none⟩:=fun j=>World.cell?_of_block eb
         have hz9:=hg9.size
         simp at hz9
         refine⟨⟨?_,F9,hF9⟩,⟨(e _).trans hbx7.c0,(e _).trans hbx7.c1,(e _).trans hbx7.c2,(e _).trans hbx7.c3,(e _).trans hbx7.c4,(e _).trans hbx7.c5,(e _).trans hbx7.c6,(e _).trans hbx7.c7,(e _).trans hbx7.c8⟩,by omega,fun f=>?_,row_kept hI7 fun q hq=>hblk q (World.ownsRow.lt hI7 q hq).2 (fun e=>HA.out.apart q e hq),fun q hq e=>?_,fun q hq=>?_⟩
         ·rw[HT.out,← List.append_assoc,HLO.out]
          exact O9
         ·have f7:foot w7 a w.heap.size:=by
           have hl7:=F7.lts
           refine foot_same (World.cell?_of_block (hblk a.U hl7.2.1 (fun e=>O7.sep _ e (.inr (.inr (.inr (.inl rfl))))))) (fun i _=>World.cell?_of_block (hblk a.S hl7.2.2.2.2.1 (fun e=>O7.sep _ e (.inr (.inr (.inl rfl)))))) f
          exact HA.out.bf (HF17.out _ f7)
         ·rcases hat9 q hq with h9|h9
          ·exact HA.out.apart q h9 e
          ·have:=(World.ownsRow.lt hI7 q e).2
           omega
         ·rcases hat9 q hq with h9|h9
          ·exact HA.out.bapart q h9
          ·omega
        clear O7 O9 F7 F9 hF7 hF9 hown9 hg9 hat9 hbx7 hI7 hblk HA HT HF17
        go_wp2_with fail
        go_roundw
        case rel=>exact⟨k+1,by omega,by go_num,HW9.out⟩
        case measure=>simp[intOf];omega
       ·obtain rfl:k=li.length:=by omega
        have HA:Hid (Wr w wr a sw o l0 li w5.heap.size (.slice ai li.length ci) ⟨mk,mc,mn,me,ms,o,mv,ml,md⟩ li.length u8):=A
        clear A
        go_wp2_with fail
        go_ret
        have T:=HA.out.tel
        rw[List.take_length] at T
        rw[HE4.out]
        exact⟨_,rfl,T⟩
structure HearOk(s:Sv)(now:Int)(B:Nat):Prop where
 sv:SvB s B
 b:B≤100000000000000
 n0:0≤now
 n1:now≤549755813888
 to0:0≤s.to
 to1:s.to≤274877906944
 tv0:0≤s.tv
 tv1:s.tv≤274877906944
theorem hearS_no(a:Ad)(s:Sv)(mk mc mn me ms mo mv:Int)(ml:Bool)(md:ByteArray)(now:Int)(w:World)(h:SvIs w a s)(hd:s.down=true∨mc<0∨mo<0∨8≤mo) :
  Calls Tryz.prog 131 #[tp a.S,Wire.M.agg ⟨mk,mc,mn,me,ms,mo,mv,ml,md⟩,.int .i64 now] w fun e w'=>∃ v,e = .returned v∧Tells w w' a v s []:=by
 have hB0:MB (mbox w mk mc mn me ms mo mv ml md) w.heap.size ⟨mk,mc,mn,me,ms,mo,mv,ml,md⟩:=mbox_is w _ _ _ _ _ _ _ _ _
 have F:SvIs (mbox w mk mc mn me ms mo mv ml md) a s:=h.alloc _
 have hF:Fs a w (mbox w mk mc mn me ms mo mv ml md):=(Fs.refl _ _).alloc h _
 unfold mbox at *
 unfold Wire.M.agg
 dsimp only
 clear h
 go_enter Tryz.func131,Tryz.ntmps131
 go_upto_region 1 with fail
 generalize w.alloc (.cells #[.int .i64 mk,.int .i64 mc,.int .i64 mn,.int .i64 me,.int .i64 ms,.int .i64 mo,.int .i64 mv,.bool ml,.string md] 129)=w1 at *
 have b1:=hB0.c1
 have b5:=hB0.c5
 dsimp only at b1 b5
 have hdn:=down_any a s w1 F
 have HT:Hid (Tells w w1 a (.slice none 0 0) s []):=⟨Out.nil _ _ _,F,hF⟩
 have HD:Hid (s.down=true∨mc<0∨mo<0∨8≤mo):=hd
 clear hd F hF hB0
 cases hd1:s.down with
 | true=>
  rw[hd1] at hdn
  go_wp2_with fail
  refine hdn.mono ?_
  rintro e w2 ⟨rfl,rfl⟩
  clear hdn
  go_wp2_with fail
  go_ret
  exact⟨_,rfl,HT.out⟩
 | false=>
  rw[hd1] at hdn
  by_cases h1:mc<0
  ·have g1:decide (mc<0)=true:=decide_eq_true h1
   go_wp2_with fail
   refine hdn.mono ?_
   rintro e w2 ⟨rfl,rfl⟩
   clear hdn
   go_wp2_with fail
   go_ret
   exact⟨_,rfl,HT.out⟩
  ·have g1:decide (mc<0)=false:=decide_eq_false h1
   have hob:objB mo=false:=by
    rcases HD.out with q|q|q|q
    ·rw[hd1] at q;cases q
    ·exact(h1 q).elim
    ·exact Num.inB_below q
    ·exact Num.inB_above (by omega)
   have HO:Hid (objB mo=false):=hob
   clear hob h1 HD
   go_wp2_with fail
   refine hdn.mono ?_
   rintro e w2 ⟨rfl,rfl⟩
   clear hdn
   go_wp2_with (go_at_call 184;refine(isObj_any _ _).mono ?_;rintro e w' ⟨rfl,rfl⟩;rw[HO.out])
   go_ret
   exact⟨_,rfl,HT.out⟩
theorem hearS_go(a:Ad)(s:Sv)(mk mc mn me ms mv:Int)(o:Nat)(ml:Bool)(md:ByteArray)(now:Int)(B:Nat)(w:World)(h:SvIs w a s)(hO:HearOk s now B)(ho:o<8)(hm:okM ⟨mk,mc,mn,me,ms,o,mv,ml,md⟩)(hd1:s.down=false) :
  Calls Tryz.prog 131 #[tp a.S,Wire.M.agg ⟨mk,mc,mn,me,ms,o,mv,ml,md⟩,.int .i64 now] w fun e w'=>∃ v,e = .returned v∧Tells w w' a v (s.hear ⟨mk,mc,mn,me,ms,o,mv,ml,md⟩ now).1 (s.hear ⟨mk,mc,mn,me,ms,o,mv,ml,md⟩ now).2:=by
 have hc:0≤mc:=by have:=hm.1;simp[timeB,Num.inB] at this;omega
 have hB0:MB (mbox w mk mc mn me ms o mv ml md) w.heap.size ⟨mk,mc,mn,me,ms,o,mv,ml,md⟩:=mbox_is w _ _ _ _ _ _ _ _ _
 have F:SvIs (mbox w mk mc mn me ms o mv ml md) a s:=h.alloc _
 have hF:Fs a w (mbox w mk mc mn me ms o mv ml md):=(Fs.refl _ _).alloc h _
 have hob:objB o=true:=Num.inB_true (by omega) (by omega)
 have HO:Hid (objB o=true):=hob
 have HE:Hid (s.hear ⟨mk,mc,mn,me,ms,o,mv,ml,md⟩ now=if mk=1 then s.readS ⟨mk,mc,mn,me,ms,o,mv,ml,md⟩ o now else if mk=2 then s.writeS ⟨mk,mc,mn,me,ms,o,mv,ml,md⟩ o now else if mk=3 then s.renewS ⟨mk,mc,mn,me,ms,o,mv,ml,md⟩ now else if mk=4 then s.release ⟨mk,mc,mn,me,ms,o,mv,ml,md⟩ o now else (s,[])):=by
  unfold Hid Sv.hear
  have hn:¬ (s.down=true∨mc<0∨(o:Int)<0∨8≤(o:Int)):=by
   rintro(q|q|q|q)
   ·rw[hd1] at q;cases q
   ·omega
   ·omega
   ·omega
  exact if_neg hn
 have hws:w.heap.size≤(mbox w mk mc mn me ms o mv ml md).heap.size:=by simp
 clear hob
 unfold mbox at *
 unfold Wire.M.agg
 dsimp only
 clear h
 go_enter Tryz.func131,Tryz.ntmps131
 go_upto_region 1 with fail
 generalize w.alloc (.cells #[.int .i64 mk,.int .i64 mc,.int .i64 mn,.int .i64 me,.int .i64 ms,.int .i64 o,.int .i64 mv,.bool ml,.string md] 129)=w1 at *
 have b0:=hB0.c0
 have b1:=hB0.c1
 have b2:=hB0.c2
 have b3:=hB0.c3
 have b4:=hB0.c4
 have b5:=hB0.c5
 have b6:=hB0.c6
 have b7:=hB0.c7
 have b8:=hB0.c8
 dsimp only at b0 b1 b2 b3 b4 b5 b6 b7 b8
 have hdn:=down_any a s w1 F
 rw[hd1] at hdn
 have g1:decide (mc<0)=false:=decide_eq_false (by omega)
 have h1:=readS_any a s mk mc mn me ms mv o ml md now w1 F ho hc hO.n0 hO.n1 hO.to0 hO.to1 (by have:=hO.sv.n;have:=hO.b;omega)
 have h2:=writeS_any a s mk mc mn me ms mv o ml md now B w1 F ho hO.sv hO.b ⟨rfl,hm⟩
 have h3:=renewS_any a s mk mc mn me ms o mv ml md now w1 F hc (hO.sv.ok (by have:=hO.b;omega)) hO.n0 hO.n1 hO.tv0 hO.tv1
 have h4:=release_any a s mk mc mn me ms mv o ml md now w1 F ho hc (hO.sv.wok o) (fun c=>by have:=hO.sv.ses c;have:=hO.b;omega) hO.sv.vv0 (fun x=>by have:=hO.sv.vv1 x;have:=hO.sv.len;omega) hO.sv.left0 hO.sv.left1
 unfold Wire.M.agg at h1 h2 h3 h4
 dsimp only at h1 h2 h3 h4
 have HF:Hid (Fs a w w1):=hF
 have HS:Hid (SvIs w1 a s):=F
 have HZ:Hid (w.heap.size≤w1.heap.size):=hws
 have fin:∀ {w2:World} {v:Value} {s2:Sv} {l:List M},Tells w1 w2 a v s2 l→Tells w w2 a v s2 l:=fun T=>⟨⟨T.out.own.mono HZ.out,T.out.sep⟩,T.sv,HF.out.trans T.fs⟩
 clear F hF hB0 hO hm hd1 hws
 by_cases k1:mk=1
 ·subst k1
  have HE2:=HE.out.trans (if_pos rfl)
  go_wp2_with fail
  refine hdn.mono ?_
  rintro e w2 ⟨rfl,rfl⟩
  clear hdn h2 h3 h4
  go_wp2_with (go_at_call 184;refine(isObj_any _ _).mono ?_;rintro e w' ⟨rfl,rfl⟩;rw[HO.out])
  refine h1.mono ?_
  rintro e w3 ⟨v3,rfl,T3⟩
  have HT:=fin T3
  clear h1 T3
  go_wp2_with fail
  go_ret
  rw[HE2]
  exact⟨_,rfl,HT⟩
 ·by_cases k2:mk=2
  ·subst k2
   have HE2:=(HE.out.trans (if_neg k1)).trans (if_pos rfl)
   go_wp2_with fail
   refine hdn.mono ?_
   rintro e w2 ⟨rfl,rfl⟩
   clear hdn h1 h3 h4 k1
   go_wp2_with (go_at_call 184;refine(isObj_any _ _).mono ?_;rintro e w' ⟨rfl,rfl⟩;rw[HO.out])
   refine h2.mono ?_
   rintro e w3 ⟨v3,rfl,T3⟩
   have HT:=fin T3
   clear h2 T3
   go_wp2_with fail
   go_ret
   rw[HE2]
   exact⟨_,rfl,HT⟩
  ·by_cases k3:mk=3
   ·subst k3
    have HE2:=((HE.out.trans (if_neg k1)).trans (if_neg k2)).trans (if_pos rfl)
    go_wp2_with fail
    refine hdn.mono ?_
    rintro e w2 ⟨rfl,rfl⟩
    clear hdn h1 h2 h4 k1 k2
    go_wp2_with (go_at_call 184;refine(isObj_any _ _).mono ?_;rintro e w' ⟨rfl,rfl⟩;rw[HO.out])
    refine h3.mono ?_
    rintro e w3 ⟨v3,rfl,T3⟩
    have HT:=fin T3
    clear h3 T3
    go_wp2_with fail
    go_ret
    rw[HE2]
    exact⟨_,rfl,HT⟩
   ·by_cases k4:mk=4
    ·subst k4
     have HE2:=(((HE.out.trans (if_neg k1)).trans (if_neg k2)).trans (if_neg k3)).trans (if_pos rfl)
     go_wp2_with fail
     refine hdn.mono ?_
     rintro e w2 ⟨rfl,rfl⟩
     clear hdn h1 h2 h3 k1 k2 k3
     go_wp2_with (go_at_call 184;refine(isObj_any _ _).mono ?_;rintro e w' ⟨rfl,rfl⟩;rw[HO.out])
     refine h4.mono ?_
     rintro e w3 ⟨v3,rfl,T3⟩
     have HT:=fin T3
     clear h4 T3
     go_wp2_with fail
     go_ret
     rw[HE2]
     exact⟨_,rfl,HT⟩
    ·have HE2:=(((HE.out.trans (if_neg k1)).trans (if_neg k2)).trans (if_neg k3)).trans (if_neg k4)
     have q1:(mk == 1)=false:=by simpa using k1
     have q2:(mk == 2)=false:=by simpa using k2
     have q3:(mk == 3)=false:=by simpa using k3
     have q4:(mk == 4)=false:=by simpa using k4
     have HT:Hid (Tells w w1 a (.slice none 0 0) s []):=⟨Out.nil _ _ _,HS.out,HF.out⟩
     go_wp2_with fail
     refine hdn.mono ?_
     rintro e w2 ⟨rfl,rfl⟩
     clear hdn h1 h2 h3 h4 k1 k2 k3 k4
     go_wp2_with (go_at_call 184;refine(isObj_any _ _).mono ?_;rintro e w' ⟨rfl,rfl⟩;rw[HO.out])
     go_ret
     rw[HE2]
     exact⟨_,rfl,HT.out⟩
theorem hearS_any(a:Ad)(s:Sv)(m:M)(now:Int)(B:Nat)(w:World)(h:SvIs w a s)(hO:HearOk s now B)(hm:okM m) :
  Calls Tryz.prog 131 #[tp a.S,Wire.M.agg m,.int .i64 now] w fun e w'=>∃ v,e = .returned v∧Tells w w' a v (s.hear m now).1 (s.hear m now).2:=by
 obtain⟨mk,mc,mn,me,ms,mo,mv,ml,md⟩:=m
 by_cases hd:s.down=true∨mc<0∨mo<0∨8≤mo
 ·have e:s.hear ⟨mk,mc,mn,me,ms,mo,mv,ml,md⟩ now=(s,[]):=if_pos hd
  rw[e]
  exact hearS_no a s mk mc mn me ms mo mv ml md now w h hd
 ·have h1:s.down=false:=by cases q:s.down with
   | false=>rfl
   | true=>exact(hd (.inl q)).elim
  obtain⟨o,rfl⟩:∃ o:Nat,mo=o:=⟨mo.toNat,by omega⟩
  exact hearS_go a s mk mc mn me ms mv o ml md now B w h hO (by omega) hm h1
end Wld
end
end Go.Proofs.YtbebfliimjjohabGreatDoor
