/- Parts of the proof. -/
import Derived.Test.YtbebfliimjjohabGreatDoorLd08
import Derived.Test.YtbebfliimjjohabGreatDoorLd07
import Derived.Laws.StructEq
set_option maxRecDepth 100000
set_option maxHeartbeats 8000000
namespace Go.Proofs.YtbebfliimjjohabGreatDoor
section
namespace Wld
open Go.RowKit Go.Maps
open Lease (Ob I64 upd upd_same upd_other mx map_block map_ne keyedI keyI I64.wf own_int own_num mx_i64)
open Cache (CacheIs E tp kp acells putL era)
open Num (M)
def K.hear(k:K)(m:M):K×List M:=
 if m.k=9 then (k.forget m,[k.ackM m])
 else if m.c≠k.id then (k,[])
 else if m.k=7∧m.n=k.renewal then (k.granted m.e m.s,[])
 else if m.k=8∧m.n=k.renewal then (k.flush m.e m.s,[])
 else if m.k=5∧k.waits 1 m.n=true then (k.read m,[])
 else if m.k=6∧k.waits 2 m.n=true then (k.overWith k.d m.v,[])
 else (k,[])
structure KOk(k:K):Prop where
 cob0:0≤k.cob
 cob7:k.cob≤7
 n:k.n<1000000000000
 num0:0≤k.num
 num:k.num≤1000000000000
 ren0:0≤k.renewal
 ren:k.renewal≤1000000000000
 obj0:0≤k.obj
 obj:k.obj≤1099511627776
 vol0:0≤k.vol
 vol:k.vol≤1099511627776
 sent0:0≤k.sent
 sent:k.sent≤1099511627776
 ask0:0≤k.asked
 ask:k.asked≤1099511627776
abbrev mbox (w:World) (mk mc mn me ms mo mv:Int) (ml:Bool) (md:ByteArray):World:=w.alloc (.cells #[.int .i64 mk,.int .i64 mc,.int .i64 mn,.int .i64 me,.int .i64 ms,.int .i64 mo,.int .i64 mv,.bool ml,.string md] 129)
theorem mbox_is(w:World)(mk mc mn me ms mo mv:Int)(ml:Bool)(md:ByteArray):MB (mbox w mk mc mn me ms mo mv ml md) w.heap.size ⟨mk,mc,mn,me,ms,mo,mv,ml,md⟩:=by
 refine⟨?_,?_,?_,?_,?_,?_,?_,?_,?_⟩<;>(rw[cell_of_row _ _ _ _ _ _ (heap_alloc_new w _)];rfl)
theorem hear_inval(c q:Nat)(k:K)(mc mn:Int)(me ms mo mv:Int)(ml:Bool)(md:ByteArray)(w:World)(h:CliIs w c q k)(_hK:KOk k)(_hv:I64 mv) :
  Calls Tryz.prog 132 #[tp c,Wire.M.agg ⟨9,mc,mn,me,ms,mo,mv,ml,md⟩] w fun e w'=>∃ v,e = .returned v∧HasM w' w.heap.size v [k.ackM ⟨9,mc,mn,me,ms,mo,mv,ml,md⟩]∧CliIs w' c q (k.forget ⟨9,mc,mn,me,ms,mo,mv,ml,md⟩)∧Ob [c,q] w w':=by
 have hlt:=h.lt
 have hB:MB (mbox w 9 mc mn me ms mo mv ml md) w.heap.size ⟨9,mc,mn,me,ms,mo,mv,ml,md⟩:=mbox_is w _ _ _ _ _ _ _ _ _
 have F:CliIs (mbox w 9 mc mn me ms mo mv ml md) c q k:=h.alloc _
 have hO:Ob [c,q] w (mbox w 9 mc mn me ms mo mv ml md):=(Ob.refl _ _).alloc _
 have hs:(mbox w 9 mc mn me ms mo mv ml md).heap.size=w.heap.size+1:=by simp
 unfold mbox at *
 unfold Wire.M.agg
 clear h
 go_enter Tryz.func132,Tryz.ntmps132
 go_wp2_with fail
 generalize (w.alloc (.cells #[.int .i64 9,.int .i64 mc,.int .i64 mn,.int .i64 me,.int .i64 ms,.int .i64 mo,.int .i64 mv,.bool ml,.string md] 129))=w1 at *
 have b0:=hB.c0
 have b1:=hB.c1
 have b2:=hB.c2
 have b3:=hB.c3
 have b4:=hB.c4
 have b5:=hB.c5
 have b6:=hB.c6
 have b7:=hB.c7
 have b8:=hB.c8
 dsimp only at b0 b1 b2 b3 b4 b5 b6 b7 b8
 have d0:=F.c0
 have d6:=F.c6
 have d12:=F.c12
 clear hB
 go_wp2_with fail
 refine(forget_any c q k ⟨9,mc,mn,me,ms,mo,mv,ml,md⟩ w1 F).mono ?_
 rintro x w2 ⟨v,rfl,HM,G,hO2⟩
 go_wp2_with fail
 go_ret
 exact⟨_,rfl,HM.mono (by omega),G,hO.trans hO2⟩
theorem hear_other(c q:Nat)(k:K)(mk mc mn:Int)(me ms mo mv:Int)(ml:Bool)(md:ByteArray)(w:World)(h:CliIs w c q k)(_hK:KOk k)(_hv:I64 mv)(hk:¬ mk=9)(hc:¬ mc=k.id) :
  Calls Tryz.prog 132 #[tp c,Wire.M.agg ⟨mk,mc,mn,me,ms,mo,mv,ml,md⟩] w fun e w'=>∃ v,e = .returned v∧HasM w' w.heap.size v []∧CliIs w' c q k∧Ob [c,q] w w':=by
 have hlt:=h.lt
 have hB:MB (mbox w mk mc mn me ms mo mv ml md) w.heap.size ⟨mk,mc,mn,me,ms,mo,mv,ml,md⟩:=mbox_is w _ _ _ _ _ _ _ _ _
 have F:CliIs (mbox w mk mc mn me ms mo mv ml md) c q k:=h.alloc _
 have hO:Ob [c,q] w (mbox w mk mc mn me ms mo mv ml md):=(Ob.refl _ _).alloc _
 have hs:(mbox w mk mc mn me ms mo mv ml md).heap.size=w.heap.size+1:=by simp
 unfold mbox at *
 unfold Wire.M.agg
 clear h
 have g9:(mk == 9)=false:=by simpa using hk
 have gc:(mc == k.id)=false:=by simpa using hc
 clear hk hc
 go_enter Tryz.func132,Tryz.ntmps132
 go_wp2_with fail
 generalize (w.alloc (.cells #[.int .i64 mk,.int .i64 mc,.int .i64 mn,.int .i64 me,.int .i64 ms,.int .i64 mo,.int .i64 mv,.bool ml,.string md] 129))=w1 at *
 have b0:=hB.c0
 have b1:=hB.c1
 have b2:=hB.c2
 have b3:=hB.c3
 have b4:=hB.c4
 have b5:=hB.c5
 have b6:=hB.c6
 have b7:=hB.c7
 have b8:=hB.c8
 dsimp only at b0 b1 b2 b3 b4 b5 b6 b7 b8
 have d0:=F.c0
 have d6:=F.c6
 have d12:=F.c12
 clear hB
 go_wp2_with fail
 go_quiet (fail)
 go_wp2_with fail
 go_ret
 exact⟨_,rfl,HasM.nil _ _,F.drewN _,hO.drewN _⟩
theorem hear_granted(c q:Nat)(k:K)(me ms mo mv:Int)(ml:Bool)(md:ByteArray)(w:World)(h:CliIs w c q k)(hK:KOk k)(_hv:I64 mv) :
  Calls Tryz.prog 132 #[tp c,Wire.M.agg ⟨7,k.id,k.renewal,me,ms,mo,mv,ml,md⟩] w fun e w'=>∃ v,e = .returned v∧HasM w' w.heap.size v []∧CliIs w' c q (k.granted me ms)∧Ob [c,q] w w':=by
 have hlt:=h.lt
 have hB:MB (mbox w 7 k.id k.renewal me ms mo mv ml md) w.heap.size ⟨7,k.id,k.renewal,me,ms,mo,mv,ml,md⟩:=mbox_is w _ _ _ _ _ _ _ _ _
 have F:CliIs (mbox w 7 k.id k.renewal me ms mo mv ml md) c q k:=h.alloc _
 have hO:Ob [c,q] w (mbox w 7 k.id k.renewal me ms mo mv ml md):=(Ob.refl _ _).alloc _
 have hs:(mbox w 7 k.id k.renewal me ms mo mv ml md).heap.size=w.heap.size+1:=by simp
 unfold mbox at *
 unfold Wire.M.agg
 clear h
 go_enter Tryz.func132,Tryz.ntmps132
 go_wp2_with fail
 generalize (w.alloc (.cells #[.int .i64 7,.int .i64 k.id,.int .i64 k.renewal,.int .i64 me,.int .i64 ms,.int .i64 mo,.int .i64 mv,.bool ml,.string md] 129))=w1 at *
 have b0:=hB.c0
 have b1:=hB.c1
 have b2:=hB.c2
 have b3:=hB.c3
 have b4:=hB.c4
 have b5:=hB.c5
 have b6:=hB.c6
 have b7:=hB.c7
 have b8:=hB.c8
 dsimp only at b0 b1 b2 b3 b4 b5 b6 b7 b8
 have d0:=F.c0
 have d6:=F.c6
 have d12:=F.c12
 clear hB
 go_wp2_with fail
 go_quiet (fail)
 go_wp2_with fail
 go_quiet (fail)
 go_wp2_with fail
 refine(granted_any c q k me ms _ (F.drewN _) (by have:=hK.ask0;have:=hK.vol0;omega) (by have:=hK.ask;have:=hK.vol;omega)).mono ?_
 rintro x w2 ⟨rfl,G,hO2⟩
 go_wp2_with fail
 go_ret
 exact⟨_,rfl,HasM.nil _ _,G,(hO.drewN _).trans hO2⟩
theorem hear_flush(c q:Nat)(k:K)(me ms mo mv:Int)(ml:Bool)(md:ByteArray)(w:World)(h:CliIs w c q k)(_hK:KOk k)(_hv:I64 mv) :
  Calls Tryz.prog 132 #[tp c,Wire.M.agg ⟨8,k.id,k.renewal,me,ms,mo,mv,ml,md⟩] w fun e w'=>∃ v,e = .returned v∧HasM w' w.heap.size v []∧CliIs w' c q (k.flush me ms)∧Ob [c,q] w w':=by
 have hlt:=h.lt
 have hB:MB (mbox w 8 k.id k.renewal me ms mo mv ml md) w.heap.size ⟨8,k.id,k.renewal,me,ms,mo,mv,ml,md⟩:=mbox_is w _ _ _ _ _ _ _ _ _
 have F:CliIs (mbox w 8 k.id k.renewal me ms mo mv ml md) c q k:=h.alloc _
 have hO:Ob [c,q] w (mbox w 8 k.id k.renewal me ms mo mv ml md):=(Ob.refl _ _).alloc _
 have hs:(mbox w 8 k.id k.renewal me ms mo mv ml md).heap.size=w.heap.size+1:=by simp
 unfold mbox at *
 unfold Wire.M.agg
 clear h
 go_enter Tryz.func132,Tryz.ntmps132
 go_wp2_with fail
 generalize (w.alloc (.cells #[.int .i64 8,.int .i64 k.id,.int .i64 k.renewal,.int .i64 me,.int .i64 ms,.int .i64 mo,.int .i64 mv,.bool ml,.string md] 129))=w1 at *
 have b0:=hB.c0
 have b1:=hB.c1
 have b2:=hB.c2
 have b3:=hB.c3
 have b4:=hB.c4
 have b5:=hB.c5
 have b6:=hB.c6
 have b7:=hB.c7
 have b8:=hB.c8
 dsimp only at b0 b1 b2 b3 b4 b5 b6 b7 b8
 have d0:=F.c0
 have d6:=F.c6
 have d12:=F.c12
 clear hB
 go_wp2_with fail
 go_quiet (fail)
 go_wp2_with fail
 go_quiet (fail)
 go_wp2_with fail
 go_quiet (fail)
 go_wp2_with fail
 refine(flush_any c q k me ms _ (F.drewN _)).mono ?_
 rintro x w2 ⟨rfl,G,hO2⟩
 go_wp2_with fail
 go_ret
 exact⟨_,rfl,HasM.nil _ _,G,(hO.drewN _).trans hO2⟩
theorem hear_value(c q:Nat)(k:K)(mn:Int)(me ms mo mv:Int)(ml:Bool)(md:ByteArray)(w:World)(h:CliIs w c q k)(hK:KOk k)(hv:I64 mv)(hw:k.waits 1 mn=true) :
  Calls Tryz.prog 132 #[tp c,Wire.M.agg ⟨5,k.id,mn,me,ms,mo,mv,ml,md⟩] w fun e w'=>∃ v,e = .returned v∧HasM w' w.heap.size v []∧CliIs w' c q (k.read ⟨5,k.id,mn,me,ms,mo,mv,ml,md⟩)∧Ob [c,q] w w':=by
 have hlt:=h.lt
 have hB:MB (mbox w 5 k.id mn me ms mo mv ml md) w.heap.size ⟨5,k.id,mn,me,ms,mo,mv,ml,md⟩:=mbox_is w _ _ _ _ _ _ _ _ _
 have F:CliIs (mbox w 5 k.id mn me ms mo mv ml md) c q k:=h.alloc _
 have hO:Ob [c,q] w (mbox w 5 k.id mn me ms mo mv ml md):=(Ob.refl _ _).alloc _
 have hs:(mbox w 5 k.id mn me ms mo mv ml md).heap.size=w.heap.size+1:=by simp
 unfold mbox at *
 unfold Wire.M.agg
 clear h
 go_enter Tryz.func132,Tryz.ntmps132
 go_wp2_with fail
 generalize (w.alloc (.cells #[.int .i64 5,.int .i64 k.id,.int .i64 mn,.int .i64 me,.int .i64 ms,.int .i64 mo,.int .i64 mv,.bool ml,.string md] 129))=w1 at *
 have b0:=hB.c0
 have b1:=hB.c1
 have b2:=hB.c2
 have b3:=hB.c3
 have b4:=hB.c4
 have b5:=hB.c5
 have b6:=hB.c6
 have b7:=hB.c7
 have b8:=hB.c8
 dsimp only at b0 b1 b2 b3 b4 b5 b6 b7 b8
 have d0:=F.c0
 have d6:=F.c6
 have d12:=F.c12
 clear hB
 go_wp2_with fail
 go_quiet (fail)
 go_wp2_with fail
 go_quiet (fail)
 go_wp2_with fail
 go_quiet (fail)
 go_wp2_with fail
 refine(waits_any c q k 1 mn _ (F.drewN _)).mono ?_
 rintro x w2 ⟨rfl,rfl⟩
 rw[hw]
 go_wp2_with fail
 refine(read_any c q k ⟨5,k.id,mn,me,ms,mo,mv,ml,md⟩ _ (F.drewN _) hK.cob0 hK.cob7 hv hK.n (by have:=hK.sent0;have:=hK.obj0;omega) (by have:=hK.sent;have:=hK.obj;omega)).mono ?_
 rintro x w3 ⟨rfl,G,hO2⟩
 go_wp2_with fail
 go_ret
 exact⟨_,rfl,HasM.nil _ _,G,(hO.drewN _).trans hO2⟩
theorem hear_done(c q:Nat)(k:K)(mn:Int)(me ms mo mv:Int)(ml:Bool)(md:ByteArray)(w:World)(h:CliIs w c q k)(hK:KOk k)(hv:I64 mv)(hw:k.waits 2 mn=true) :
  Calls Tryz.prog 132 #[tp c,Wire.M.agg ⟨6,k.id,mn,me,ms,mo,mv,ml,md⟩] w fun e w'=>∃ v,e = .returned v∧HasM w' w.heap.size v []∧CliIs w' c q (k.overWith k.d mv)∧Ob [c,q] w w':=by
 have hlt:=h.lt
 have hB:MB (mbox w 6 k.id mn me ms mo mv ml md) w.heap.size ⟨6,k.id,mn,me,ms,mo,mv,ml,md⟩:=mbox_is w _ _ _ _ _ _ _ _ _
 have F:CliIs (mbox w 6 k.id mn me ms mo mv ml md) c q k:=h.alloc _
 have hO:Ob [c,q] w (mbox w 6 k.id mn me ms mo mv ml md):=(Ob.refl _ _).alloc _
 have hs:(mbox w 6 k.id mn me ms mo mv ml md).heap.size=w.heap.size+1:=by simp
 unfold mbox at *
 unfold Wire.M.agg
 clear h
 go_enter Tryz.func132,Tryz.ntmps132
 go_wp2_with fail
 generalize (w.alloc (.cells #[.int .i64 6,.int .i64 k.id,.int .i64 mn,.int .i64 me,.int .i64 ms,.int .i64 mo,.int .i64 mv,.bool ml,.string md] 129))=w1 at *
 have b0:=hB.c0
 have b1:=hB.c1
 have b2:=hB.c2
 have b3:=hB.c3
 have b4:=hB.c4
 have b5:=hB.c5
 have b6:=hB.c6
 have b7:=hB.c7
 have b8:=hB.c8
 dsimp only at b0 b1 b2 b3 b4 b5 b6 b7 b8
 have d0:=F.c0
 have d6:=F.c6
 have d12:=F.c12
 clear hB
 go_wp2_with fail
 go_quiet (fail)
 go_wp2_with fail
 go_quiet (fail)
 go_wp2_with fail
 go_quiet (fail)
 go_wp2_with fail
 refine(waits_any c q k 2 mn _ (F.drewN _)).mono ?_
 rintro x w2 ⟨rfl,rfl⟩
 rw[hw]
 go_wp2_with fail
 generalize hW:w1.drewN _=W
 have F2:CliIs W c q k:=by rw[← hW];exact F.drewN _
 have hO3:Ob [c,q] w W:=by rw[← hW];exact hO.drewN _
 have b6:W.cell? ⟨w.heap.size,6,none⟩=some (.int .i64 mv):=by rw[← hW];exact b6
 have d6:=F2.c6
 clear hW F hO
 go_still_tail 10,(by kernel_rfl)
 go_wp2_with fail
 refine(over_any c q k k.d mv _ F2.drew hK.cob0 hK.cob7 hv hK.n).mono ?_
 rintro x w3 ⟨rfl,G,hO2⟩
 go_wp2_with fail
 go_ret
 exact⟨_,rfl,HasM.nil _ _,G,hO3.drew.trans hO2⟩
theorem hear_no7(c q:Nat)(k:K)(mn:Int)(me ms mo mv:Int)(ml:Bool)(md:ByteArray)(w:World)(h:CliIs w c q k)(_hK:KOk k)(_hv:I64 mv)(hn:¬ mn=k.renewal) :
  Calls Tryz.prog 132 #[tp c,Wire.M.agg ⟨7,k.id,mn,me,ms,mo,mv,ml,md⟩] w fun e w'=>∃ v,e = .returned v∧HasM w' w.heap.size v []∧CliIs w' c q k∧Ob [c,q] w w':=by
 have hlt:=h.lt
 have hB:MB (mbox w 7 k.id mn me ms mo mv ml md) w.heap.size ⟨7,k.id,mn,me,ms,mo,mv,ml,md⟩:=mbox_is w _ _ _ _ _ _ _ _ _
 have F:CliIs (mbox w 7 k.id mn me ms mo mv ml md) c q k:=h.alloc _
 have hO:Ob [c,q] w (mbox w 7 k.id mn me ms mo mv ml md):=(Ob.refl _ _).alloc _
 have hs:(mbox w 7 k.id mn me ms mo mv ml md).heap.size=w.heap.size+1:=by simp
 unfold mbox at *
 unfold Wire.M.agg
 clear h
 have gn:(mn == k.renewal)=false:=by simpa using hn
 clear hn
 go_enter Tryz.func132,Tryz.ntmps132
 go_wp2_with fail
 generalize (w.alloc (.cells #[.int .i64 7,.int .i64 k.id,.int .i64 mn,.int .i64 me,.int .i64 ms,.int .i64 mo,.int .i64 mv,.bool ml,.string md] 129))=w1 at *
 have b0:=hB.c0
 have b1:=hB.c1
 have b2:=hB.c2
 have b3:=hB.c3
 have b4:=hB.c4
 have b5:=hB.c5
 have b6:=hB.c6
 have b7:=hB.c7
 have b8:=hB.c8
 dsimp only at b0 b1 b2 b3 b4 b5 b6 b7 b8
 have d0:=F.c0
 have d6:=F.c6
 have d12:=F.c12
 clear hB
 go_wp2_with fail
 go_quiet (fail)
 go_wp2_with fail
 go_quiet (fail)
 go_wp2_with fail
 go_quiet (fail)
 go_wp2_with fail
 go_ret
 exact⟨_,rfl,HasM.nil _ _,F.drewN _,hO.drewN _⟩
theorem hear_no8(c q:Nat)(k:K)(mn:Int)(me ms mo mv:Int)(ml:Bool)(md:ByteArray)(w:World)(h:CliIs w c q k)(_hK:KOk k)(_hv:I64 mv)(hn:¬ mn=k.renewal) :
  Calls Tryz.prog 132 #[tp c,Wire.M.agg ⟨8,k.id,mn,me,ms,mo,mv,ml,md⟩] w fun e w'=>∃ v,e = .returned v∧HasM w' w.heap.size v []∧CliIs w' c q k∧Ob [c,q] w w':=by
 have hlt:=h.lt
 have hB:MB (mbox w 8 k.id mn me ms mo mv ml md) w.heap.size ⟨8,k.id,mn,me,ms,mo,mv,ml,md⟩:=mbox_is w _ _ _ _ _ _ _ _ _
 have F:CliIs (mbox w 8 k.id mn me ms mo mv ml md) c q k:=h.alloc _
 have hO:Ob [c,q] w (mbox w 8 k.id mn me ms mo mv ml md):=(Ob.refl _ _).alloc _
 have hs:(mbox w 8 k.id mn me ms mo mv ml md).heap.size=w.heap.size+1:=by simp
 unfold mbox at *
 unfold Wire.M.agg
 clear h
 have gn:(mn == k.renewal)=false:=by simpa using hn
 clear hn
 go_enter Tryz.func132,Tryz.ntmps132
 go_wp2_with fail
 generalize (w.alloc (.cells #[.int .i64 8,.int .i64 k.id,.int .i64 mn,.int .i64 me,.int .i64 ms,.int .i64 mo,.int .i64 mv,.bool ml,.string md] 129))=w1 at *
 have b0:=hB.c0
 have b1:=hB.c1
 have b2:=hB.c2
 have b3:=hB.c3
 have b4:=hB.c4
 have b5:=hB.c5
 have b6:=hB.c6
 have b7:=hB.c7
 have b8:=hB.c8
 dsimp only at b0 b1 b2 b3 b4 b5 b6 b7 b8
 have d0:=F.c0
 have d6:=F.c6
 have d12:=F.c12
 clear hB
 go_wp2_with fail
 go_quiet (fail)
 go_wp2_with fail
 go_quiet (fail)
 go_wp2_with fail
 go_quiet (fail)
 go_wp2_with fail
 go_ret
 exact⟨_,rfl,HasM.nil _ _,F.drewN _,hO.drewN _⟩
theorem hear_no5(c q:Nat)(k:K)(mn:Int)(me ms mo mv:Int)(ml:Bool)(md:ByteArray)(w:World)(h:CliIs w c q k)(_hK:KOk k)(_hv:I64 mv)(hw:k.waits 1 mn=false) :
  Calls Tryz.prog 132 #[tp c,Wire.M.agg ⟨5,k.id,mn,me,ms,mo,mv,ml,md⟩] w fun e w'=>∃ v,e = .returned v∧HasM w' w.heap.size v []∧CliIs w' c q k∧Ob [c,q] w w':=by
 have hlt:=h.lt
 have hB:MB (mbox w 5 k.id mn me ms mo mv ml md) w.heap.size ⟨5,k.id,mn,me,ms,mo,mv,ml,md⟩:=mbox_is w _ _ _ _ _ _ _ _ _
 have F:CliIs (mbox w 5 k.id mn me ms mo mv ml md) c q k:=h.alloc _
 have hO:Ob [c,q] w (mbox w 5 k.id mn me ms mo mv ml md):=(Ob.refl _ _).alloc _
 have hs:(mbox w 5 k.id mn me ms mo mv ml md).heap.size=w.heap.size+1:=by simp
 unfold mbox at *
 unfold Wire.M.agg
 clear h
 go_enter Tryz.func132,Tryz.ntmps132
 go_wp2_with fail
 generalize (w.alloc (.cells #[.int .i64 5,.int .i64 k.id,.int .i64 mn,.int .i64 me,.int .i64 ms,.int .i64 mo,.int .i64 mv,.bool ml,.string md] 129))=w1 at *
 have b0:=hB.c0
 have b1:=hB.c1
 have b2:=hB.c2
 have b3:=hB.c3
 have b4:=hB.c4
 have b5:=hB.c5
 have b6:=hB.c6
 have b7:=hB.c7
 have b8:=hB.c8
 dsimp only at b0 b1 b2 b3 b4 b5 b6 b7 b8
 have d0:=F.c0
 have d6:=F.c6
 have d12:=F.c12
 clear hB
 go_wp2_with fail
 go_quiet (fail)
 go_wp2_with fail
 go_quiet (fail)
 go_wp2_with fail
 go_quiet (fail)
 go_wp2_with fail
 refine(waits_any c q k 1 mn _ (F.drewN _)).mono ?_
 rintro x w2 ⟨rfl,rfl⟩
 rw[hw]
 go_wp2_with fail
 go_ret
 exact⟨_,rfl,HasM.nil _ _,F.drewN _,hO.drewN _⟩
theorem hear_no6(c q:Nat)(k:K)(mn:Int)(me ms mo mv:Int)(ml:Bool)(md:ByteArray)(w:World)(h:CliIs w c q k)(_hK:KOk k)(_hv:I64 mv)(hw:k.waits 2 mn=false) :
  Calls Tryz.prog 132 #[tp c,Wire.M.agg ⟨6,k.id,mn,me,ms,mo,mv,ml,md⟩] w fun e w'=>∃ v,e = .returned v∧HasM w' w.heap.size v []∧CliIs w' c q k∧Ob [c,q] w w':=by
 have hlt:=h.lt
 have hB:MB (mbox w 6 k.id mn me ms mo mv ml md) w.heap.size ⟨6,k.id,mn,me,ms,mo,mv,ml,md⟩:=mbox_is w _ _ _ _ _ _ _ _ _
 have F:CliIs (mbox w 6 k.id mn me ms mo mv ml md) c q k:=h.alloc _
 have hO:Ob [c,q] w (mbox w 6 k.id mn me ms mo mv ml md):=(Ob.refl _ _).alloc _
 have hs:(mbox w 6 k.id mn me ms mo mv ml md).heap.size=w.heap.size+1:=by simp
 unfold mbox at *
 unfold Wire.M.agg
 clear h
 go_enter Tryz.func132,Tryz.ntmps132
 go_wp2_with fail
 generalize (w.alloc (.cells #[.int .i64 6,.int .i64 k.id,.int .i64 mn,.int .i64 me,.int .i64 ms,.int .i64 mo,.int .i64 mv,.bool ml,.string md] 129))=w1 at *
 have b0:=hB.c0
 have b1:=hB.c1
 have b2:=hB.c2
 have b3:=hB.c3
 have b4:=hB.c4
 have b5:=hB.c5
 have b6:=hB.c6
 have b7:=hB.c7
 have b8:=hB.c8
 dsimp only at b0 b1 b2 b3 b4 b5 b6 b7 b8
 have d0:=F.c0
 have d6:=F.c6
 have d12:=F.c12
 clear hB
 go_wp2_with fail
 go_quiet (fail)
 go_wp2_with fail
 go_quiet (fail)
 go_wp2_with fail
 go_quiet (fail)
 go_wp2_with fail
 refine(waits_any c q k 2 mn _ (F.drewN _)).mono ?_
 rintro x w2 ⟨rfl,rfl⟩
 rw[hw]
 go_wp2_with fail
 go_ret
 exact⟨_,rfl,HasM.nil _ _,F.drewN _,hO.drewN _⟩
theorem hear_none(c q:Nat)(k:K)(mk mn:Int)(me ms mo mv:Int)(ml:Bool)(md:ByteArray)(w:World)(h:CliIs w c q k)(_hK:KOk k)(_hv:I64 mv)(h9:¬ mk=9)(h7:¬ mk=7)(h8:¬ mk=8)(h5:¬ mk=5)(h6:¬ mk=6) :
  Calls Tryz.prog 132 #[tp c,Wire.M.agg ⟨mk,k.id,mn,me,ms,mo,mv,ml,md⟩] w fun e w'=>∃ v,e = .returned v∧HasM w' w.heap.size v []∧CliIs w' c q k∧Ob [c,q] w w':=by
 have hlt:=h.lt
 have hB:MB (mbox w mk k.id mn me ms mo mv ml md) w.heap.size ⟨mk,k.id,mn,me,ms,mo,mv,ml,md⟩:=mbox_is w _ _ _ _ _ _ _ _ _
 have F:CliIs (mbox w mk k.id mn me ms mo mv ml md) c q k:=h.alloc _
 have hO:Ob [c,q] w (mbox w mk k.id mn me ms mo mv ml md):=(Ob.refl _ _).alloc _
 have hs:(mbox w mk k.id mn me ms mo mv ml md).heap.size=w.heap.size+1:=by simp
 unfold mbox at *
 unfold Wire.M.agg
 clear h
 have g9:(mk == 9)=false:=by simpa using h9
 have g7:(mk == 7)=false:=by simpa using h7
 have g8:(mk == 8)=false:=by simpa using h8
 have g5:(mk == 5)=false:=by simpa using h5
 have g6:(mk == 6)=false:=by simpa using h6
 clear h9 h7 h8 h5 h6
 go_enter Tryz.func132,Tryz.ntmps132
 go_wp2_with fail
 generalize (w.alloc (.cells #[.int .i64 mk,.int .i64 k.id,.int .i64 mn,.int .i64 me,.int .i64 ms,.int .i64 mo,.int .i64 mv,.bool ml,.string md] 129))=w1 at *
 have b0:=hB.c0
 have b1:=hB.c1
 have b2:=hB.c2
 have b3:=hB.c3
 have b4:=hB.c4
 have b5:=hB.c5
 have b6:=hB.c6
 have b7:=hB.c7
 have b8:=hB.c8
 dsimp only at b0 b1 b2 b3 b4 b5 b6 b7 b8
 have d0:=F.c0
 have d6:=F.c6
 have d12:=F.c12
 clear hB
 go_wp2_with fail
 go_quiet (fail)
 go_wp2_with fail
 go_quiet (fail)
 go_wp2_with fail
 go_quiet (fail)
 go_wp2_with fail
 go_ret
 exact⟨_,rfl,HasM.nil _ _,F.drewN _,hO.drewN _⟩
theorem hear_any(c q:Nat)(k:K)(m:M)(w:World)(h:CliIs w c q k)(hK:KOk k)(hv:I64 m.v) :
  Calls Tryz.prog 132 #[tp c,Wire.M.agg m] w fun e w'=>∃ v,e = .returned v∧HasM w' w.heap.size v (k.hear m).2∧CliIs w' c q (k.hear m).1∧Ob [c,q] w w':=by
 obtain⟨mk,mc,mn,me,ms,mo,mv,ml,md⟩:=m
 unfold K.hear
 dsimp only at hv ⊢
 by_cases h9:mk=9
 ·rw[if_pos h9];subst h9;exact hear_inval c q k mc mn me ms mo mv ml md w h hK hv
 ·rw[if_neg h9]
  by_cases hc:mc=k.id
  ·rw[if_neg (fun e=>e hc)]
   subst hc
   by_cases h7:mk=7
   ·subst h7
    by_cases hn:mn=k.renewal
    ·rw[if_pos ⟨rfl,hn⟩];subst hn;exact hear_granted c q k me ms mo mv ml md w h hK hv
    ·rw[if_neg (fun e=>hn e.2),if_neg (fun e=>by have:=e.1;omega),if_neg (fun e=>by have:=e.1;omega),if_neg (fun e=>by have:=e.1;omega)]
     exact hear_no7 c q k mn me ms mo mv ml md w h hK hv hn
   ·rw[if_neg (fun e=>h7 e.1)]
    by_cases h8:mk=8
    ·subst h8
     by_cases hn:mn=k.renewal
     ·rw[if_pos ⟨rfl,hn⟩];subst hn;exact hear_flush c q k me ms mo mv ml md w h hK hv
     ·rw[if_neg (fun e=>hn e.2),if_neg (fun e=>by have:=e.1;omega),if_neg (fun e=>by have:=e.1;omega)]
      exact hear_no8 c q k mn me ms mo mv ml md w h hK hv hn
    ·rw[if_neg (fun e=>h8 e.1)]
     by_cases h5:mk=5
     ·subst h5
      cases hw:k.waits 1 mn with
      | true=>rw[if_pos ⟨rfl,rfl⟩];exact hear_value c q k mn me ms mo mv ml md w h hK hv hw
      | false=>rw[if_neg (fun e=>by have:=e.2;simp at this),if_neg (fun e=>by have:=e.1;omega)];exact hear_no5 c q k mn me ms mo mv ml md w h hK hv hw
     ·rw[if_neg (fun e=>h5 e.1)]
      by_cases h6:mk=6
      ·subst h6
       cases hw:k.waits 2 mn with
       | true=>rw[if_pos ⟨rfl,rfl⟩];exact hear_done c q k mn me ms mo mv ml md w h hK hv hw
       | false=>rw[if_neg (fun e=>by have:=e.2;simp at this)];exact hear_no6 c q k mn me ms mo mv ml md w h hK hv hw
      ·rw[if_neg (fun e=>h6 e.1)]
       exact hear_none c q k mk mn me ms mo mv ml md w h hK hv h9 h7 h8 h5 h6
  ·rw[if_pos hc]
   exact hear_other c q k mk mc mn me ms mo mv ml md w h hK hv h9 hc
def K.new(id obj vol:Int):K:=⟨id,obj,vol,0,0,0,⟨#[]⟩,0,false,false,0,0,0,0,0,0,0,[],fun _=>0,0⟩
theorem new_any(o v d id:Int)(w:World)(ho0:0≤o)(ho:o≤1099511627776)(hv0:0≤v)(hv:v≤1099511627776)(hd0:0≤d)(hd:d≤500) :
  Calls Tryz.prog 122 #[.agg #[.int .i64 o,.int .i64 v,.int .i64 d],.int .i64 id] w fun e w'=>∃ c q,e = .returned (tp c)∧CliIs w' c q (K.new id (o*(1000-d) / (1000+d)) (v*(1000-d) / (1000+d)))∧w.heap.size≤c∧w.heap.size≤q∧Below w.heap.size w w':=by
 have hm:=fun (t:TypeId) (w:World)=>run_makeMap (P:=Tryz.prog) t w
 go_enter Tryz.func122,Tryz.ntmps122
 go_wp2_with (go_at_call 15;refine(Clock.short_any _ _ _ hd0 hd (by assumption) (by assumption)).mono ?_;rintro e w' ⟨rfl,rfl⟩)
 go_ret
 have h1:∀ a:Obj,(w.alloc a).heap.size=w.heap.size+1:=fun a=>by simp
 have h2:∀ a b:Obj,((w.alloc a).alloc b).heap.size=w.heap.size+1+1:=fun a b=>by simp
 have hB:∀ a b c:Obj,(((w.alloc a).alloc b).alloc c).heap[w.heap.size+1+1]?=some c:=fun a b c=>by rw[← h2 a b];exact heap_alloc_new _ _
 have hM:∀ a c:Obj,(((w.alloc a).alloc (.map #[] 0)).alloc c).ownsMap Tryz.prog 3 (plainElem (H:=Unit) Tryz.prog 3) (w.heap.size+1) 0 (.map []):=fun a c=>by
  have:=(World.ownsMap_made (w.alloc a) Tryz.prog 3 (plainElem (H:=Unit) Tryz.prog 3)).alloc c
  rw[h1] at this
  exact this
 refine⟨w.heap.size+1+1,w.heap.size+1,rfl,⟨⟨by simp[K.new],rfl,?_⟩,.nil,.map [],?_,tidy_empty,fun _ _ _=>rfl⟩,by omega,by omega,(((Below.refl _ _).alloc (Nat.le_refl _) _).alloc (by simp) _).alloc (by simp;omega) _⟩
 ·rw[hB];rfl
 ·exact hM _ _
end Wld
end
section
namespace Wal
open Go.RowKit
open Num (inB)
structure R where
 c:Int
 n:Int
 o:Int
 v:Int
 d:ByteArray
 e:Int
abbrev R.agg (r:R):Value:=.agg #[.int .i64 r.c,.int .i64 r.n,.int .i64 r.o,.int .i64 r.v,.string r.d,.int .i64 r.e]
def timeB(n:Int):Bool:=inB n 0 1099511627776
def epochB(r:R):Bool:=timeB r.e&&decide (r.c=0∧r.n=0∧r.v=0∧r.d.size=0)
def writeB(r:R):Bool:=timeB r.c&&timeB r.n&&timeB r.v&&decide (0≤r.o∧r.o<8∧r.d.size≤20∧r.e=0)
def mayB(r:R):Bool:=if r.o = -1 then epochB r else writeB r
theorem time_any(n:Int)(w:World) :
  Calls Tryz.prog 252 #[.int .i64 n] w fun e w'=>e = .returned (.bool (timeB n))∧w'=w:=by
 unfold timeB
 by_cases h0:0≤n
 ·by_cases h1:n≤1099511627776
  ·rw[Num.inB_true h0 h1]
   go_enter Tryz.func252,Tryz.ntmps252
   go_wp2
   go_ret
   exact⟨rfl,rfl⟩
  ·rw[Num.inB_above (by omega)]
   have h2:decide (n≤1099511627776)=false:=decide_eq_false h1
   go_enter Tryz.func252,Tryz.ntmps252
   go_wp2
   go_ret
   exact⟨rfl,rfl⟩
 ·rw[Num.inB_below (by omega)]
  have h2:decide (0≤n)=false:=decide_eq_false h0
  go_enter Tryz.func252,Tryz.ntmps252
  go_wp2
  go_ret
  exact⟨rfl,rfl⟩
theorem size0{d:ByteArray}:(d.toList == [])=decide (d.size=0):=by
 rw[Bool.eq_iff_iff]
 simp only[beq_iff_eq,decide_eq_true_eq]
 constructor
 ·intro h
  have:=congrArg List.length h
  rw[Go.ByteArray.toList_eq] at this
  simpa using this
 ·intro h
  rw[Go.ByteArray.toList_eq]
  exact List.length_eq_zero_iff.1 (by rw[Array.length_toList];exact h)
theorem may_epoch(c n v e:Int)(d:ByteArray)(w:World) :
  Calls Tryz.prog 218 #[R.agg ⟨c,n,-1,v,d,e⟩] w fun x w'=>x = .returned (.bool (epochB ⟨c,n,-1,v,d,e⟩))∧Below w.heap.size w w':=by
 dsimp only[R.agg]
 have hs:=size0 (d:=d)
 have hee:(e == e)=true:=by simp
 cases hte:timeB e with
 | false=>
  have HF:Hid (epochB ⟨c,n,-1,v,d,e⟩=false):=by show epochB ⟨c,n,-1,v,d,e⟩=_;simp[epochB,hte]
  go_enter Tryz.func218,Tryz.ntmps218
  go_wp2_with (first|(go_at_call 252;refine(time_any _ _).mono ?_;rintro x w' ⟨rfl,rfl⟩))
  go_ret
  exact⟨by rw[HF.out];rfl,(Below.refl _ _).alloc (Nat.le_refl _) _⟩
 | true=>
  by_cases hc:c=0
  ·by_cases hn:n=0
   ·by_cases hv:v=0
    ·by_cases hd:d.size=0
     ·rw[decide_eq_true hd] at hs
      subst hc hn hv
      have HF:Hid (epochB ⟨0,0,-1,0,d,e⟩=true):=by show epochB ⟨0,0,-1,0,d,e⟩=_;simp[epochB,hte,hd]
      clear hd
      go_enter Tryz.func218,Tryz.ntmps218
      go_wp2_with (first|(go_at_call 252;refine(time_any _ _).mono ?_;rintro x w' ⟨rfl,rfl⟩))
      go_ret
      exact⟨by rw[HF.out];rfl,(Below.refl _ _).alloc (Nat.le_refl _) _⟩
     ·rw[decide_eq_false hd] at hs
      have HF:Hid (epochB ⟨c,n,-1,v,d,e⟩=false):=by show epochB ⟨c,n,-1,v,d,e⟩=_;simp[epochB,hd]
      subst hc hn hv
      clear hd
      go_enter Tryz.func218,Tryz.ntmps218
      go_wp2_with (first|(go_at_call 252;refine(time_any _ _).mono ?_;rintro x w' ⟨rfl,rfl⟩))
      go_ret
      exact⟨by rw[HF.out];rfl,(Below.refl _ _).alloc (Nat.le_refl _) _⟩
    ·have hb:(v == 0)=false:=by simp[hv]
     have HF:Hid (epochB ⟨c,n,-1,v,d,e⟩=false):=by show epochB ⟨c,n,-1,v,d,e⟩=_;simp[epochB,hv]
     subst hc hn
     go_enter Tryz.func218,Tryz.ntmps218
     go_wp2_with (first|(go_at_call 252;refine(time_any _ _).mono ?_;rintro x w' ⟨rfl,rfl⟩))
     go_ret
     exact⟨by rw[HF.out];rfl,(Below.refl _ _).alloc (Nat.le_refl _) _⟩
   ·have hb:(n == 0)=false:=by simp[hn]
    have HF:Hid (epochB ⟨c,n,-1,v,d,e⟩=false):=by show epochB ⟨c,n,-1,v,d,e⟩=_;simp[epochB,hn]
    subst hc
    go_enter Tryz.func218,Tryz.ntmps218
    go_wp2_with (first|(go_at_call 252;refine(time_any _ _).mono ?_;rintro x w' ⟨rfl,rfl⟩))
    go_ret
    exact⟨by rw[HF.out];rfl,(Below.refl _ _).alloc (Nat.le_refl _) _⟩
  ·have hb:(c == 0)=false:=by simp[hc]
   have HF:Hid (epochB ⟨c,n,-1,v,d,e⟩=false):=by show epochB ⟨c,n,-1,v,d,e⟩=_;simp[epochB,hc]
   go_enter Tryz.func218,Tryz.ntmps218
   go_wp2_with (first|(go_at_call 252;refine(time_any _ _).mono ?_;rintro x w' ⟨rfl,rfl⟩))
   go_ret
   exact⟨by rw[HF.out];rfl,(Below.refl _ _).alloc (Nat.le_refl _) _⟩
theorem may_write(r:R)(w:World)(ho:r.o≠-1)(hsz:r.d.size≤1000) :
  Calls Tryz.prog 218 #[r.agg] w fun x w'=>x = .returned (.bool (writeB r))∧Below w.heap.size w w':=by
 obtain⟨c,n,o,v,d,e⟩:=r
 dsimp only[R.agg] at *
 have hob:(o == -1)=false:=by simp[ho]
 cases hc:timeB c with
 | false=>
  have HF:Hid (writeB ⟨c,n,o,v,d,e⟩=false):=by show writeB ⟨c,n,o,v,d,e⟩=_;simp[writeB,hc]
  go_enter Tryz.func218,Tryz.ntmps218
  go_wp2_with (first|(go_at_call 252;refine(time_any _ _).mono ?_;rintro x w' ⟨rfl,rfl⟩))
  go_ret
  exact⟨by rw[HF.out];rfl,(Below.refl _ _).alloc (Nat.le_refl _) _⟩
 | true=>
  cases hn:timeB n with
  | false=>
   have HF:Hid (writeB ⟨c,n,o,v,d,e⟩=false):=by show writeB ⟨c,n,o,v,d,e⟩=_;simp[writeB,hn]
   go_enter Tryz.func218,Tryz.ntmps218
   go_wp2_with (first|(go_at_call 252;refine(time_any _ _).mono ?_;rintro x w' ⟨rfl,rfl⟩))
   go_ret
   exact⟨by rw[HF.out];rfl,(Below.refl _ _).alloc (Nat.le_refl _) _⟩
  | true=>
   cases hv:timeB v with
   | false=>
    have HF:Hid (writeB ⟨c,n,o,v,d,e⟩=false):=by show writeB ⟨c,n,o,v,d,e⟩=_;simp[writeB,hv]
    go_enter Tryz.func218,Tryz.ntmps218
    go_wp2_with (first|(go_at_call 252;refine(time_any _ _).mono ?_;rintro x w' ⟨rfl,rfl⟩))
    go_ret
    exact⟨by rw[HF.out];rfl,(Below.refl _ _).alloc (Nat.le_refl _) _⟩
   | true=>
    by_cases h0:0≤o
    ·by_cases h1:o<8
     ·by_cases h2:d.size≤20
      ·have h2i:(d.size:Int)≤20:=by omega
       by_cases h3:e=0
       ·have hb:(e == 0)=true:=by simp[h3]
        have HF:Hid (writeB ⟨c,n,o,v,d,e⟩=true):=by show writeB ⟨c,n,o,v,d,e⟩=_;simp[writeB,hc,hn,hv,h0,h1,h2,h3]
        clear h3
        go_enter Tryz.func218,Tryz.ntmps218
        go_wp2_with (first|(go_at_call 252;refine(time_any _ _).mono ?_;rintro x w' ⟨rfl,rfl⟩))
        go_ret
        exact⟨by rw[HF.out];rfl,(Below.refl _ _).alloc (Nat.le_refl _) _⟩
       ·have hb:(e == 0)=false:=by simp[h3]
        have HF:Hid (writeB ⟨c,n,o,v,d,e⟩=false):=by show writeB ⟨c,n,o,v,d,e⟩=_;simp[writeB,h3]
        go_enter Tryz.func218,Tryz.ntmps218
        go_wp2_with (first|(go_at_call 252;refine(time_any _ _).mono ?_;rintro x w' ⟨rfl,rfl⟩))
        go_ret
        exact⟨by rw[HF.out];rfl,(Below.refl _ _).alloc (Nat.le_refl _) _⟩
      ·have hb:decide ((d.size:Int)≤20)=false:=decide_eq_false (by omega)
       have HF:Hid (writeB ⟨c,n,o,v,d,e⟩=false):=by show writeB ⟨c,n,o,v,d,e⟩=_;simp[writeB];omega
       go_enter Tryz.func218,Tryz.ntmps218
       go_wp2_with (first|(go_at_call 252;refine(time_any _ _).mono ?_;rintro x w' ⟨rfl,rfl⟩))
       go_ret
       exact⟨by rw[HF.out];rfl,(Below.refl _ _).alloc (Nat.le_refl _) _⟩
     ·have hb:decide (o<8)=false:=decide_eq_false h1
      have HF:Hid (writeB ⟨c,n,o,v,d,e⟩=false):=by show writeB ⟨c,n,o,v,d,e⟩=_;simp[writeB];omega
      go_enter Tryz.func218,Tryz.ntmps218
      go_wp2_with (first|(go_at_call 252;refine(time_any _ _).mono ?_;rintro x w' ⟨rfl,rfl⟩))
      go_ret
      exact⟨by rw[HF.out];rfl,(Below.refl _ _).alloc (Nat.le_refl _) _⟩
    ·have hb:decide (0≤o)=false:=decide_eq_false h0
     have HF:Hid (writeB ⟨c,n,o,v,d,e⟩=false):=by show writeB ⟨c,n,o,v,d,e⟩=_;simp[writeB];omega
     go_enter Tryz.func218,Tryz.ntmps218
     go_wp2_with (first|(go_at_call 252;refine(time_any _ _).mono ?_;rintro x w' ⟨rfl,rfl⟩))
     go_ret
     exact⟨by rw[HF.out];rfl,(Below.refl _ _).alloc (Nat.le_refl _) _⟩
theorem may_any(r:R)(w:World)(hsz:r.d.size≤1000) :
  Calls Tryz.prog 218 #[r.agg] w fun x w'=>x = .returned (.bool (mayB r))∧Below w.heap.size w w':=by
 by_cases ho:r.o = -1
 ·have hE:mayB r=epochB r:=by simp[mayB,ho]
  rw[hE]
  obtain⟨c,n,o,v,d,e⟩:=r
  dsimp only at ho
  subst ho
  exact may_epoch c n v e d w
 ·have hE:mayB r=writeB r:=by simp[mayB,ho]
  rw[hE]
  exact may_write r w ho hsz
end Wal
end
end Go.Proofs.YtbebfliimjjohabGreatDoor
