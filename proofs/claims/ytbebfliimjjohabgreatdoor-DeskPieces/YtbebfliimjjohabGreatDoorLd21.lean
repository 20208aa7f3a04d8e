/- Parts of the proof. -/
import Derived.Test.YtbebfliimjjohabGreatDoorLd20
import Derived.Maps.RangeWalk
import Derived.Test.YtbebfliimjjohabGreatDoorLd12
set_option maxRecDepth 100000
set_option maxHeartbeats 8000000
namespace Go.Proofs.YtbebfliimjjohabGreatDoor
section
namespace Wld
open Go.RowKit Go.Maps
open Lease (Ob I64 upd TabIs hol dels objB HasI kk mx)
open Cache (tp row_kept row_below)
open Wal (R mayB timeB)
open Num (M)
def Leased(s s':Sv):Prop:=∃ D v z,s' = { s with D:=D,vol:=v,ses:=z }
theorem Leased.refl(s:Sv):Leased s s:=⟨s.D,s.vol,s.ses,rfl⟩
theorem Leased.trans{a b c:Sv}(h:Leased a b)(k:Leased b c):Leased a c:=by
 obtain⟨D,v,z,rfl⟩:=h
 obtain⟨D',v',z',rfl⟩:=k
 exact⟨D',v',z',rfl⟩
theorem await_leased(now:Int):∀ (cs:List Int) (s:Sv),Leased s (s.await now cs).1
 | [],s=>Leased.refl s
 | c :: cs,s=>by
  rw[await_cons]
  split
  ·exact await_leased now cs s
  ·exact Leased.trans ⟨dels s.D c 8,upd s.vol c 0,upd s.ses c (s.ses c+1),rfl⟩ (await_leased now cs (s.flushed c))
theorem awaited_leased(s:Sv)(o:Nat)(now:Int):Leased s (s.awaited o now).1:=by
 unfold Sv.awaited
 split
 ·exact Leased.refl s
 ·exact await_leased now _ s
theorem remind_leased(s:Sv)(seat now:Int):∀ k,Leased s (s.remindN seat now k).1
 | 0=>Leased.refl s
 | k+1=>(remind_leased s seat now k).trans (awaited_leased _ k now)
theorem renewS_any(a:Ad)(s:Sv)(mk mc mn me ms mo mv:Int)(ml:Bool)(md:ByteArray)(now:Int)(w:World)(h:SvIs w a s)(hc:0≤mc)(hok:SvOk s 1000000000000000)(hn0:0≤now)(hn1:now≤549755813888)(ht0:0≤s.tv)(ht1:s.tv≤274877906944) :
  Calls Tryz.prog 187 #[tp a.S,Wire.M.agg ⟨mk,mc,mn,me,ms,mo,mv,ml,md⟩,.int .i64 now] w fun e w'=>∃ v,e = .returned v∧Tells w w' a v (s.renewS ⟨mk,mc,mn,me,ms,mo,mv,ml,md⟩ now).1 (s.renewS ⟨mk,mc,mn,me,ms,mo,mv,ml,md⟩ now).2:=by
 have hB:MB (mbox w mk mc mn me ms mo mv ml md) w.heap.size ⟨mk,mc,mn,me,ms,mo,mv,ml,md⟩:=mbox_is w _ _ _ _ _ _ _ _ _
 have F:SvIs (mbox w mk mc mn me ms mo mv ml md) a s:=h.alloc _
 have hF:Fs a w (mbox w mk mc mn me ms mo mv ml md):=(Fs.refl _ _).alloc h _
 have hfr:¬ foot (mbox w mk mc mn me ms mo mv ml md) a w.heap.size:=h.fresh ((Below.refl _ _).alloc (Nat.le_refl _) _) (Nat.le_refl _)
 have hsz:(mbox w mk mc mn me ms mo mv ml md).heap.size=w.heap.size+1:=by simp
 have hmw0:=h.lts
 have hsl:=seatN_lt mc
 have hseat:=fun w=>seat_any mc w hc
 have hlz:=remind_leased s (seatN mc:Nat) now 8
 have hrn:=fun w h=>remind_any a s (seatN mc:Nat) now w h hok
 have HR:Hid (∀ (s1:Sv) (l:List M),s.remindN (seatN mc:Nat) now 8=(s1,l)→s.renewS ⟨mk,mc,mn,me,ms,mo,mv,ml,md⟩ now=if l.length≠0 then (s1,l) else if me≠s1.epoch∨ms≠s1.ses (seatN mc:Nat) then (s1,[s1.answer 8 ⟨mk,mc,mn,me,ms,mo,mv,ml,md⟩]) else ({ s1 with vol:=upd s1.vol (seatN mc:Nat) (mx (s1.vol (seatN mc:Nat)) (now+s1.tv)) },[s1.answer 7 ⟨mk,mc,mn,me,ms,mo,mv,ml,md⟩])):=fun s1 l e=>by
  unfold Sv.renewS
  dsimp only
  rw[e]
 obtain⟨y,hy⟩:∃ y,s.remindN (seatN mc:Nat) now 8=y:=⟨_,rfl⟩
 obtain⟨s1,l⟩:=y
 have HE:Hid (s.renewS ⟨mk,mc,mn,me,ms,mo,mv,ml,md⟩ now=if l.length≠0 then (s1,l) else if me≠s1.epoch∨ms≠s1.ses (seatN mc:Nat) then (s1,[s1.answer 8 ⟨mk,mc,mn,me,ms,mo,mv,ml,md⟩]) else ({ s1 with vol:=upd s1.vol (seatN mc:Nat) (mx (s1.vol (seatN mc:Nat)) (now+s1.tv)) },[s1.answer 7 ⟨mk,mc,mn,me,ms,mo,mv,ml,md⟩])):=HR.out s1 l hy
 simp only[hy] at hrn hlz
 have ht1':s1.tv=s.tv:=by obtain⟨_,_,_,rfl⟩:=hlz;rfl
 rw[← ht1'] at ht0 ht1
 clear HR hy hlz ht1' hok
 unfold mbox at *
 unfold Wire.M.agg
 dsimp only
 clear h
 go_enter Tryz.func187,Tryz.ntmps187
 go_upto_region 1 with fail
 generalize w.alloc (.cells #[.int .i64 mk,.int .i64 mc,.int .i64 mn,.int .i64 me,.int .i64 ms,.int .i64 mo,.int .i64 mv,.bool ml,.string md] 129)=w1 at *
 have b1:=hB.c1
 dsimp only at b1
 go_wp2_with (go_at_call 137;refine(hseat _).mono ?_;rintro e w' ⟨rfl,rfl⟩)
 refine(hrn _ F).mono ?_
 rintro e w2 ⟨v2,rfl,T2⟩
 obtain⟨av,cv,hav,hcv,hcn⟩:=Net.row_shape T2.out.own
 subst hav
 have F2:=T2.sv
 have hF2:=hF.trans T2.fs
 have hB2:=hB.fs T2.fs (by omega) hfr
 have hfr2:¬ foot w2 a w.heap.size:=fun f=>hfr (T2.fs.grows _ (by omega) f)
 have hs2:=T2.fs.size
 clear hrn hcv
 by_cases hl:l.length=0
 ·have HE2:Hid (s.renewS ⟨mk,mc,mn,me,ms,mo,mv,ml,md⟩ now=if me≠s1.epoch∨ms≠s1.ses (seatN mc:Nat) then (s1,[s1.answer 8 ⟨mk,mc,mn,me,ms,mo,mv,ml,md⟩]) else ({ s1 with vol:=upd s1.vol (seatN mc:Nat) (mx (s1.vol (seatN mc:Nat)) (now+s1.tv)) },[s1.answer 7 ⟨mk,mc,mn,me,ms,mo,mv,ml,md⟩])):=HE.out.trans (if_neg (by simpa using hl))
  rw[hl]
  clear T2 hl HE hB hF F hfr b1 hcn
  have b0:=hB2.c0
  have b1:=hB2.c1
  have b2:=hB2.c2
  have b3:=hB2.c3
  have b4:=hB2.c4
  have b5:=hB2.c5
  have b6:=hB2.c6
  have b7:=hB2.c7
  have b8:=hB2.c8
  dsimp only at b0 b1 b2 b3 b4 b5 b6 b7 b8
  have han:=answer_any a s1 7 ⟨mk,mc,mn,me,ms,mo,mv,ml,md⟩ w2 F2 hc
  unfold Wire.M.agg Sv.answer at han
  dsimp only at han
  go_wp2_with fail
  refine han.mono ?_
  rintro e w3 ⟨rfl,hb3⟩
  clear han
  have hs3:=hb3.size
  have F3:=F2.below hb3
  have hF3:=hF2.below F2 hb3
  have hB3:=hB2.below hb3 (by omega)
  have hl2:=F2.lts
  clear hB2 F2 hF2 b0 b1 b2 b3 b4 b5 b6 b7 b8
  go_upto_region 5 with fail
  generalize hW:w3.alloc (.cells #[.int .i64 7,.int .i64 mc,.int .i64 mn,.int .i64 s1.epoch,.int .i64 (s1.ses (seatN mc:Nat)),.int .i64 0,.int .i64 0,.bool false,.string ⟨#[]⟩] 129)=w4
  have hb4:Below w3.heap.size w3 w4:=by rw[← hW];exact(Below.refl _ _).alloc (Nat.le_refl _) _
  have hs4:w4.heap.size=w3.heap.size+1:=by rw[← hW];simp
  have hA4:MB w4 w3.heap.size ⟨7,mc,mn,s1.epoch,s1.ses (seatN mc:Nat),0,0,false,⟨#[]⟩⟩:=by
   rw[← hW]
   exact mbox_is w3 7 mc mn s1.epoch (s1.ses (seatN mc:Nat)) 0 0 false ⟨#[]⟩
  have hZ4:∀ i,w4.frozen? ⟨w3.heap.size,i,none⟩=false:=fun i=>by rw[← hW];simp
  have F4:=F3.below hb4
  have hF4:=hF3.below F3 hb4
  have hB4:=hB3.below hb4 (by omega)
  have hfa4:¬ foot w4 a w3.heap.size:=F3.fresh hb4 (by omega)
  clear hW F3 hF3 hB3 hb4 hb3
  have b1:=hB4.c1
  have b3:=hB4.c3
  have b4:=hB4.c4
  have a3:=hA4.c3
  have a4:=hA4.c4
  dsimp only at b1 b3 b4 a3 a4
  have c47:=F4.c47
  have c1:=F4.c1
  have hsT:a.T<w.heap.size∧a.T≠a.S∧a.S<w.heap.size:=⟨hmw0.2.2.2.1,hmw0.2.2.2.2.2.2.2.2.2.2.2.2.1,hmw0.2.2.2.2.1⟩
  by_cases hd:me≠s1.epoch∨ms≠s1.ses (seatN mc:Nat)
  ·have HE3:Hid (s.renewS ⟨mk,mc,mn,me,ms,mo,mv,ml,md⟩ now=(s1,[s1.answer 8 ⟨mk,mc,mn,me,ms,mo,mv,ml,md⟩])):=HE2.out.trans (if_pos hd)
   clear HE2 c47 c1 b1
   go_cut[51] from 22 to 50 (fun x wx=>x = .bool true∧∃ j,wx=w4.drewN j)
   case first=>
    by_cases h1:me=s1.epoch
    ·have h2:ms≠s1.ses (seatN mc:Nat):=hd.resolve_left (fun q=>q h1)
     have g1:(me != s1.epoch)=false:=by simpa using h1
     have g2:(ms != s1.ses (seatN mc:Nat))=true:=by simpa using h2
     clear h1 h2 hd
     go_quiet (fail)
     go_wp2_with fail
     go_meet
     case rel=>exact⟨rfl,_,rfl⟩
    ·have g1:(me != s1.epoch)=true:=by simpa using h1
     clear h1 hd
     go_quiet (fail)
     go_wp2_with fail
     go_meet
     case rel=>exact⟨rfl,_,rfl⟩
   case rest=>
    obtain⟨rfl,j,hj⟩:=hcut
    have F5:SvIs wc a s1:=by rw[hj];exact F4.drewN j
    have hF5:Fs a w wc:=by rw[hj];exact hF4.drewN j
    have hA5:MB wc w3.heap.size ⟨7,mc,mn,s1.epoch,s1.ses (seatN mc:Nat),0,0,false,⟨#[]⟩⟩:=by rw[hj];exact⟨hA4.c0,hA4.c1,hA4.c2,hA4.c3,hA4.c4,hA4.c5,hA4.c6,hA4.c7,hA4.c8⟩
    have hfz:wc.frozen? ⟨w3.heap.size,0,none⟩=false:=by rw[hj];exact hZ4 0
    have hfa5:¬ foot wc a w3.heap.size:=by rw[hj];exact hfa4
    have hs5:wc.heap.size=w3.heap.size+1:=by rw[hj];exact hs4
    clear hj F4 hF4 hB4 hA4 hZ4 hfa4 b3 b4 a3 a4
    have b0:=hA5.c0
    dsimp only at b0
    go_upto_region 7 with fail
    have hb:∀ k,k≠w3.heap.size→(wc.setCell ⟨w3.heap.size,0,none⟩ (.int .i64 8)).heap[k]?=wc.heap[k]?:=fun k hk=>Below.heap_setCell wc ⟨w3.heap.size,0,none⟩ _ k hk
    obtain⟨k1,k2⟩:=hF5.beyond F5 (z:=wc.setCell ⟨w3.heap.size,0,none⟩ (.int .i64 8)) rfl rfl rfl (by simp) (fun k hk hf=>hb k (fun e=>by
     subst e
     rcases hf with hf|hf
     ·omega
     ·exact hfa5 hf))
    have e:∀ j,j≠0→(wc.setCell ⟨w3.heap.size,0,none⟩ (.int .i64 8)).cell? ⟨w3.heap.size,j,none⟩=wc.cell? ⟨w3.heap.size,j,none⟩:=fun j hj=>World.cell?_setCell_other _ _ _ _ (by intro q;injection q with _ q;exact hj q.symm)
    have d0:=World.cell?_setCell_same wc ⟨w3.heap.size,0,none⟩ (.int .i64 8) b0
    have d1:=(e 1 (by omega)).trans hA5.c1
    have d2:=(e 2 (by omega)).trans hA5.c2
    have d3:=(e 3 (by omega)).trans hA5.c3
    have d4:=(e 4 (by omega)).trans hA5.c4
    have d5:=(e 5 (by omega)).trans hA5.c5
    have d6:=(e 6 (by omega)).trans hA5.c6
    have d7:=(e 7 (by omega)).trans hA5.c7
    have d8:=(e 8 (by omega)).trans hA5.c8
    dsimp only at d1 d2 d3 d4 d5 d6 d7 d8
    clear hb e b0 hA5 hfz hF5 F5 hfa5
    generalize wc.setCell ⟨w3.heap.size,0,none⟩ (.int .i64 8)=w6 at *
    go_wp2_with (refine wpList_oneMsg rfl 53 rfl ⟨8,mc,mn,s1.epoch,s1.ses (seatN mc:Nat),0,0,false,⟨#[]⟩⟩ rfl ?_)
    go_ret
    rw[HE3.out]
    exact⟨_,rfl,Tells.one ⟨8,mc,mn,s1.epoch,s1.ses (seatN mc:Nat),0,0,false,⟨#[]⟩⟩ k2 k1⟩
  ·have HE3:Hid (s.renewS ⟨mk,mc,mn,me,ms,mo,mv,ml,md⟩ now=({ s1 with vol:=upd s1.vol (seatN mc:Nat) (mx (s1.vol (seatN mc:Nat)) (now+s1.tv)) },[s1.answer 7 ⟨mk,mc,mn,me,ms,mo,mv,ml,md⟩])):=HE2.out.trans (if_neg hd)
   have h1:me=s1.epoch:=Classical.byContradiction fun q=>hd (.inl q)
   have h2:ms=s1.ses (seatN mc:Nat):=Classical.byContradiction fun q=>hd (.inr q)
   have g1:(me != s1.epoch)=false:=by simpa using h1
   have g2:(ms != s1.ses (seatN mc:Nat))=false:=by simpa using h2
   have hwr:IntKind.i64.wrap (now+s1.tv)=now+s1.tv:=wrapI (by omega) (by omega)
   have hvol:=Lease.vol_ok a.T a.m s1.n (seatN mc) (now+s1.tv) s1.D s1.vol s1.ses w4.drew F4.drew.tab hsl (Num.inB_true (by omega) (by omega))
   clear h1 h2 hd HE2
   refine Gen.start (S:=fun w'=>w'.cell? ⟨w.heap.size,3,none⟩=some (.int .i64 me)∧w'.cell? ⟨w.heap.size,4,none⟩=some (.int .i64 ms)∧w'.cell? ⟨w3.heap.size,3,none⟩=some (.int .i64 s1.epoch)∧w'.cell? ⟨w3.heap.size,4,none⟩=some (.int .i64 (s1.ses (seatN mc:Nat)))∧w'.cell? ⟨w.heap.size,1,none⟩=some (.int .i64 mc)∧w'.cell? ⟨a.S,47,none⟩=some (tp a.T)∧w'.cell? ⟨a.S,1,none⟩=some (.int .i64 s1.tv)) (by kernel_rfl) ⟨b3,b4,a3,a4,b1,c47,c1⟩ (fun hHeld=>?_)
   refine Gen.tk 0 1 ?_ rfl rfl (Or.inl ⟨by rfl,?_⟩) hHeld ?_;rotate_left
   ·rintro w' ⟨s0,s1,s2,s3,s4,s5,s6⟩;go_simp;try with_reducible rfl
   go_frame
   refine Gen.tk 1 4 ?_ rfl rfl (Or.inl ⟨by rfl,?_⟩) hHeld ?_;rotate_left
   ·rintro w' ⟨s0,s1,s2,s3,s4,s5,s6⟩;go_simp;try with_reducible rfl
   go_frame
   refine Gen.tk 2 3 ?_ rfl rfl (Or.inl ⟨by rfl,?_⟩) hHeld ?_;rotate_left
   ·rintro w' ⟨s0,s1,s2,s3,s4,s5,s6⟩;go_simp;try with_reducible rfl
   go_frame
   refine Gen.tk 3 4 ?_ rfl rfl (Or.inl ⟨by rfl,?_⟩) hHeld ?_;rotate_left
   ·rintro w' ⟨s0,s1,s2,s3,s4,s5,s6⟩;go_simp;try with_reducible rfl
   go_frame
   refine Gen.tk 4 5 ?_ rfl rfl (Or.inl ⟨by rfl,?_⟩) hHeld ?_;rotate_left
   ·rintro w' ⟨s0,s1,s2,s3,s4,s5,s6⟩;go_simp;try with_reducible rfl
   go_frame
   refine Gen.tk 5 6 ?_ rfl rfl (Or.inl ⟨by rfl,?_⟩) hHeld ?_;rotate_left
   ·rintro w' ⟨s0,s1,s2,s3,s4,s5,s6⟩;go_simp;try with_reducible rfl
   go_frame
   refine Gen.tk 6 7 ?_ rfl rfl (Or.inl ⟨by rfl,?_⟩) hHeld ?_;rotate_left
   ·rintro w' ⟨s0,s1,s2,s3,s4,s5,s6⟩;go_simp;try with_reducible rfl
   go_frame
   refine Gen.tk 7 10 ?_ rfl rfl (Or.inl ⟨by rfl,?_⟩) hHeld ?_;rotate_left
   ·rintro w' ⟨s0,s1,s2,s3,s4,s5,s6⟩;go_simp;try with_reducible rfl
   go_frame
   refine Gen.tk 8 9 ?_ rfl rfl (Or.inl ⟨by rfl,?_⟩) hHeld ?_;rotate_left
   ·rintro w' ⟨s0,s1,s2,s3,s4,s5,s6⟩;go_simp;try with_reducible rfl
   go_frame
   refine Gen.tk 9 10 ?_ rfl rfl (Or.inl ⟨by rfl,?_⟩) hHeld ?_;rotate_left
   ·rintro w' ⟨s0,s1,s2,s3,s4,s5,s6⟩;go_simp;try with_reducible rfl
   go_frame
   refine Gen.tk 10 11 ?_ rfl rfl (Or.inl ⟨by rfl,?_⟩) hHeld ?_;rotate_left
   ·rintro w' ⟨s0,s1,s2,s3,s4,s5,s6⟩;go_simp;try with_reducible rfl
   go_frame
   refine Gen.tk 11 12 ?_ rfl rfl (Or.inl ⟨by rfl,?_⟩) hHeld ?_;rotate_left
   ·rintro w' ⟨s0,s1,s2,s3,s4,s5,s6⟩;go_simp;try with_reducible rfl
   go_frame
   refine Gen.tk 12 13 ?_ rfl rfl (Or.inl ⟨by rfl,?_⟩) hHeld ?_;rotate_left
   ·rintro w' ⟨s0,s1,s2,s3,s4,s5,s6⟩;go_simp;try with_reducible rfl
   go_frame
   refine Gen.tk 13 14 ?_ rfl rfl (Or.inl ⟨by rfl,?_⟩) hHeld ?_;rotate_left
   ·rintro w' ⟨s0,s1,s2,s3,s4,s5,s6⟩;go_simp;try with_reducible rfl
   go_frame
   refine Gen.tk 14 15 ?_ rfl rfl (Or.inl ⟨by rfl,?_⟩) hHeld ?_;rotate_left
   ·rintro w' ⟨s0,s1,s2,s3,s4,s5,s6⟩;go_simp;try with_reducible rfl
   go_frame
   refine Gen.tk 15 16 ?_ rfl rfl (Or.inl ⟨by rfl,?_⟩) hHeld ?_;rotate_left
   ·rintro w' ⟨s0,s1,s2,s3,s4,s5,s6⟩;go_simp;try with_reducible rfl
   go_frame
   refine Gen.tk 16 27 ?_ rfl rfl (Or.inl ⟨by rfl,?_⟩) hHeld ?_;rotate_left
   ·rintro w' ⟨s0,s1,s2,s3,s4,s5,s6⟩;go_simp;try with_reducible rfl
   go_frame
   refine Gen.tk 17 18 ?_ rfl rfl (Or.inl ⟨by rfl,?_⟩) hHeld ?_;rotate_left
   ·rintro w' ⟨s0,s1,s2,s3,s4,s5,s6⟩;go_simp;try with_reducible rfl
   go_frame
   refine Gen.tk 18 19 ?_ rfl rfl (Or.inl ⟨by rfl,?_⟩) hHeld ?_;rotate_left
   ·rintro w' ⟨s0,s1,s2,s3,s4,s5,s6⟩;go_simp;try with_reducible rfl
   go_frame
   refine Gen.tk 20 26 ?_ rfl rfl (Or.inl ⟨by rfl,?_⟩) hHeld ?_;rotate_left
   ·rintro w' ⟨s0,s1,s2,s3,s4,s5,s6⟩;go_simp;try with_reducible rfl
   go_frame
   refine Gen.tk 21 22 ?_ rfl rfl (Or.inl ⟨by rfl,?_⟩) hHeld ?_;rotate_left
   ·rintro w' ⟨s0,s1,s2,s3,s4,s5,s6⟩;go_simp;try with_reducible rfl
   go_frame
   refine Gen.tk 22 23 ?_ rfl rfl (Or.inl ⟨by rfl,?_⟩) hHeld ?_;rotate_left
   ·rintro w' ⟨s0,s1,s2,s3,s4,s5,s6⟩;go_simp;try with_reducible rfl
   go_frame
   refine Gen.tk 23 24 ?_ rfl rfl (Or.inl ⟨by rfl,?_⟩) hHeld ?_;rotate_left
   ·rintro w' ⟨s0,s1,s2,s3,s4,s5,s6⟩;go_simp;try with_reducible rfl
   go_frame
   refine Gen.tk 24 25 ?_ rfl rfl (Or.inl ⟨by rfl,?_⟩) hHeld ?_;rotate_left
   ·rintro w' ⟨s0,s1,s2,s3,s4,s5,s6⟩;go_simp;try with_reducible rfl
   go_frame
   refine Gen.tk 25 26 ?_ rfl rfl (Or.inl ⟨by rfl,?_⟩) hHeld ?_;rotate_left
   ·rintro w' ⟨s0,s1,s2,s3,s4,s5,s6⟩;go_simp;try with_reducible rfl
   go_frame
   refine Gen.tk 26 27 ?_ rfl rfl (Or.inl ⟨by rfl,?_⟩) hHeld ?_;rotate_left
   ·rintro w' ⟨s0,s1,s2,s3,s4,s5,s6⟩;go_simp;try with_reducible rfl
   go_frame
   refine Gen.oneG (i:=19) (by kernel_rfl) rfl rfl (by rfl) (fun K hK=>?_)
   go_simp
   refine(hseat _).mono ?_
   rintro e w5 ⟨rfl,hw5⟩
   rw[hw5]
   clear hw5
   dsimp only
   refine hK.out _ _ ⟨b3,b4,a3,a4,b1,c47,c1⟩ (fun hHeld=>?_)
   clear hK K
   try go_frame
   refine Gen.oneG (i:=27) (by kernel_rfl) rfl rfl (by rfl) (fun K hK=>?_)
   go_simp
   refine hvol.mono ?_
   rintro e w5 ⟨rfl,hT5,hO5⟩
   dsimp only
   have e5:∀ k,k≠a.T→k<w4.heap.size→w5.heap[k]?=w4.heap[k]?:=fun k hk hl=>hO5.block k hl (by simpa using hk)
   have eS:=e5 a.S (by omega) (by omega)
   have eB:=e5 w.heap.size (by omega) (by omega)
   have eA:=e5 w3.heap.size (by omega) (by omega)
   have F5:=F4.drew.table hT5 (hO5.mono (by simp))
   have hF5:Fs a w w5:=hF4.drew.ob F4.drew (hO5.mono (by simp))
   have hA5:MB w5 w3.heap.size ⟨7,mc,mn,s1.epoch,s1.ses (seatN mc:Nat),0,0,false,⟨#[]⟩⟩:=by
    have e:∀ j,w5.cell? ⟨w3.heap.size,j,none⟩=w4.cell? ⟨w3.heap.size,j,none⟩:=fun j=>World.cell?_of_block eA
    exact⟨(e _).trans hA4.c0,(e _).trans hA4.c1,(e _).trans hA4.c2,(e _).trans hA4.c3,(e _).trans hA4.c4,(e _).trans hA4.c5,(e _).trans hA4.c6,(e _).trans hA4.c7,(e _).trans hA4.c8⟩
   refine hK.out _ _ ⟨(World.cell?_of_block (a:=⟨w.heap.size,3,none⟩) eB).trans b3,(World.cell?_of_block (a:=⟨w.heap.size,4,none⟩) eB).trans b4,(World.cell?_of_block (a:=⟨w3.heap.size,3,none⟩) eA).trans a3,(World.cell?_of_block (a:=⟨w3.heap.size,4,none⟩) eA).trans a4,(World.cell?_of_block (a:=⟨w.heap.size,1,none⟩) eB).trans b1,(World.cell?_of_block (a:=⟨a.S,47,none⟩) eS).trans c47,(World.cell?_of_block (a:=⟨a.S,1,none⟩) eS).trans c1⟩ (fun hHeld=>?_)
   clear hK K
   try go_frame
   refine Gen.tk 28 29 ?_ rfl rfl (Or.inl ⟨by rfl,?_⟩) hHeld ?_;rotate_left
   ·rintro w' ⟨s0,s1,s2,s3,s4,s5,s6⟩;go_simp;try with_reducible rfl
   go_frame
   refine Gen.last (i:=29) (by kernel_rfl) rfl rfl (by kernel_rfl) (by kernel_rfl) (fun K hK=>?_)
   go_simp
   refine hK.out _ _ ?_
   clear hK K
   clear hHeld hvol hT5 hO5 F4 hF4 hB4 hA4 hZ4 hfa4 b1 b3 b4 a3 a4 c47 c1 e5 eS eB eA
   have b0:=hA5.c0
   have b1:=hA5.c1
   have b2:=hA5.c2
   have b3:=hA5.c3
   have b4:=hA5.c4
   have b5:=hA5.c5
   have b6:=hA5.c6
   have b7:=hA5.c7
   have b8:=hA5.c8
   dsimp only at b0 b1 b2 b3 b4 b5 b6 b7 b8
   go_wp2_with (refine wpList_oneMsg rfl 53 rfl ⟨7,mc,mn,s1.epoch,s1.ses (seatN mc:Nat),0,0,false,⟨#[]⟩⟩ rfl ?_)
   go_ret
   rw[HE3.out]
   exact⟨_,rfl,Tells.one ⟨7,mc,mn,s1.epoch,s1.ses (seatN mc:Nat),0,0,false,⟨#[]⟩⟩ F5 hF5⟩
 ·obtain⟨n,hn'⟩:∃ n,l.length=n+1:=⟨l.length-1,by omega⟩
  have HT:Hid (Tells w w2 a (.slice av l.length cv) s1 l):=⟨⟨T2.out.own.mono (by omega),T2.out.sep⟩,T2.sv,hF2⟩
  have HL:Hid (l.length=n+1):=hn'
  have hgt:decide ((0:Int)<((n+1:Nat):Int))=true:=decide_eq_true (by omega)
  rw[hn']
  clear T2 hn' hl F2 hF2 hB2 hfr2
  go_wp2_with fail
  go_ret
  rw[HE.out,if_pos (by rw[HL.out];omega),← HL.out]
  exact⟨_,rfl,HT.out⟩
end Wld
end
section
namespace App
open Go
theorem run_void{P:Program}(w:World)(base:Nat)(t ty e:TypeId)(i:TypeInfo)(size:Nat)(ht:P.underlying t=some (.slice e))(hi:P.info? e=some i)(_hsize:i.size=size)
  (v:Value) (n:Nat) (xs:List Value) (hown:w.ownsRow base e size v n xs) :
  (Builtin.append_ #[t,t] ty #[v,.slice none 0 0]).run P w = .ok v w:=by
 rcases hown.2 with ⟨rfl,rfl⟩|⟨g,cap,cur,rfl,hbg,hg,hnc,hcm,hcs,htake⟩
 ·simp[Builtin.append_,run_underlying ht,sizeOf,typeInfo,hi,Builtin.lenOf,Builtin.firstCells]
 ·simp[Builtin.append_,run_underlying ht,sizeOf,typeInfo,hi,Builtin.lenOf,Builtin.firstCells,loadCells,hnc,storeCells]
theorem wpList_void{P:Program}{w:World}{ops:Array Oper}{rest:List Oper}{o:Oper}{a:Act}{Q:Exit→Act→World→Prop}(hgd:o.guard=none)(s x:Operand)(t:TypeId)
  (ho:o.op = .call { callee:=.builtin .append,args:=#[s,x],argTypes:=#[t,t] })
  (base:Nat) (e:TypeId) (i:TypeInfo) (size:Nat) (ht:P.underlying t=some (.slice e)) (hi:P.info? e=some i) (hsize:i.size=size)
  (v:Value) (n:Nat) (xs:List Value) (hs:a.eval s=v) (hx:a.eval x = .slice none 0 0) (hown:w.ownsRow base e size v n xs)
  (h:wpList P ops Q rest (a.put o.dst v) w):wpList P ops Q (o :: rest) a w:=
 wpList_plain hgd fun _ hK=>by
  unfold Oper.wp execOp
  simp only[ho,resolve,invoke,builtin,Sem.run_bind,Sem.run_pure,Result.andThen_ok,List.map_toArray,List.map_cons,List.map_nil,hs,hx,run_void w base t o.type e i size ht hi hsize v n xs hown]
  exact hK _ _ h
end App
end
section
namespace Wld
open Go.RowKit Go.Maps
open Lease (Ob I64 upd TabIs hol dels objB HasI kk mx)
open Cache (tp row_kept row_below)
open Wal (R mayB timeB)
open Num (M)
theorem Out.cat{w wr z:World}{a:Ad}{s:Sv}{v v':Value}{l l2:List M}(h:Out w wr a v l)(hs:SvIs wr a s)(hw:Fs a w wr)(hown:z.ownsRow w.heap.size 129 9 v' (l.length+l2.length) (mcells l++mcells l2))(hg:wr.grownBy z v.ownBlock)(hat:∀ g,v'.ownBlock=some g→v.ownBlock=some g∨wr.heap.size≤g) :
  Out w z a v' (l++l2)∧SvIs z a s∧Fs a w z:=by
 have hz:=hg.size
 have hb:∀ k,k<wr.heap.size→(k<w.heap.size∨foot wr a k)→z.heap[k]?=wr.heap[k]?:=fun k hk hf=>by
  have hne:some k≠v.ownBlock:=fun e=>by
   rcases hf with hf|hf
   ·have:=(World.ownsRow.lt h.own k e.symm).1;omega
   ·exact h.sep k e.symm hf
  exact hg.block k hk hne
 obtain⟨k1,k2⟩:=hw.beyond hs hg.os hg.tape hg.output (by omega) hb
 have hl:=hs.lts
 have eU:=hb a.U hl.2.1 (.inr (.inr (.inr (.inr (.inl rfl)))))
 have eS:=hb a.S hl.2.2.2.2.1 (.inr (.inr (.inr (.inl rfl))))
 refine⟨⟨by unfold HasM;rw[List.length_append,mcells_append];exact hown,fun g hg' f=>?_⟩,k2,k1⟩
 have f':foot wr a g:=foot_same (World.cell?_of_block eU) (fun i _=>World.cell?_of_block eS) f
 rcases hat g hg' with q|q
 ·exact h.sep g q f'
 ·have:=hs.footLt f'
  omega
theorem tick_any(a:Ad)(s:Sv)(now:Int)(B:Nat)(w:World)(h:SvIs w a s)(hB:SvB s B)(hBB:B≤100000000000000) :
  Calls Tryz.prog 72 #[tp a.S,.int .i64 now] w fun e w'=>∃ v,e = .returned v∧Tells w w' a v (s.tickN now 8).1 (s.tickN now 8).2:=by
 obtain⟨i0,hi,hy0,hy1,hy2⟩:=info_parts info_msg
 have hws:=h.lt
 go_enter Tryz.func72,Tryz.ntmps72
 go_wp2_with fail
 go_loopw [5,7] (fun v i wr=>∃ k:Nat,k≤8∧i = .int .i64 k∧Tells w wr a v (s.tickN now k).1 (s.tickN now k).2) (fun _ i _=>8-(intOf i).toNat)
 case atStart=>exact⟨0,by omega,rfl,⟨Out.nil _ _ _,h,Fs.refl _ _⟩⟩
 case round=>
  obtain⟨k,hk,rfl,A⟩:=hrel
  by_cases hlt:k<8
  ·have HR1:Hid ((s.tickN now (k+1)).1=((s.tickN now k).1.advance k now).1):=rfl
   have HR2:Hid ((s.tickN now (k+1)).2=(s.tickN now k).2++((s.tickN now k).1.advance k now).2):=rfl
   obtain⟨hO,hl⟩:=SvB.tick hB now k
   obtain⟨y,hy⟩:∃ y,s.tickN now k=y:=⟨_,rfl⟩
   rw[hy] at A hO hl HR1 HR2
   obtain⟨s2,l⟩:=y
   dsimp only at A hO hl HR1 HR2
   have hk8:(k:Int)<8:=by omega
   have had:=advance_any a s2 k now wr A.sv hlt (hO.wok k) (fun c=>by have:=hO.ses c;omega) hO.vv0 (fun x=>by have:=hO.vv1 x;have:=hO.len;omega) hO.left0 hO.left1
   have hl2:=(hO.advance k now).2
   obtain⟨y2,hy2'⟩:∃ y2,s2.advance k now=y2:=⟨_,rfl⟩
   rw[hy2'] at had HR1 HR2 hl2
   obtain⟨s3,l2⟩:=y2
   dsimp only at had HR1 HR2 hl2
   clear hy hy2'
   have HA:Hid (Tells w wr a u5 s2 l):=A
   clear A
   go_wp2_with fail
   refine had.mono ?_
   rintro e w2 ⟨v2,rfl,T2⟩
   clear had
   have A2:Tells w w2 a u5 s3 l:=⟨HA.out.out.fs T2.fs,T2.sv,HA.out.fs.trans T2.fs⟩
   have hsz:=HA.out.fs.size
   obtain⟨ao,co,hao,hco,hcn⟩:=Net.row_shape T2.out.own
   have hM2:=T2.out.own
   subst hao
   obtain⟨av,cv,hav,hcv,_⟩:=Net.row_shape A2.out.own
   subst hav
   have hs2:=A2.fs.size
   clear HA T2 hcv
   have O2:=A2.out
   have F2:=A2.sv
   have hF2:=A2.fs
   cases ao with
   | none=>
    obtain⟨hl0,rfl⟩:=hcn rfl
    obtain rfl:l2 = []:=List.eq_nil_of_length_eq_zero hl0
    have HA2:Hid (Tells w w2 a (.slice av l.length cv) s3 l):=A2
    clear A2 F2 hF2
    go_wp2_with (at_builtin;refine App.wpList_void rfl _ _ 141 rfl w.heap.size 129 i0 9 Tryz.underlying141 hi hy1 _ _ _ rfl rfl O2.own ?_)
    clear O2
    go_wp2_with fail
    go_roundw
    case rel=>
     refine⟨k+1,by omega,by go_num,?_⟩
     rw[HR1.out,HR2.out,List.append_nil]
     exact HA2.out
    case measure=>simp[intOf];omega
   | some ad=>
    clear hcn
    have hnw:∀ j u,(mcells l2)[j]?=some u→w2.cell? (ad.add j)=some u:=by
     rcases hM2.2 with ⟨q,_⟩|⟨g,cap,cur,q,_⟩
     ·injection q with q;cases q
     ·injection q with q _
      injection q with q
      subst q
      exact World.ownsRow.cells hM2 (g:=g) rfl
    clear A2 hM2
    go_wp2_with (at_builtin;refine App.wpList_append_at rfl _ _ 141 rfl w.heap.size 129 i0 (.agg #[.int .i64 0,.int .i64 0,.int .i64 0,.int .i64 0,.int .i64 0,.int .i64 0,.int .i64 0,.bool false,.string ⟨#[]⟩]) 9 80 Tryz.underlying141 hi hy0 hy1 hy2 rfl (by decide) _ _ _ rfl O2.own ad l2.length co (mcells l2) rfl (mcells_length l2) hnw (mcells_one l2) ?r3 ?r4 ?r5 ?_)
    case r3=>unfold maxLen;omega
    case r4=>omega
    case r5=>omega
    intro v5 w5 hown5 hg5 hat5
    obtain⟨O5,F5,hF5⟩:=O2.cat F2 hF2 hown5 hg5 hat5
    have HA5:Hid (Tells w w5 a v5 s3 (l++l2)):=⟨O5,F5,hF5⟩
    clear O2 O5 F2 F5 hF2 hF5 hown5 hg5 hat5 hnw
    go_wp2_with fail
    go_roundw
    case rel=>
     refine⟨k+1,by omega,by go_num,?_⟩
     rw[HR1.out,HR2.out]
     exact HA5.out
    case measure=>simp[intOf];omega
  ·obtain rfl:k=8:=by omega
   have HA:Hid (Tells w wr a u5 (s.tickN now 8).1 (s.tickN now 8).2):=A
   clear A
   go_wp2_with fail
   go_ret
   exact⟨_,rfl,HA.out⟩
end Wld
end
end Go.Proofs.YtbebfliimjjohabGreatDoor
