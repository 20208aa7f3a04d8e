/- Parts of the proof. -/
import Derived.Test.YtbebfliimjjohabGreatDoorLd18
import Derived.Test.YtbebfliimjjohabGreatDoorLd19
import Derived.Deep.CutRange
import Derived.Deep.CutBlock
import Derived.Maps.RangeWalk
set_option maxRecDepth 100000
set_option maxHeartbeats 8000000
namespace Go.Proofs.YtbebfliimjjohabGreatDoor
section
namespace Wld
open Go.RowKit Go.Maps
open Lease (Ob I64 upd TabIs hol dels objB HasI kk mx)
open Cache (tp row_kept row_below)
open Wal (R mayB timeB)
open Num (M)
theorem wrapI{x:Int}(h0:-9223372036854775808≤x)(h1:x≤9223372036854775807):IntKind.i64.wrap x=x:=by
 simp[IntKind.wrap,IntKind.signed,IntKind.bits]
 omega
theorem MB.set7{w:World}{p:Nat}{m:M}(h:MB w p m)(b:Bool):MB (w.setCell ⟨p,7,none⟩ (.bool b)) p { m with l:=b }:=by
 have e:∀ j,j≠7→(w.setCell ⟨p,7,none⟩ (.bool b)).cell? ⟨p,j,none⟩=w.cell? ⟨p,j,none⟩:=fun j hj=>World.cell?_setCell_other _ _ _ _ (by intro q;injection q with _ q;exact hj q.symm)
 exact⟨(e _ (by omega)).trans h.c0,(e _ (by omega)).trans h.c1,(e _ (by omega)).trans h.c2,(e _ (by omega)).trans h.c3,(e _ (by omega)).trans h.c4,(e _ (by omega)).trans h.c5,(e _ (by omega)).trans h.c6,World.cell?_setCell_same _ _ _ h.c7,(e _ (by omega)).trans h.c8⟩
theorem MB.drew{w:World}{p:Nat}{m:M}(h:MB w p m):MB w.drew p m:=⟨h.c0,h.c1,h.c2,h.c3,h.c4,h.c5,h.c6,h.c7,h.c8⟩
structure Rd(w wx:World)(a:Ad)(s:Sv)(m:M)(o:Nat)(now:Int)(p:Nat):Prop where
 sv:SvIs wx a (s.lent m o now)
 fs:Fs a w wx
 box:MB wx p (s.valueM m o)
 new:w.heap.size≤p
 lt:p<wx.heap.size
theorem Rd.made{w y:World}{a:Ad}{s:Sv}{m m':M}{o p:Nat}{now:Int}{b:Bool}(h:SvIs y a (s.lent m o now))(hF:Fs a w y)(hA:MB y p m')(hp:¬ foot y a p)(hlt:p<y.heap.size)(hw:w.heap.size≤p)(hm:s.valueM m o = { m' with l:=b }):Rd w (y.setCell ⟨p,7,none⟩ (.bool b)) a s m o now p:=by
 have hb:∀ k,k≠p→(y.setCell ⟨p,7,none⟩ (.bool b)).heap[k]?=y.heap[k]?:=fun k hk=>Below.heap_setCell y ⟨p,7,none⟩ (.bool b) k hk
 obtain⟨k1,k2⟩:=hF.beyond h (z:=y.setCell ⟨p,7,none⟩ (.bool b)) rfl rfl rfl (by simp) (fun k hk hf=>hb k (fun e=>by
  subst e
  rcases hf with hf|hf
  ·omega
  ·exact hp hf))
 exact⟨k2,k1,by rw[hm];exact hA.set7 b,hw,by simpa using hlt⟩
theorem Rd.drew{w y:World}{a:Ad}{s:Sv}{m:M}{o p:Nat}{now:Int}(h:Rd w y a s m o now p):Rd w y.drew a s m o now p:=⟨h.sv.drew,h.fs.drew,h.box.drew,h.new,h.lt⟩
theorem Tells.one{w y:World}{a:Ad}{s:Sv}(m:M)(h:SvIs y a s)(hF:Fs a w y):Tells w (y.alloc (.cells #[.int .i64 m.k,.int .i64 m.c,.int .i64 m.n,.int .i64 m.e,.int .i64 m.s,.int .i64 m.o,.int .i64 m.v,.bool m.l,.string m.d] 129)) a (.slice (some ⟨y.heap.size,0,none⟩) 1 1) s [m]:=
 ⟨⟨HasM.one y w.heap.size m hF.size,fun g hg=>by
  simp[Value.ownBlock] at hg
  subst hg
  exact h.fresh ((Below.refl _ _).alloc (Nat.le_refl _) _) (Nat.le_refl _)⟩,h.alloc _,hF.alloc h _⟩
theorem readS_any(a:Ad)(s:Sv)(mk mc mn me ms mv:Int)(o:Nat)(ml:Bool)(md:ByteArray)(now:Int)(w:World)(h:SvIs w a s)(ho:o<8)(hc:0≤mc)(hn0:0≤now)(hn1:now≤549755813888)(ht0:0≤s.to)(ht1:s.to≤274877906944)(hn:s.n<1000000000000000) :
  Calls Tryz.prog 185 #[tp a.S,Wire.M.agg ⟨mk,mc,mn,me,ms,o,mv,ml,md⟩,.int .i64 now] w fun e w'=>∃ v,e = .returned v∧Tells w w' a v (s.readS ⟨mk,mc,mn,me,ms,o,mv,ml,md⟩ o now).1 (s.readS ⟨mk,mc,mn,me,ms,o,mv,ml,md⟩ o now).2:=by
 have hB:MB (mbox w mk mc mn me ms o mv ml md) w.heap.size ⟨mk,mc,mn,me,ms,o,mv,ml,md⟩:=mbox_is w _ _ _ _ _ _ _ _ _
 have F:SvIs (mbox w mk mc mn me ms o mv ml md) a s:=h.alloc _
 have hF:Fs a w (mbox w mk mc mn me ms o mv ml md):=(Fs.refl _ _).alloc h _
 have hfr:¬ foot (mbox w mk mc mn me ms o mv ml md) a w.heap.size:=h.fresh ((Below.refl _ _).alloc (Nat.le_refl _) _) (Nat.le_refl _)
 have hsz:(mbox w mk mc mn me ms o mv ml md).heap.size=w.heap.size+1:=by simp
 have ho0:(0:Int)≤(o:Int):=by omega
 have ho8:(o:Int)<8:=by omega
 have hmw0:a.m<w.heap.size:=h.lts.2.2.1
 unfold mbox at *
 unfold Wire.M.agg
 dsimp only
 clear h
 go_enter Tryz.func185,Tryz.ntmps185
 go_upto_region 1 with fail
 generalize w.alloc (.cells #[.int .i64 mk,.int .i64 mc,.int .i64 mn,.int .i64 me,.int .i64 ms,.int .i64 o,.int .i64 mv,.bool ml,.string md] 129)=w1 at *
 have b5:=hB.c5
 dsimp only at b5
 have cv:=F.vv o ho
 have cd:=F.vd o ho
 have hlt:=F.lt
 have hne:a.S≠w1.heap.size:=by omega
 have hne2:w.heap.size≠w1.heap.size:=by omega
 have cva:=fun ob=>(World.cell?_alloc_lt w1 ob ⟨a.S,7+o*2+1,none⟩ hlt).trans cv
 have cda:=fun ob=>(World.cell?_alloc_lt w1 ob ⟨a.S,7+o*2,none⟩ hlt).trans cd
 have cba:=fun ob=>(World.cell?_alloc_lt w1 ob ⟨w.heap.size,5,none⟩ (by dsimp only;omega)).trans b5
 go_region
 go_upto_region 2 with fail
 generalize hW:(w1.alloc (.cells #[.string (s.vd o),.int .i64 (s.vv o)] 41)).drew=w2
 have hb2:Below w1.heap.size w1 w2:=by rw[← hW];exact((Below.refl _ _).alloc (Nat.le_refl _) _).drew
 have hs2:w2.heap.size=w.heap.size+2:=by rw[← hW];show (w1.alloc _).heap.size=_;simp;omega
 have x0:w2.cell? ⟨w.heap.size+1,0,none⟩=some (.string (s.vd o)):=by
  rw[← hW,← hsz]
  exact cell_of_row _ _ _ _ _ _ (heap_alloc_new w1 _)
 have x1:w2.cell? ⟨w.heap.size+1,1,none⟩=some (.int .i64 (s.vv o)):=by
  rw[← hW,← hsz]
  exact cell_of_row _ _ _ _ _ _ (heap_alloc_new w1 _)
 have F2:=F.below hb2
 have hF2:=hF.below F hb2
 have hB2:=hB.below hb2 (by omega)
 have hfr2:¬ foot w2 a w.heap.size:=fun f=>hfr ((foot_same (World.cell?_of_block (hb2.block a.U F.lts.2.1)) (fun i _=>World.cell?_of_block (hb2.block a.S F.lts.2.2.2.2.1))) f)
 have hfv2:¬ foot w2 a (w.heap.size+1):=F.fresh hb2 (by omega)
 clear hW F hF hB hfr cva cda cba cv cd b5 hb2 hne hne2 hlt
 have b0:=hB2.c0
 have b1:=hB2.c1
 have b2:=hB2.c2
 have b3:=hB2.c3
 have b4:=hB2.c4
 have b5:=hB2.c5
 have b6:=hB2.c6
 have b7:=hB2.c7
 have b8:=hB2.c8
 dsimp only at b0 b1 b2 b3 b4 b5 b6 b7 b8
 have han:=answer_any a s 5 ⟨mk,mc,mn,me,ms,o,mv,ml,md⟩ w2 F2 hc
 unfold Wire.M.agg Sv.answer at han
 dsimp only at han
 go_wp2_with fail
 refine han.mono ?_
 rintro e w3 ⟨rfl,hb3⟩
 clear han
 have hs3:=hb3.size
 have F3:=F2.below hb3
 have hF3:=hF2.below F2 hb3
 have hB3:=hB2.below hb3 (by omega)
 have hl2:=F2.lts
 have hfr3:¬ foot w3 a w.heap.size:=fun f=>hfr2 ((foot_same (World.cell?_of_block (hb3.block a.U hl2.2.1)) (fun i _=>World.cell?_of_block (hb3.block a.S hl2.2.2.2.2.1))) f)
 have y0:=(hb3.cell (p:=⟨w.heap.size+1,0,none⟩) (by dsimp only;omega)).trans x0
 have y1:=(hb3.cell (p:=⟨w.heap.size+1,1,none⟩) (by dsimp only;omega)).trans x1
 clear hB2 F2 hF2 hfr2 hfv2 x0 x1 b0 b1 b2 b3 b4 b5 b6 b7 b8 hl2 hb3
 have b1:=hB3.c1
 have b5:=hB3.c5
 dsimp only at b1 b5
 have n0:w.heap.size≠w3.heap.size:=by omega
 have n1:w.heap.size+1≠w3.heap.size:=by omega
 have z1:=fun ob=>(World.cell?_alloc_lt w3 ob ⟨w.heap.size+1,0,none⟩ (by dsimp only;omega)).trans y0
 have z2:=fun ob=>(World.cell?_alloc_lt w3 ob ⟨w.heap.size+1,1,none⟩ (by dsimp only;omega)).trans y1
 have z3:=fun ob=>(World.cell?_alloc_lt w3 ob ⟨w.heap.size,5,none⟩ (by dsimp only;omega)).trans b5
 go_upto_region 3 with fail
 go_region
 go_upto_region 4 with fail
 generalize hW:(w3.alloc (.cells #[.int .i64 5,.int .i64 mc,.int .i64 mn,.int .i64 s.epoch,.int .i64 (s.ses (seatN mc:Nat)),.int .i64 o,.int .i64 (s.vv o),.bool false,.string (s.vd o)] 129)).drew=w4
 have hb4:Below w3.heap.size w3 w4:=by rw[← hW];exact((Below.refl _ _).alloc (Nat.le_refl _) _).drew
 have hs4:w4.heap.size=w3.heap.size+1:=by rw[← hW];show (w3.alloc _).heap.size=_;simp
 have hA4:MB w4 w3.heap.size ⟨5,mc,mn,s.epoch,s.ses (seatN mc:Nat),o,s.vv o,false,s.vd o⟩:=by
  rw[← hW]
  have:=mbox_is w3 5 mc mn s.epoch (s.ses (seatN mc:Nat)) o (s.vv o) false (s.vd o)
  exact⟨this.c0,this.c1,this.c2,this.c3,this.c4,this.c5,this.c6,this.c7,this.c8⟩
 have hZ4:∀ i,w4.frozen? ⟨w3.heap.size,i,none⟩=false:=fun i=>by rw[← hW];show (w3.alloc _).frozen? _=_;simp
 have F4:=F3.below hb4
 have hF4:=hF3.below F3 hb4
 have hB4:=hB3.below hb4 (by omega)
 have hl3:=F3.lts
 have hfa4:¬ foot w4 a w3.heap.size:=F3.fresh hb4 (by omega)
 clear hW F3 hF3 hB3 hfr3 z1 z2 z3 n0 n1 y0 y1 b1 b5 hb4
 have b1:=hB4.c1
 have b5:=hB4.c5
 have a7:=hA4.c7
 have f7:=hZ4 7
 dsimp only at b1 b5 a7
 obtain⟨vw,hvw,hmw⟩:=F4.wait o ho
 obtain⟨aw,cw,rfl,hcw,_⟩:=Net.row_shape hmw
 have hlen:=F4.len o ho
 have c47:=F4.c47
 have c0:=F4.c0
 have m0:w.heap.size≠w3.heap.size:=by omega
 have m1:a.S≠w3.heap.size:=by omega
 clear hcw
 go_cut[] from 28 to 57 (fun wx=>Rd w wx a s ⟨mk,mc,mn,me,ms,o,mv,ml,md⟩ o now w3.heap.size)
 case first=>
  by_cases hz:(s.waits o).length=0
  ·rw[hz] at hvw
   have hsl:=seatN_lt mc
   have hseat:=fun w=>seat_any mc w hc
   obtain⟨x,hx⟩:=Lease.own_num (t:=298) F4.tab.own Lease.keyedP Tryz.underlying298 (Lease.keyP (c:=(seatN mc:Nat)) (o:=o) ⟨by omega,by omega⟩ ⟨by omega,by omega⟩)
   have hobj:=Lease.obj_ok a.T a.m s.n (seatN mc:Nat) o (now+s.to) s.D s.vol s.ses x w4.drew F4.drew.tab (by omega) (Num.inB_true (by omega) (by omega)) (Num.inB_true (by omega) (by omega)) (Num.inB_true (by omega) (by omega)) hx
   have hwr:IntKind.i64.wrap (now+s.to)=now+s.to:=wrapI (by omega) (by omega)
   refine Gen.start (S:=fun w'=>w'.cell? ⟨w.heap.size,5,none⟩=some (.int .i64 o)∧w'.cell? ⟨a.S,48+o,none⟩=some (.slice aw 0 cw)∧w'.cell? ⟨a.S,47,none⟩=some (tp a.T)∧w'.cell? ⟨w.heap.size,1,none⟩=some (.int .i64 mc)∧w'.cell? ⟨a.S,0,none⟩=some (.int .i64 s.to)) (by kernel_rfl) ⟨b5,hvw,c47,b1,c0⟩ (fun hHeld=>?_)
   refine Gen.tk 0 3 ?_ rfl rfl (Or.inl ⟨by rfl,?_⟩) hHeld ?_;rotate_left
   ·rintro w' ⟨s0,s1,s2,s3,s4⟩;go_simp;try with_reducible rfl
   go_frame
   refine Gen.tk 1 2 ?_ rfl rfl (Or.inl ⟨by rfl,?_⟩) hHeld ?_;rotate_left
   ·rintro w' ⟨s0,s1,s2,s3,s4⟩;go_simp;try with_reducible rfl
   go_frame
   refine Gen.tk 2 5 ?_ rfl rfl (Or.inl ⟨by rfl,?_⟩) hHeld ?_;rotate_left
   ·rintro w' ⟨s0,s1,s2,s3,s4⟩;go_simp;try with_reducible rfl
   go_frame
   refine Gen.tk 3 4 ?_ rfl rfl (Or.inl ⟨by rfl,?_⟩) hHeld ?_;rotate_left
   ·rintro w' ⟨s0,s1,s2,s3,s4⟩;go_simp;try with_reducible rfl
   go_frame
   refine Gen.tk 4 5 ?_ rfl rfl (Or.inl ⟨by rfl,?_⟩) hHeld ?_;rotate_left
   ·rintro w' ⟨s0,s1,s2,s3,s4⟩;go_simp;try with_reducible rfl
   go_frame
   refine Gen.tk 5 6 ?_ rfl rfl (Or.inl ⟨by rfl,?_⟩) hHeld ?_;rotate_left
   ·rintro w' ⟨s0,s1,s2,s3,s4⟩;go_simp;try with_reducible rfl
   go_frame
   refine Gen.tk 6 7 ?_ rfl rfl (Or.inl ⟨by rfl,?_⟩) hHeld ?_;rotate_left
   ·rintro w' ⟨s0,s1,s2,s3,s4⟩;go_simp;try with_reducible rfl
   go_frame
   refine Gen.tk 7 8 ?_ rfl rfl (Or.inl ⟨by rfl,?_⟩) hHeld ?_;rotate_left
   ·rintro w' ⟨s0,s1,s2,s3,s4⟩;go_simp;try with_reducible rfl
   go_frame
   refine Gen.tk 8 9 ?_ rfl rfl (Or.inl ⟨by rfl,?_⟩) hHeld ?_;rotate_left
   ·rintro w' ⟨s0,s1,s2,s3,s4⟩;go_simp;try with_reducible rfl
   go_frame
   refine Gen.tk 9 10 ?_ rfl rfl (Or.inl ⟨by rfl,?_⟩) hHeld ?_;rotate_left
   ·rintro w' ⟨s0,s1,s2,s3,s4⟩;go_simp;try with_reducible rfl
   go_frame
   refine Gen.tk 10 11 ?_ rfl rfl (Or.inl ⟨by rfl,?_⟩) hHeld ?_;rotate_left
   ·rintro w' ⟨s0,s1,s2,s3,s4⟩;go_simp;try with_reducible rfl
   go_frame
   refine Gen.tk 11 12 ?_ rfl rfl (Or.inl ⟨by rfl,?_⟩) hHeld ?_;rotate_left
   ·rintro w' ⟨s0,s1,s2,s3,s4⟩;go_simp;try with_reducible rfl
   go_frame
   refine Gen.tk 12 13 ?_ rfl rfl (Or.inl ⟨by rfl,?_⟩) hHeld ?_;rotate_left
   ·rintro w' ⟨s0,s1,s2,s3,s4⟩;go_simp;try with_reducible rfl
   go_frame
   refine Gen.tk 13 26 ?_ rfl rfl (Or.inl ⟨by rfl,?_⟩) hHeld ?_;rotate_left
   ·rintro w' ⟨s0,s1,s2,s3,s4⟩;go_simp;try with_reducible rfl
   go_frame
   refine Gen.tk 14 15 ?_ rfl rfl (Or.inl ⟨by rfl,?_⟩) hHeld ?_;rotate_left
   ·rintro w' ⟨s0,s1,s2,s3,s4⟩;go_simp;try with_reducible rfl
   go_frame
   refine Gen.tk 15 16 ?_ rfl rfl (Or.inl ⟨by rfl,?_⟩) hHeld ?_;rotate_left
   ·rintro w' ⟨s0,s1,s2,s3,s4⟩;go_simp;try with_reducible rfl
   go_frame
   refine Gen.tk 17 18 ?_ rfl rfl (Or.inl ⟨by rfl,?_⟩) hHeld ?_;rotate_left
   ·rintro w' ⟨s0,s1,s2,s3,s4⟩;go_simp;try with_reducible rfl
   go_frame
   refine Gen.tk 18 26 ?_ rfl rfl (Or.inl ⟨by rfl,?_⟩) hHeld ?_;rotate_left
   ·rintro w' ⟨s0,s1,s2,s3,s4⟩;go_simp;try with_reducible rfl
   go_frame
   refine Gen.tk 19 25 ?_ rfl rfl (Or.inl ⟨by rfl,?_⟩) hHeld ?_;rotate_left
   ·rintro w' ⟨s0,s1,s2,s3,s4⟩;go_simp;try with_reducible rfl
   go_frame
   refine Gen.tk 20 21 ?_ rfl rfl (Or.inl ⟨by rfl,?_⟩) hHeld ?_;rotate_left
   ·rintro w' ⟨s0,s1,s2,s3,s4⟩;go_simp;try with_reducible rfl
   go_frame
   refine Gen.tk 21 22 ?_ rfl rfl (Or.inl ⟨by rfl,?_⟩) hHeld ?_;rotate_left
   ·rintro w' ⟨s0,s1,s2,s3,s4⟩;go_simp;try with_reducible rfl
   go_frame
   refine Gen.tk 22 23 ?_ rfl rfl (Or.inl ⟨by rfl,?_⟩) hHeld ?_;rotate_left
   ·rintro w' ⟨s0,s1,s2,s3,s4⟩;go_simp;try with_reducible rfl
   go_frame
   refine Gen.tk 23 24 ?_ rfl rfl (Or.inl ⟨by rfl,?_⟩) hHeld ?_;rotate_left
   ·rintro w' ⟨s0,s1,s2,s3,s4⟩;go_simp;try with_reducible rfl
   go_frame
   refine Gen.tk 24 25 ?_ rfl rfl (Or.inl ⟨by rfl,?_⟩) hHeld ?_;rotate_left
   ·rintro w' ⟨s0,s1,s2,s3,s4⟩;go_simp;try with_reducible rfl
   go_frame
   refine Gen.tk 25 26 ?_ rfl rfl (Or.inl ⟨by rfl,?_⟩) hHeld ?_;rotate_left
   ·rintro w' ⟨s0,s1,s2,s3,s4⟩;go_simp;try with_reducible rfl
   go_frame
   refine Gen.oneG (i:=16) (by kernel_rfl) rfl rfl (by rfl) (fun K hK=>?_)
   go_simp
   refine(hseat _).mono ?_
   rintro e w5 ⟨rfl,hw5⟩
   rw[hw5]
   clear hw5
   dsimp only
   refine hK.out _ _ ⟨b5,hvw,c47,b1,c0⟩ (fun hHeld=>?_)
   clear hK K
   try go_frame
   refine Gen.oneG (i:=26) (by kernel_rfl) rfl rfl (by rfl) (fun K hK=>?_)
   go_simp
   refine hobj.mono ?_
   rintro e w5 ⟨rfl,hT5,hO5⟩
   dsimp only
   have e5:∀ k,k≠a.m→k<w4.heap.size→w5.heap[k]?=w4.heap[k]?:=fun k hk hl=>hO5.block k hl (by simpa using hk)
   have eS:=e5 a.S (by omega) (by omega)
   have eB:=e5 w.heap.size (by omega) (by omega)
   have eA:=e5 w3.heap.size (by omega) (by omega)
   have q5:=(World.cell?_of_block (a:=⟨w.heap.size,5,none⟩) eB).trans b5
   have q1:=(World.cell?_of_block (a:=⟨w.heap.size,1,none⟩) eB).trans b1
   have qw:=(World.cell?_of_block (a:=⟨a.S,48+o,none⟩) eS).trans hvw
   have q47:=(World.cell?_of_block (a:=⟨a.S,47,none⟩) eS).trans c47
   have q0:=(World.cell?_of_block (a:=⟨a.S,0,none⟩) eS).trans c0
   have q7:=(World.cell?_of_block (a:=⟨w3.heap.size,7,none⟩) eA).trans a7
   have qf:=(World.frozen?_of_block (a:=⟨w3.heap.size,7,none⟩) eA).trans f7
   have F5:SvIs w5 a (s.lent ⟨mk,mc,mn,me,ms,o,mv,ml,md⟩ o now):=by
    have:=F4.drew.table hT5 (hO5.mono (by simp))
    unfold Sv.lent lentB
    rw[if_pos hz]
    dsimp only
    rw[hx]
    exact this
   have hF5:Fs a w w5:=hF4.drew.ob F4.drew (hO5.mono (by simp))
   have hA5:MB w5 w3.heap.size ⟨5,mc,mn,s.epoch,s.ses (seatN mc:Nat),o,s.vv o,false,s.vd o⟩:=by
    have e:∀ j,w5.cell? ⟨w3.heap.size,j,none⟩=w4.cell? ⟨w3.heap.size,j,none⟩:=fun j=>World.cell?_of_block eA
    exact⟨(e _).trans hA4.c0,(e _).trans hA4.c1,(e _).trans hA4.c2,(e _).trans hA4.c3,(e _).trans hA4.c4,(e _).trans hA4.c5,(e _).trans hA4.c6,(e _).trans hA4.c7,(e _).trans hA4.c8⟩
   have hfa5:¬ foot w5 a w3.heap.size:=fun f=>hfa4 (foot_same (World.cell?_of_block (e5 a.U (by omega) (by omega))) (fun i _=>World.cell?_of_block eS) f)
   have HY:Hid (Rd w (w5.setCell ⟨w3.heap.size,7,none⟩ (.bool true)) a s ⟨mk,mc,mn,me,ms,o,mv,ml,md⟩ o now w3.heap.size):=Rd.made F5 hF5 hA5 hfa5 (by have:=hO5.size;have e:w4.drew.heap.size=w4.heap.size:=rfl;omega) (by omega) (by unfold Sv.valueM;rw[decide_eq_true hz])
   refine hK.out _ _ ⟨q5,qw,q47,q1,q0⟩ (fun hHeld=>?_)
   clear hK K
   try go_frame
   refine Gen.tk 27 28 ?_ rfl rfl (Or.inl ⟨by rfl,?_⟩) hHeld ?_;rotate_left
   ·rintro w' ⟨s0,s1,s2,s3,s4⟩;go_simp;try with_reducible rfl
   go_frame
   refine Gen.tk 28 29 ?_ rfl rfl (Or.inl ⟨by rfl,?_⟩) hHeld ?_;rotate_left
   ·rintro w' ⟨s0,s1,s2,s3,s4⟩;go_simp;try with_reducible rfl
   go_frame
   refine Gen.tk 29 30 ?_ rfl rfl (Or.inl ⟨by rfl,?_⟩) hHeld ?_;rotate_left
   ·rintro w' ⟨s0,s1,s2,s3,s4⟩;go_simp;try with_reducible rfl
   go_frame
   refine Gen.last (i:=30) (by kernel_rfl) rfl rfl (by kernel_rfl) (by kernel_rfl) (fun K hK=>?_)
   go_simp
   refine hK.out _ _ ?_
   clear hK K
   go_wp2_with fail
   go_meet
   case rel=>exact HY.out
  ·obtain⟨n,hn'⟩:∃ n,(s.waits o).length=n+1:=⟨(s.waits o).length-1,by omega⟩
   have HN:Hid (Rd w (w4.setCell ⟨w3.heap.size,7,none⟩ (.bool false)).drew a s ⟨mk,mc,mn,me,ms,o,mv,ml,md⟩ o now w3.heap.size):=(Rd.made (by unfold Sv.lent;rw[if_neg hz];exact F4) hF4 hA4 hfa4 (by omega) (by omega) (by unfold Sv.valueM;rw[decide_eq_false hz])).drew
   rw[hn'] at hvw
   have hz':((n:Int)+1 == 0)=false:=by simp;omega
   have hz2:¬ ((n:Int)+1=0):=by omega
   clear hz
   refine Gen.start (S:=fun w'=>w'.cell? ⟨w.heap.size,5,none⟩=some (.int .i64 o)∧w'.cell? ⟨a.S,48+o,none⟩=some (.slice aw (n+1) cw)) (by kernel_rfl) ⟨b5,hvw⟩ (fun hHeld=>?_)
   refine Gen.tk 0 3 ?_ rfl rfl (Or.inl ⟨by rfl,?_⟩) hHeld ?_;rotate_left
   ·rintro w' ⟨s0,s1⟩;go_simp;try with_reducible rfl
   go_frame
   refine Gen.tk 1 2 ?_ rfl rfl (Or.inl ⟨by rfl,?_⟩) hHeld ?_;rotate_left
   ·rintro w' ⟨s0,s1⟩;go_simp;try with_reducible rfl
   go_frame
   refine Gen.tk 2 5 ?_ rfl rfl (Or.inl ⟨by rfl,?_⟩) hHeld ?_;rotate_left
   ·rintro w' ⟨s0,s1⟩;go_simp;try with_reducible rfl
   go_frame
   refine Gen.tk 3 4 ?_ rfl rfl (Or.inl ⟨by rfl,?_⟩) hHeld ?_;rotate_left
   ·rintro w' ⟨s0,s1⟩;go_simp;try with_reducible rfl
   go_frame
   refine Gen.tk 4 5 ?_ rfl rfl (Or.inl ⟨by rfl,?_⟩) hHeld ?_;rotate_left
   ·rintro w' ⟨s0,s1⟩;go_simp;try with_reducible rfl
   go_frame
   refine Gen.tk 5 6 ?_ rfl rfl (Or.inl ⟨by rfl,?_⟩) hHeld ?_;rotate_left
   ·rintro w' ⟨s0,s1⟩;go_simp;try with_reducible rfl
   go_frame
   refine Gen.tk 6 7 ?_ rfl rfl (Or.inl ⟨by rfl,?_⟩) hHeld ?_;rotate_left
   ·rintro w' ⟨s0,s1⟩;go_simp;try with_reducible rfl
   go_frame
   refine Gen.tk 7 8 ?_ rfl rfl (Or.inl ⟨by rfl,?_⟩) hHeld ?_;rotate_left
   ·rintro w' ⟨s0,s1⟩;go_simp;try with_reducible rfl
   go_frame
   refine Gen.tk 8 9 ?_ rfl rfl (Or.inl ⟨by rfl,?_⟩) hHeld ?_;rotate_left
   ·rintro w' ⟨s0,s1⟩;go_simp;try with_reducible rfl
   go_frame
   refine Gen.tk 9 10 ?_ rfl rfl (Or.inl ⟨by rfl,?_⟩) hHeld ?_;rotate_left
   ·rintro w' ⟨s0,s1⟩;go_simp;try with_reducible rfl
   go_frame
   refine Gen.tk 10 11 undef rfl rfl (Or.inr ⟨by rfl,rfl⟩) hHeld ?_
   go_frame
   refine Gen.tk 11 12 undef rfl rfl (Or.inr ⟨by rfl,rfl⟩) hHeld ?_
   go_frame
   refine Gen.tk 12 13 undef rfl rfl (Or.inr ⟨by rfl,rfl⟩) hHeld ?_
   go_frame
   refine Gen.tk 13 26 undef rfl rfl (Or.inr ⟨by rfl,rfl⟩) hHeld ?_
   go_frame
   refine Gen.tk 14 15 undef rfl rfl (Or.inr ⟨by rfl,rfl⟩) hHeld ?_
   go_frame
   refine Gen.tk 15 16 undef rfl rfl (Or.inr ⟨by rfl,rfl⟩) hHeld ?_
   go_frame
   refine Gen.tk 16 26 undef rfl rfl (Or.inr ⟨by rfl,rfl⟩) hHeld ?_
   go_frame
   refine Gen.tk 17 18 undef rfl rfl (Or.inr ⟨by rfl,rfl⟩) hHeld ?_
   go_frame
   refine Gen.tk 18 26 undef rfl rfl (Or.inr ⟨by rfl,rfl⟩) hHeld ?_
   go_frame
   refine Gen.tk 19 25 undef rfl rfl (Or.inr ⟨by rfl,rfl⟩) hHeld ?_
   go_frame
   refine Gen.tk 20 21 undef rfl rfl (Or.inr ⟨by rfl,rfl⟩) hHeld ?_
   go_frame
   refine Gen.tk 21 22 undef rfl rfl (Or.inr ⟨by rfl,rfl⟩) hHeld ?_
   go_frame
   refine Gen.tk 22 23 undef rfl rfl (Or.inr ⟨by rfl,rfl⟩) hHeld ?_
   go_frame
   refine Gen.tk 23 24 undef rfl rfl (Or.inr ⟨by rfl,rfl⟩) hHeld ?_
   go_frame
   refine Gen.tk 24 25 undef rfl rfl (Or.inr ⟨by rfl,rfl⟩) hHeld ?_
   go_frame
   refine Gen.tk 25 26 undef rfl rfl (Or.inr ⟨by rfl,rfl⟩) hHeld ?_
   go_frame
   refine Gen.tk 26 27 undef rfl rfl (Or.inr ⟨by rfl,rfl⟩) hHeld ?_
   go_frame
   refine Gen.tk 27 28 undef rfl rfl (Or.inr ⟨by rfl,rfl⟩) hHeld ?_
   go_frame
   refine Gen.tk 28 29 ?_ rfl rfl (Or.inl ⟨by rfl,?_⟩) hHeld ?_;rotate_left
   ·rintro w' ⟨s0,s1⟩;go_simp;try with_reducible rfl
   go_frame
   refine Gen.tk 29 30 ?_ rfl rfl (Or.inl ⟨by rfl,?_⟩) hHeld ?_;rotate_left
   ·rintro w' ⟨s0,s1⟩;go_simp;try with_reducible rfl
   go_frame
   refine Gen.last (i:=30) (by kernel_rfl) rfl rfl (by kernel_rfl) (by kernel_rfl) (fun K hK=>?_)
   go_simp
   refine hK.out _ _ ?_
   clear hK K
   go_wp2_with fail
   go_meet
   case rel=>exact HN.out
 case rest=>
  have b0:=hcut.box.c0
  have b1:=hcut.box.c1
  have b2:=hcut.box.c2
  have b3:=hcut.box.c3
  have b4:=hcut.box.c4
  have b5:=hcut.box.c5
  have b6:=hcut.box.c6
  have b7:=hcut.box.c7
  have b8:=hcut.box.c8
  have HC:Hid (Rd w wc a s ⟨mk,mc,mn,me,ms,o,mv,ml,md⟩ o now w3.heap.size):=hcut
  obtain⟨mi,hmi⟩:∃ mi,s.valueM ⟨mk,mc,mn,me,ms,o,mv,ml,md⟩ o=mi:=⟨_,rfl⟩
  rw[hmi] at b0 b1 b2 b3 b4 b5 b6 b7 b8
  clear hcut F4 hF4 hB4 hA4 hZ4 hfa4 hvw hmw c47 c0 a7 f7
  go_wp2_with (refine wpList_oneMsg rfl 58 rfl mi rfl ?_)
  go_ret
  unfold Sv.readS
  dsimp only
  rw[hmi]
  exact⟨_,rfl,Tells.one mi HC.out.sv HC.out.fs⟩
end Wld
end
end Go.Proofs.YtbebfliimjjohabGreatDoor
