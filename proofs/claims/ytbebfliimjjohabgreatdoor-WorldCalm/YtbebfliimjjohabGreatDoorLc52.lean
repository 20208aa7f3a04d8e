/- Parts of the proof. -/
import Derived.Test.YtbebfliimjjohabGreatDoorLc51
import Derived.BigQuiet
import Derived.BigRegion
import Derived.Laws.StructEq
import Derived.Maps.RangeWalk
import Derived.Conc.Holds
import Derived.Handed
import Derived.SevenTiedAt
set_option maxRecDepth 100000
set_option maxHeartbeats 8000000
namespace Go.Proofs.YtbebfliimjjohabGreatDoor
section
namespace Wld
open Go.RowKit Go.Maps
open Cache (tp zab zac)
open Lease (I64)
theorem zrm(o v d c:Int)(ao:Option Addr)(n cap:Nat)(k a:Int)(w:World)(hn:60<n)(hm:n<=9223372036854775807) :
  Calls Tryz.prog 3 #[.int .i64 o,.int .i64 v,.int .i64 d,.int .i64 c,.slice ao n cap,.int .i64 k,.int .i64 a] w fun e w'=>e = .returned (.bool true)/\w'=w:=by
 go_enter Tryz.func3,Tryz.ntmps3
 go_wp2_with fail
 go_ret
 exact⟨rfl,rfl⟩
theorem calmW(o v d c:Int)(ao:Option Addr)(cap:Nat)(xs:List Stp)(pk pa:Int)(w:World)(hlen:xs.length<=60)(hgo:Steps w ao xs) :
  Calls Tryz.prog 3 #[.int .i64 o,.int .i64 v,.int .i64 d,.int .i64 c,.slice ao xs.length cap,.int .i64 pk,.int .i64 pa] w fun e w'=>e = .returned (.bool true)/\Below w.heap.size w w':=by
 have hrd:=zue w
 go_enter Tryz.func3,Tryz.ntmps3
 go_wp2_with fail
 refine hrd.mono ?_
 rintro e w1 ⟨rfl,hb1⟩
 have htl:=zts o v d c false w1
 clear hrd
 go_wp2_with fail
 refine htl.mono ?_
 rintro e w2 ⟨T,A,tob,tv,td,n,a1,a2,a3,a4,a5,a6,n1,n4,rfl,hT,hT0,hb2,hL⟩
 have hA0:At w w2 T false 0 A (Wd.bare tob tv td n).start 0:=⟨hT,Good.first a1 a5 a6 n4 (WdB.bare a1 a3 (by omega) a5 a6) false,hb1.trans (hb2.mono hb1.size),hL.mono hb1.size,by have:=hb1.size;omega⟩
 have t4:w2.cell? ⟨T,4,none⟩=some (.int .i64 n):=hT.c4
 obtain⟨Z,hZ⟩:∃ Z,List.replicate n (Value.int .i64 0)=Z:=⟨_,rfl⟩
 have hmk:=fun w=>zuj n n1 n4 w hZ
 have HA0:Hid (At w w2 T false 0 A (Wd.bare tob tv td n).start 0):=hA0
 have HZ:Hid (List.replicate n (Value.int .i64 0)=Z):=hZ
 have HW:Hid (w.heap.size<=w2.heap.size):=hA0.b.size
 clear htl hT hT0 hb2 hL hb1 hA0 hZ
 go_upto_region 9 with fail
 generalize hw3:w2.alloc (.cells Z.toArray 3)=w3
 obtain⟨X,hX⟩:∃ X,w2.heap.size=X:=⟨_,rfl⟩
 have H1:Hid (At w w3 T false 0 A (Wd.bare tob tv td n).start 0/\Lvs w3 X n (Wd.bare tob tv td n).start):=by
  refine⟨HA0.out.below (by rw[<- hw3];exact(Below.refl _ _).alloc (Nat.le_refl _) _),Lvs.made HZ.out ?_ fun _ _=>rfl⟩
  rw[<- hw3,<- hX]
  exact heap_alloc_new w2 _
 have HX:Hid (w.heap.size<=X):=by rw[<- hX];exact HW.out
 rw[hX]
 clear HA0 HZ HW t4 hmk hw3 hX
 go_wp2_with fail
 go_loopw [17] (fun i wr=>∃ j:Nat,j<=xs.length/\i = .int .i64 j/\∃ A s wn,At w wr T false j A s wn/\(s.n=n/\s.tv=tv/\s.to=tob)/\Lvs wr X n s) (fun i _=>xs.length-(intOf i).toNat)
 case atStart=>exact⟨0,by omega,rfl,A,_,0,H1.out.1,⟨rfl,rfl,rfl⟩,H1.out.2⟩
 case round=>
  obtain⟨j,hj,rfl,A,s,wn,hA,⟨sn,stv,sto⟩,hLv⟩:=hrel
  clear H1
  by_cases hjl:j<xs.length
  ·obtain⟨bo,off,rfl,hbo,hx⟩:=hgo (by omega)
   have hcells:=hx j hjl
   generalize xs[j]=x at hcells
   obtain⟨xw,xk,xa,xb⟩:=x
   have g0:=hcells 0 (by omega)
   have g1:=hcells 1 (by omega)
   have g2:=hcells 2 (by omega)
   have g3:=hcells 3 (by omega)
   simp only[Stp.cells,List.getElem?_cons_zero,List.getElem?_cons_succ,Nat.add_zero] at g0 g1 g2 g3
   have c0:=(hA.b.cell (p:=⟨bo,off+j*4,none⟩) hbo).trans g0
   have c1:=(hA.b.cell (p:=⟨bo,off+j*4+1,none⟩) hbo).trans g1
   have c2:=(hA.b.cell (p:=⟨bo,off+j*4+2,none⟩) hbo).trans g2
   have c3:=(hA.b.cell (p:=⟨bo,off+j*4+3,none⟩) hbo).trans g3
   have hj':(j:Int)<xs.length:=by omega
   have hj0:(0:Int)<=(j:Int):=by omega
   have hdo:=zwt T j wn A s false xw xk xa xb wr hA.t hA.g (by omega)
   have HA:Hid (At w wr T false j A s wn/\(s.n=n/\s.tv=tv/\s.to=tob)/\Lvs wr X n s):=⟨hA,⟨sn,stv,sto⟩,hLv⟩
   have HG:Hid (w.cell? ⟨bo,off+j*4,none⟩=some (.int .i64 xw)/\w.cell? ⟨bo,off+j*4+1,none⟩=some (.int .i64 xk)/\bo<w.heap.size):=⟨g0,g1,hbo⟩
   clear hcells hx hgo hA g0 g1 g2 g3 hLv sn stv sto hbo
   go_wp2_with fail
   refine hdo.mono ?_
   rintro e w4 ⟨rfl,hdn⟩
   obtain⟨A',s',wn',hA',hlf,htm,hki⟩:=HA.out.1.step hdn
   have hL4:Lvs w4 X n s:=HA.out.2.2.kept hki fun _=>rfl
   have hs':s'.n=n/\s'.tv=tv/\s'.to=tob:=⟨htm.n.trans HA.out.2.1.1,htm.tv.trans HA.out.2.1.2.1,htm.ob.trans HA.out.2.1.2.2⟩
   rw[HA.out.2.1.1] at hlf
   have d0:=(hA'.b.cell (p:=⟨bo,off+j*4,none⟩) HG.out.2.2).trans HG.out.1
   have d1:=(hA'.b.cell (p:=⟨bo,off+j*4+1,none⟩) HG.out.2.2).trans HG.out.2.1
   have t4:w4.cell? ⟨T,4,none⟩=some (.int .i64 n):=by rw[<- hs'.1];exact hA'.t.c4
   by_cases q10:xw=10
   ·subst q10
    obtain⟨r0,r1⟩:=Clock.zeq xk (n:=(n:Int)) (by omega) (by omega)
    obtain⟨kn,hkv⟩:∃ kn:Nat,Clock.pickV xk n=(kn:Int):=⟨(Clock.pickV xk n).toNat,by omega⟩
    rw[hkv] at r0 r1
    have hkn:kn<n:=by omega
    rw[zuk hkv] at hlf
    have hlb:0<=(s.seat kn).life/\(s.seat kn).life<=10000000:=by
     obtain⟨H,L,b,C,_,_,k3,k4,_⟩:=HA.out.1.g.ex
     have q:=k3.st kn (by rw[HA.out.2.1.1];exact hkn)
     have:=q.l0
     have:=q.l1
     omega
    have lv:=hL4.v kn hkn
    have fz:=hL4.f kn
    have HF:Hid (∃ A' wn',At w (w4.drew.setCell ⟨X,kn,none⟩ (.int .i64 ((s.seat kn).life+1))) T false (j+1) A' s' wn'/\Lvs (w4.drew.setCell ⟨X,kn,none⟩ (.int .i64 ((s.seat kn).life+1))) X n s'):=by
     have ta:=(hA'.ta.below (Below.refl w4.heap.size w4).drew).stored (X:=X) hL4.c HX.out kn (.int .i64 ((s.seat kn).life+1))
     exact⟨A',wn',⟨ta.t,hA'.g,ta.b,ta.l,ta.T0⟩,Lvs.turn (wr:=w4.drew) ⟨hL4.c,hL4.v,hL4.f⟩ hkn hlf⟩
    have HS:Hid (s'.n=n/\s'.tv=tv/\s'.to=tob):=hs'
    obtain⟨lf,hlf0⟩:∃ lf,(s.seat kn).life=lf:=⟨_,rfl⟩
    rw[hlf0] at HF lv hlb
    have hw1:IntKind.i64.wrap (lf+1)=lf+1:=wrapI (by omega) (by omega)
    clear hdo hdn HA HG hA' hlf htm hki hL4 hs' c0 c1 c2 c3 hlf0
    have hS0:w4.drew.cell? ⟨bo,off+j*4+1,none⟩=some (.int .i64 xk)/\w4.drew.cell? ⟨T,4,none⟩=some (.int .i64 n)/\w4.drew.cell? ⟨X,kn,none⟩=some (.int .i64 lf):=⟨d1,t4,lv⟩
    go_upto_region 14 with fail
    refine Gen.start (S:=fun w'=>w'.cell? ⟨bo,off+j*4+1,none⟩=some (.int .i64 xk)/\w'.cell? ⟨T,4,none⟩=some (.int .i64 n)/\w'.cell? ⟨X,kn,none⟩=some (.int .i64 lf)) (by kernel_rfl) hS0 (fun zzg=>?_)
    refine Gen.tk 0 11 ?_ rfl rfl (Or.inl ⟨by rfl,?_⟩) zzg ?_;rotate_left
    ·rintro w' ⟨s0,s1,s2⟩;go_simp;try with_reducible rfl
    go_frame
    refine Gen.tk 1 3 ?_ rfl rfl (Or.inl ⟨by rfl,?_⟩) zzg ?_;rotate_left
    ·rintro w' ⟨s0,s1,s2⟩;go_simp;try with_reducible rfl
    go_frame
    refine Gen.tk 2 3 ?_ rfl rfl (Or.inl ⟨by rfl,?_⟩) zzg ?_;rotate_left
    ·rintro w' ⟨s0,s1,s2⟩;go_simp;try with_reducible rfl
    go_frame
    refine Gen.tk 3 4 ?_ rfl rfl (Or.inl ⟨by rfl,?_⟩) zzg ?_;rotate_left
    ·rintro w' ⟨s0,s1,s2⟩;go_simp;try with_reducible rfl
    go_frame
    refine Gen.tk 4 5 ?_ rfl rfl (Or.inl ⟨by rfl,?_⟩) zzg ?_;rotate_left
    ·rintro w' ⟨s0,s1,s2⟩;go_simp;try with_reducible rfl
    go_frame
    refine Gen.tk 5 10 ?_ rfl rfl (Or.inl ⟨by rfl,?_⟩) zzg ?_;rotate_left
    ·rintro w' ⟨s0,s1,s2⟩;go_simp;try with_reducible rfl
    go_frame
    refine Gen.tk 6 7 ?_ rfl rfl (Or.inl ⟨by rfl,?_⟩) zzg ?_;rotate_left
    ·rintro w' ⟨s0,s1,s2⟩;go_simp;try with_reducible rfl
    go_frame
    refine Gen.tk 7 8 ?_ rfl rfl (Or.inl ⟨by rfl,?_⟩) zzg ?_;rotate_left
    ·rintro w' ⟨s0,s1,s2⟩;go_simp;try with_reducible rfl
    go_frame
    refine Gen.tk 8 9 ?_ rfl rfl (Or.inl ⟨by rfl,?_⟩) zzg ?_;rotate_left
    ·rintro w' ⟨s0,s1,s2⟩;go_simp;try with_reducible rfl
    go_frame
    refine Gen.tk 9 10 ?_ rfl rfl (Or.inl ⟨by rfl,?_⟩) zzg ?_;rotate_left
    ·rintro w' ⟨s0,s1,s2⟩;go_simp;try with_reducible rfl
    go_frame
    refine Gen.one (i:=10) (by kernel_rfl) rfl rfl (fun K hK=>?_)
    go_simp
    refine(zpg hkv _ (by omega) (by omega)).mono ?_
    rintro e w5 ⟨rfl,rfl⟩
    dsimp only
    refine hK.out _ _ zzg (fun zzg=>?_)
    clear hK K
    try go_frame
    refine Gen.tk 11 12 ?_ rfl rfl (Or.inl ⟨by rfl,?_⟩) zzg ?_;rotate_left
    ·rintro w' ⟨s0,s1,s2⟩;go_simp;try with_reducible rfl
    go_frame
    refine Gen.tk 12 13 ?_ rfl rfl (Or.inl ⟨by rfl,?_⟩) zzg ?_;rotate_left
    ·rintro w' ⟨s0,s1,s2⟩;go_simp;try with_reducible rfl
    go_frame
    refine Gen.tk 13 15 ?_ rfl rfl (Or.inl ⟨by rfl,?_⟩) zzg ?_;rotate_left
    ·rintro w' ⟨s0,s1,s2⟩;go_simp;try with_reducible rfl
    go_frame
    refine Gen.tk 14 15 ?_ rfl rfl (Or.inl ⟨by rfl,?_⟩) zzg ?_;rotate_left
    ·rintro w' ⟨s0,s1,s2⟩;go_simp;try with_reducible rfl
    go_frame
    refine Gen.last (i:=15) (by kernel_rfl) rfl rfl (by kernel_rfl) (by kernel_rfl) (fun K hK=>?_)
    go_simp
    refine hK.out _ _ ?_
    clear hK K zzg
    go_wp2_with fail
    go_roundw
    case rel=>
     obtain⟨A',wn',q1,q2⟩:=HF.out
     exact⟨j+1,by omega,by go_num,A',s',wn',q1,HS.out,q2⟩
    case measure=>simp[intOf];omega
   ·have hbq:(xw == 10)=false:=beq_false_of_ne q10
    rw[zul q10] at hlf
    have HF:Hid (∃ A' wn',At w w4 T false (j+1) A' s' wn'/\Lvs w4 X n s'):=⟨A',wn',hA',hL4.kept (fun _ _=>rfl) hlf.lif⟩
    have HS:Hid (s'.n=n/\s'.tv=tv/\s'.to=tob):=hs'
    clear hdo hdn HA HG hA' hlf htm hki hL4 hs' c0 c1 c2 c3 d1 t4
    go_wp2_with fail
    go_roundw
    case rel=>
     obtain⟨A',wn',q1,q2⟩:=HF.out
     exact⟨j+1,by omega,by go_num,A',s',wn',q1,HS.out,q2⟩
    case measure=>simp[intOf];omega
  ·obtain rfl:j=xs.length:=by omega
   obtain⟨H,L,b,C,k1,k2,k3,k4,_⟩:=hA.g.ex
   obtain⟨V,hV⟩:∃ V:Nat,tv=(V:Int):=⟨tv.toNat,by omega⟩
   obtain⟨s1,hs1⟩:∃ s1,s.zy3 1000 (-1)=s1:=⟨_,rfl⟩
   obtain⟨s2,hs2⟩:∃ s2,s1.calm (2*V+10)=s2:=⟨_,rfl⟩
   have k1':=k1.to (hon':=True) fun _=>rfl
   have hend:Ended s s2:=by rw[<- hs2,<- hs1];exact ended k1' k3 (by omega) (by omega) ⟨by omega,by omega⟩ (by omega) (by omega) (by omega) (by omega)
   have hok:∀ j,j<2*V+10->CalmOk (s1.calm j):=fun j hj=>by
    rw[<- hs1]
    obtain⟨L',k⟩:=(k1'.zy3 1000 (-1)).calm (by omega) (by omega) j (by omega)
    exact k.toSafe.calmOk (by omega)
   have hwb1:WdB s1 C:=by rw[<- hs1];exact k3.zy3 (by omega) (-1)
   have n1s:s1.n<=4:=by rw[<- hs1,(zb2 s 1000 (-1)).n,sn];exact n4
   have hwb2:WdB s2 (C+18000*(2*V+10)):=by rw[<- hs2];exact hwb1.calm n1s _ hok
   have hsf:∃ L',Safe2 True s2 H L' (b+1) (40*(xs.length:Int)+(2*V+10:Nat)):=by rw[<- hs2,<- hs1];exact(k1'.zy3 1000 (-1)).calm (by omega) (by omega) (2*V+10) (by omega)
   have htm1:Tm s s1:=by rw[<- hs1];exact zb2 s 1000 (-1)
   have htm2:Tm s1 s2:=by rw[<- hs2];exact zci s1 _
   have hC2:C+18000*(2*V+10)<=10000000:=by omega
   obtain⟨C2,hC2e⟩:∃ C2,C+18000*(2*V+10)=C2:=⟨_,rfl⟩
   rw[hC2e] at hC2 hwb2
   have hC1:C+18000*(2*V+10)<=800000000:=by rw[hC2e];exact Nat.le_trans hC2 (by decide)
   have hfl:=zg0 A s 1000 (-1) wr hA.t.wd
   rw[hs1] at hfl
   have t0:=hA.t.c0
   have HA:Hid (Ta w wr T A s wn/\Lvs wr X n s/\(s.n=n/\s.tv=tv/\s.to=tob)):=⟨hA.ta,hLv,sn,stv,sto⟩
   have HE:Hid (Ended s s2/\(∀ j,j<2*V+10->CalmOk (s1.calm j))/\WdB s1 C/\WdB s2 C2/\Tm s s1/\Tm s1 s2/\s1.calm (2*V+10)=s2/\Lif s s1/\H.length+b<=61/\∃ L',Safe2 True s2 H L' (b+1) (40*(xs.length:Int)+(2*V+10:Nat))):=⟨hend,hok,hwb1,hwb2,htm1,htm2,hs2,by rw[<- hs1];exact(zbt s 1000 (-1)).lif,by omega,hsf⟩
   have hjx:¬ ((xs.length:Int)<xs.length):=by omega
   have HV:Hid (tv=(V:Int)):=hV
   clear hgo hA k1 k2 k3 k4 k1' hend hok hwb1 n1s hwb2 htm1 htm2 hs1 hs2 hLv sn stv sto hsf hV hC2e
   go_wp2_with fail
   refine hfl.mono ?_
   rintro e w4 ⟨rfl,d,f⟩
   have hT4:Ta w w4 T A s1 wn:=HA.out.1.moved d f HE.out.2.2.2.2.1
   have hL4:Lvs w4 X n s1:=HA.out.2.1.kept (f.ints HA.out.1.t.wd) HE.out.2.2.2.2.2.2.2.1
   have hw1:IntKind.i64.wrap (2*tv)=2*tv:=wrapI (by omega) (by omega)
   have hw2:IntKind.i64.wrap (2*tv+10)=2*tv+10:=wrapI (by omega) (by omega)
   have hcm:=zc0 A s1 C (2*V+10) w4.drew (hT4.below (Below.refl w4.heap.size w4).drew).t.wd HE.out.2.2.1 hC1 HE.out.2.1
   rw[HE.out.2.2.2.2.2.2.1,show ((2*V+10:Nat):Int)=2*tv+10 by have:=HV.out;omega] at hcm
   have t0:=hT4.t.c0
   have t2:w4.cell? ⟨T,2,none⟩=some (.int .i64 tv):=by rw[<- HA.out.2.2.2.1,<- HE.out.2.2.2.2.1.tv];exact hT4.t.c2
   have HB:Hid (Ta w w4 T A s1 wn/\Lvs w4 X n s1):=⟨hT4,hL4⟩
   clear hfl d f hT4 hL4
   have hS0:w4.drew.cell? ⟨T,0,none⟩=some (tp A.Q)/\w4.drew.cell? ⟨T,2,none⟩=some (.int .i64 tv):=⟨t0,t2⟩
   go_upto_region 16 with fail
   refine Gen.start (S:=fun w'=>w'.cell? ⟨T,0,none⟩=some (tp A.Q)/\w'.cell? ⟨T,2,none⟩=some (.int .i64 tv)) (by kernel_rfl) hS0 (fun zzg=>?_)
   refine Gen.tk 0 1 ?_ rfl rfl (Or.inl ⟨by rfl,?_⟩) zzg ?_;rotate_left
   ·rintro w' ⟨s0,s1⟩;go_simp;try with_reducible rfl
   go_frame
   refine Gen.tk 1 2 ?_ rfl rfl (Or.inl ⟨by rfl,?_⟩) zzg ?_;rotate_left
   ·rintro w' ⟨s0,s1⟩;go_simp;try with_reducible rfl
   go_frame
   refine Gen.tk 2 3 ?_ rfl rfl (Or.inl ⟨by rfl,?_⟩) zzg ?_;rotate_left
   ·rintro w' ⟨s0,s1⟩;go_simp;try with_reducible rfl
   go_frame
   refine Gen.tk 3 11 ?_ rfl rfl (Or.inl ⟨by rfl,?_⟩) zzg ?_;rotate_left
   ·rintro w' ⟨s0,s1⟩;go_simp;try with_reducible rfl
   go_frame
   refine Gen.tk 4 5 ?_ rfl rfl (Or.inl ⟨by rfl,?_⟩) zzg ?_;rotate_left
   ·rintro w' ⟨s0,s1⟩;go_simp;try with_reducible rfl
   go_frame
   refine Gen.tk 5 6 ?_ rfl rfl (Or.inl ⟨by rfl,?_⟩) zzg ?_;rotate_left
   ·rintro w' ⟨s0,s1⟩;go_simp;try with_reducible rfl
   go_frame
   refine Gen.tk 6 7 ?_ rfl rfl (Or.inl ⟨by rfl,?_⟩) zzg ?_;rotate_left
   ·rintro w' ⟨s0,s1⟩;go_simp;try with_reducible rfl
   go_frame
   refine Gen.tk 7 8 ?_ rfl rfl (Or.inl ⟨by rfl,?_⟩) zzg ?_;rotate_left
   ·rintro w' ⟨s0,s1⟩;go_simp;try with_reducible rfl
   go_frame
   refine Gen.tk 8 9 ?_ rfl rfl (Or.inl ⟨by rfl,?_⟩) zzg ?_;rotate_left
   ·rintro w' ⟨s0,s1⟩;go_simp;try with_reducible rfl
   go_frame
   refine Gen.tk 9 10 ?_ rfl rfl (Or.inl ⟨by rfl,?_⟩) zzg ?_;rotate_left
   ·rintro w' ⟨s0,s1⟩;go_simp;try with_reducible rfl
   go_frame
   refine Gen.tk 10 11 ?_ rfl rfl (Or.inl ⟨by rfl,?_⟩) zzg ?_;rotate_left
   ·rintro w' ⟨s0,s1⟩;go_simp;try with_reducible rfl
   go_frame
   refine Gen.last (i:=11) (by kernel_rfl) rfl rfl (by kernel_rfl) (by kernel_rfl) (fun K hK=>?_)
   go_simp
   refine hcm.mono ?_
   rintro e w5 ⟨rfl,a,d,f⟩
   dsimp only
   refine hK.out _ _ ?_
   clear hK K zzg hcm
   have hT5:Ta w w5 T { A with a:=a } s2 wn:=(HB.out.1.below (Below.refl w4.heap.size w4).drew).moved d f HE.out.2.2.2.2.2.1
   have hL5:Lvs w5 X n s2:=(HB.out.2.kept (KpI.below (Below.refl w4.heap.size w4).drew) (fun _=>rfl)).kept (f.ints (HB.out.1.below (Below.refl w4.heap.size w4).drew).t.wd) (by rw[<- HE.out.2.2.2.2.2.2.1];exact zd8 s1 _)
   clear t0 t2 HB d f hS0
   have t0:=hT5.t.c0
   have hel:s2.events.length<=10000000:=Nat.le_trans HE.out.2.2.2.1.ev hC2
   have hev:=zf9 { A with a:=a } s2 w5 hT5.t.wd (by omega)
   have HB:Hid (Ta w w5 T { A with a:=a } s2 wn/\Lvs w5 X n s2):=⟨hT5,hL5⟩
   clear hT5 hL5
   go_wp2_with fail
   refine hev.mono ?_
   rintro e w6 ⟨ev,rfl,hrow,hb6⟩
   obtain⟨aev,cev,rfl,hcell⟩:=HasE.shape (l:=s2.events) hrow
   have HC:Hid (0<s2.events.length->∃ g,aev=some ⟨g,0,none⟩/\w5.heap.size<=g/\g<w6.heap.size/\∀ k (hk:k<s2.events.length) j u,(ecell s2.events[k])[j]?=some u->w6.cell? ⟨g,k*10+j,none⟩=some u):=hcell
   have HB6:Hid (Ta w w6 T { A with a:=a } s2 wn/\Lvs w6 X n s2):=⟨HB.out.1.below hb6,HB.out.2.kept (KpI.below hb6) fun _=>rfl⟩
   obtain⟨evs,hevs⟩:∃ evs,s2.events=evs:=⟨_,rfl⟩
   have HEV:Hid (s2.events=evs):=hevs
   rw[hevs] at HC hel
   rw[hevs]
   clear hrow hcell hev hb6 HB t0 hevs
   go_wp2_with fail
   go_loopw [19] (fun i wx=>∃ k:Nat,k<=evs.length/\i = .int .i64 k/\Below w6.heap.size w6 wx) (fun i _=>evs.length-(intOf i).toNat)
   case atStart=>exact⟨0,by omega,rfl,Below.refl _ _⟩
   case round=>
    obtain⟨k,hk,rfl,hbx⟩:=hrel
    by_cases hkl:k<evs.length
    ·obtain⟨g,rfl,hg1,hg2,hc⟩:=HC.out (by omega)
     obtain⟨y,hy⟩:∃ y,evs[k]=y:=⟨_,rfl⟩
     have hyg:s2.events[k]?=some y:=by rw[HEV.out,List.getElem?_eq_getElem hkl,hy]
     have hym:y∈s2.events:=List.mem_of_getElem? hyg
     have hLx:Lvs wr X n s2:=HB6.out.2.kept (KpI.below hbx) fun _=>rfl
     obtain⟨L',sx⟩:=HE.out.2.2.2.2.2.2.2.2.2
     obtain⟨B,hi,_⟩:=sx.inv.inv
     obtain⟨_,_,_,oc0,ocn,_⟩:=hi.objs hym
     have hn2:s2.n=n:=by rw[HE.out.2.2.2.2.2.1.n,HE.out.2.2.2.2.1.n];exact HA.out.2.2.1
     obtain⟨cn,hcn⟩:∃ cn:Nat,y.client=(cn:Int):=⟨y.client.toNat,by omega⟩
     have q:∀ j u,(ecell y)[j]?=some u->wr.cell? ⟨g,k*10+j,none⟩=some u:=fun j u hu=>(hbx.cell (p:=⟨g,k*10+j,none⟩) hg2).trans (hc k hkl j u (by rw[hy];exact hu))
     have q0:=q 0 _ rfl
     have q8:=q 8 _ rfl
     have q9:=q 9 _ rfl
     rw[Nat.add_zero,hcn] at q0
     have lv:=hLx.v cn (by omega)
     have hcnI:(cn:Int)<(n:Int):=by omega
     have hcn0:(0:Int)<=(cn:Int):=by omega
     have hkI:(k:Int)<(evs.length:Int):=by omega
     have hkI0:(0:Int)<=(k:Int):=by omega
     have HY:Hid (y.ended=0->y.life≠(s2.seat cn).life):=fun hz=>HE.out.1.over k y hyg hz cn (by omega) hcn
     have HBX:Hid (∀ j,Below w6.heap.size w6 (wr.drewN j)):=fun j=>⟨hbx.os,hbx.tape,hbx.output,hbx.size,hbx.block⟩
     generalize (s2.seat cn).life=lf at *
     clear q hc hi oc0 ocn hn2 hcn hyg hym hLx hbx
     by_cases hz:y.ended=0
     ·have e1:(y.ended == 0)=true:=by rw[hz];rfl
      have e2:(y.life == lf)=false:=beq_false_of_ne (HY.out hz)
      clear hz HY
      go_upto_region 21 with fail
      go_quiet (fail)
      go_wp2_with fail
      go_roundw
      case rel=>exact⟨k+1,by omega,by go_num,HBX.out _⟩
      case measure=>simp[intOf];omega
     ·have e1:(y.ended == 0)=false:=beq_false_of_ne hz
      clear hz HY
      go_upto_region 21 with fail
      go_quiet (fail)
      go_wp2_with fail
      go_roundw
      case rel=>exact⟨k+1,by omega,by go_num,HBX.out _⟩
      case measure=>simp[intOf];omega
    ·obtain rfl:k=evs.length:=by omega
     have hTx:Ta w wr T { A with a:=a } s2 wn:=HB6.out.1.below hbx
     obtain⟨A2,hA2⟩:∃ A2,({ A with a:=a }:Wa)=A2:=⟨_,rfl⟩
     rw[hA2] at hTx
     have HN:Hid (s2.n=n):=by rw[HE.out.2.2.2.2.2.1.n,HE.out.2.2.2.2.1.n];exact HA.out.2.2.1
     have HT:Hid (s2.tv=tv):=by rw[HE.out.2.2.2.2.2.1.tv,HE.out.2.2.2.2.1.tv];exact HA.out.2.2.2.1
     have hup:=zd1 A2 s2 wr hTx.t.wd
     obtain⟨sv,hsv⟩:=HE.out.1.up
     rw[hsv,show (some sv:Option Sv).isSome=true from rfl] at hup
     have t0:=hTx.t.c0
     have t2:wr.cell? ⟨T,2,none⟩=some (.int .i64 tv):=by rw[<- HT.out];exact hTx.t.c2
     have t3:=hTx.t.c3
     have t4:wr.cell? ⟨T,4,none⟩=some (.int .i64 n):=by rw[<- HN.out];exact hTx.t.c4
     obtain⟨td2,htd2⟩:∃ td2,s2.td=td2:=⟨_,rfl⟩
     rw[htd2] at t3
     have d0:0<=td2:=by rw[<- htd2];exact HE.out.2.2.2.1.td0
     have d1:td2<=500:=by rw[<- htd2];exact HE.out.2.2.2.1.td1
     have hsh:=fun w'=>Clock.zkd td2 tv w' d0 d1 (by omega) (by omega)
     obtain⟨sh,hsh0⟩:∃ sh,tv*(1000-td2) / (1000+td2)=sh:=⟨_,rfl⟩
     simp only[hsh0] at hsh
     have HSH:Hid (short s2.td s2.tv=sh):=by rw[htd2,HT.out];exact hsh0
     have HTX:Hid (Ta w wr T A2 s2 wn):=hTx
     have hjx2:¬ ((evs.length:Int)<evs.length):=by omega
     clear hTx hA2 hsv htd2 hsh0 hbx HC HB6 HEV hel
     go_wp2_with fail
     refine hup.mono ?_
     rintro e w7 ⟨rfl,rfl⟩
     clear hup
     go_upto_region 25 with fail
     go_quiet (first|(go_at_call 15;refine Calls.quiet_of_same (hsh _)))
     have HT8:Hid (Ta w (w7.drewN nq) T A2 s2 wn):=HTX.out.below ⟨rfl,rfl,rfl,Nat.le_refl _,fun _ _=>rfl⟩
     have t0':(w7.drewN nq).cell? ⟨T,0,none⟩=some (tp A2.Q):=t0
     have t4':(w7.drewN nq).cell? ⟨T,4,none⟩=some (.int .i64 n):=t4
     clear HTX hsh t0 t2 t3 t4
     generalize w7.drewN nq=w8 at *
     by_cases hs4:sh<4
     ·have e1:decide (sh<4)=true:=decide_eq_true hs4
      have hfin:=HT8.out.b
      clear hs4
      go_wp2_with fail
      go_ret
      exact⟨rfl,hfin⟩
     ·have e1:decide (sh<4)=false:=decide_eq_false hs4
      obtain⟨r0,r1⟩:=Clock.zeq pk (n:=(n:Int)) (by omega) (by omega)
      obtain⟨kn,hkv⟩:∃ kn:Nat,Clock.pickV pk n=(kn:Int):=⟨(Clock.pickV pk n).toNat,by omega⟩
      rw[hkv] at r0 r1
      have hp1:=fun w=>zpg hkv w (by omega) (by omega)
      have hp2:=fun w=>Clock.zal pa 8 w (by omega) (by omega)
      have hkn:kn<n:=by omega
      have hs44:4<=short s2.td s2.tv:=by rw[HSH.out];omega
      have HS4:Hid (4<=short s2.td s2.tv):=hs44
      clear hs44
      clear hkv hs4 HSH
      go_wp2_with fail
      refine(hp1 _).mono ?_
      rintro e w8 ⟨rfl,rfl⟩
      go_wp2_with fail
      refine(hp2 _).mono ?_
      rintro e w8 ⟨oo,o0,o1,rfl,rfl⟩
      clear hp1 hp2
      obtain⟨L',sx⟩:=HE.out.2.2.2.2.2.2.2.2.2
      have hshut:Shut s2 kn:=HE.out.1.shut kn (by rw[HN.out];exact hkn)
      obtain⟨hok3,hwb3,hwb4,hn3,htm3⟩:=sx.readOk HE.out.2.2.2.1 (by have:=HE.out.2.2.2.2.2.2.2.2.1;omega) (k:=kn) (by rw[HN.out];exact hkn) o0 o1 hshut
      have hrr:=HE.out.1.again HS4.out kn (by rw[HN.out];exact hkn) oo o0 o1
      have hrd:=zcf A2 s2 kn _ oo w8 HT8.out.t.wd (by rw[HN.out];exact hkn) HE.out.2.2.2.1 (room0 hC2)
      rw[zlk hshut o0 o1,if_pos rfl,show eV 0 = .nilIface from rfl] at hrd
      obtain⟨s3,hs3⟩:∃ s3,s2.read kn oo=s3:=⟨_,rfl⟩
      rw[hs3] at hrd hok3 hwb3 hwb4 hn3 htm3 hrr
      obtain⟨s4,hs4⟩:∃ s4,s3.calm1=s4:=⟨_,rfl⟩
      rw[hs4] at hwb4 hrr
      have HP:Hid (CalmOk s3/\WdB s3 (C2+3)/\WdB s4 (C2+18003)/\s3.n=s2.n/\Tm s2 s3/\Rr2 s4 kn oo s2.events.length/\s3.calm1=s4):=⟨hok3,hwb3,hwb4,hn3,htm3,hrr,hs4⟩
      clear sx hshut hok3 hwb3 hwb4 hn3 htm3 hrr hs3 hs4
      go_wp2_with fail
      refine hrd.mono ?_
      rintro e w9 ⟨rfl,d,f⟩
      have hT9:Ta w w9 T A2 s3 wn:=HT8.out.moved d f HP.out.2.2.2.2.1
      have hcm:=zc0 A2 s3 _ 1 w9 hT9.t.wd HP.out.2.1 (room1 hC2) (fun j hj=>by rw[show j=0 by omega];exact HP.out.1)
      rw[show s3.calm 1=s4 from HP.out.2.2.2.2.2.2] at hcm
      have t0:=hT9.t.c0
      have HT9:Hid (Ta w w9 T A2 s3 wn):=hT9
      clear hrd d f hT9 HT8 t0' t4'
      go_wp2_with fail
      refine hcm.mono ?_
      rintro e w10 ⟨rfl,a3,d,f⟩
      have hT10:Ta w w10 T { A2 with a:=a3 } s4 wn:=HT9.out.moved d f (by rw[<- HP.out.2.2.2.2.2.2];exact ziu s3)
      obtain⟨A3,hA3⟩:∃ A3,({ A2 with a:=a3 }:Wa)=A3:=⟨_,rfl⟩
      rw[hA3] at hT10
      have hn4:s4.n=n:=by rw[<- HP.out.2.2.2.2.2.2,calm1_n,HP.out.2.2.2.1];exact HN.out
      clear hcm d f HT9 t0 hA3
      have t0:=hT10.t.c0
      have hmn:=zce A3 s4 w10 hT10.t.wd
      have hrd:=zcf A3 s4 kn _ oo w10 hT10.t.wd (by rw[hn4];exact hkn) HP.out.2.2.1 (room2 hC2)
      rw[zlk HP.out.2.2.2.2.2.1.sh o0 o1,if_pos rfl,show eV 0 = .nilIface from rfl] at hrd
      obtain⟨x,y,hfin⟩:=HP.out.2.2.2.2.2.1.fin
      obtain⟨s5,hs5⟩:∃ s5,s4.read kn oo=s5:=⟨_,rfl⟩
      have htm5:Tm s4 s5:=by rw[<- hs5];exact zc3 s4 kn _
      rw[hs5] at hrd hfin
      have HF:Hid (Fin2 s4 s5 s2.events.length x y/\Tm s4 s5):=⟨hfin,htm5⟩
      have HT10:Hid (Ta w w10 T A3 s4 wn):=hT10
      clear hT10 hfin htm5 hn4 HP hs5
      go_wp2_with fail
      refine hmn.mono ?_
      rintro e w10 ⟨rfl,rfl⟩
      clear hmn
      go_wp2_with fail
      refine hrd.mono ?_
      rintro e w11 ⟨rfl,d,f⟩
      have hT11:Ta w w11 T A3 s5 wn:=HT10.out.moved d f HF.out.2
      clear hrd d f HT10 t0
      have t0:=hT11.t.c0
      have hel:s5.events.length<=100000000:=room3 hC2 HE.out.2.2.2.1.ev HF.out.1.len
      have hev:=zf9 A3 s5 w11 hT11.t.wd (room4 hel)
      have HT11:Hid (Ta w w11 T A3 s5 wn):=hT11
      clear hT11
      go_wp2_with fail
      refine hev.mono ?_
      rintro e w12 ⟨ev,rfl,hrow,hb12⟩
      obtain⟨aev2,cev2,rfl,hcell⟩:=HasE.shape (l:=s5.events) hrow
      obtain⟨N,hN⟩:∃ N,s2.events.length=N:=⟨_,rfl⟩
      rw[hN] at HF
      have hlen5:=HF.out.1.len
      obtain⟨g,rfl,hg1,hg2,hc⟩:=hcell (by omega)
      have qx:∀ j u,(ecell x)[j]?=some u->w12.cell? ⟨g,N*10+j,none⟩=some u:=fun j u hu=>hc N (by omega) j u (by rw[show s5.events[N]=x from Option.some.inj ((List.getElem?_eq_getElem (by omega)).symm.trans HF.out.1.gx)];exact hu)
      have qy:∀ j u,(ecell y)[j]?=some u->w12.cell? ⟨g,(N+1)*10+j,none⟩=some u:=fun j u hu=>hc (N+1) (by omega) j u (by rw[show s5.events[N+1]=y from Option.some.inj ((List.getElem?_eq_getElem (by omega)).symm.trans HF.out.1.gy)];exact hu)
      have HT12:Hid (Ta w w12 T A3 s5 wn):=HT11.out.below hb12
      rw[hlen5]
      have hN9:N<=100000000:=by omega
      clear hev hrow hc hcell hb12 HT11 hlen5 hN hel t0
      have t0:=HT12.out.t.c0
      have HG:Hid (g<w12.heap.size):=hg2
      have p0:=qx 0 _ rfl
      have p1:=qx 1 _ rfl
      have p2:=qx 2 _ rfl
      have p3:=qx 3 _ rfl
      have p4:=qx 4 _ rfl
      have p5:=qx 5 _ rfl
      have p6:=qx 6 _ rfl
      have p7:=qx 7 _ rfl
      have p8:=qx 8 _ rfl
      have p9:=qx 9 _ rfl
      have r0':=qy 0 _ rfl
      have r1':=qy 1 _ rfl
      have r2':=qy 2 _ rfl
      have r3':=qy 3 _ rfl
      have r4':=qy 4 _ rfl
      have r5':=qy 5 _ rfl
      have r6':=qy 6 _ rfl
      have r7':=qy 7 _ rfl
      have r8':=qy 8 _ rfl
      have r9':=qy 9 _ rfl
      have hw2:IntKind.i64.wrap ((N:Int)+2-2)=(N:Int):=by rw[show (N:Int)+2-2=N by omega];exact wrapI (by omega) (by omega)
      have hw1:IntKind.i64.wrap ((N:Int)+2-1)=((N+1:Nat):Int):=by rw[show (N:Int)+2-1=((N+1:Nat):Int) by omega];exact wrapI (by omega) (by omega)
      have b1:(N:Int)<((N+2:Nat):Int):=by omega
      have b2:((N+1:Nat):Int)<((N+2:Nat):Int):=by omega
      have b3:(0:Int)<=((N+1:Nat):Int):=by omega
      rw[Nat.add_zero] at p0 r0'
      have pa0:=fun o1=>(World.cell?_alloc_lt w12 o1 ⟨g,N*10,none⟩ hg2).trans p0
      have pb0:=fun o1 o2=>(World.cell?_alloc_lt (w12.alloc o1) o2 ⟨g,N*10,none⟩ (by simp;omega)).trans (pa0 o1)
      have ra0:=fun o1=>(World.cell?_alloc_lt w12 o1 ⟨g,(N+1)*10,none⟩ hg2).trans r0'
      have rb0:=fun o1 o2=>(World.cell?_alloc_lt (w12.alloc o1) o2 ⟨g,(N+1)*10,none⟩ (by simp;omega)).trans (ra0 o1)
      have pa1:=fun o1=>(World.cell?_alloc_lt w12 o1 ⟨g,N*10+1,none⟩ hg2).trans p1
      have pb1:=fun o1 o2=>(World.cell?_alloc_lt (w12.alloc o1) o2 ⟨g,N*10+1,none⟩ (by simp;omega)).trans (pa1 o1)
      have ra1:=fun o1=>(World.cell?_alloc_lt w12 o1 ⟨g,(N+1)*10+1,none⟩ hg2).trans r1'
      have rb1:=fun o1 o2=>(World.cell?_alloc_lt (w12.alloc o1) o2 ⟨g,(N+1)*10+1,none⟩ (by simp;omega)).trans (ra1 o1)
      have pa2:=fun o1=>(World.cell?_alloc_lt w12 o1 ⟨g,N*10+2,none⟩ hg2).trans p2
      have pb2:=fun o1 o2=>(World.cell?_alloc_lt (w12.alloc o1) o2 ⟨g,N*10+2,none⟩ (by simp;omega)).trans (pa2 o1)
      have ra2:=fun o1=>(World.cell?_alloc_lt w12 o1 ⟨g,(N+1)*10+2,none⟩ hg2).trans r2'
      have rb2:=fun o1 o2=>(World.cell?_alloc_lt (w12.alloc o1) o2 ⟨g,(N+1)*10+2,none⟩ (by simp;omega)).trans (ra2 o1)
      have pa3:=fun o1=>(World.cell?_alloc_lt w12 o1 ⟨g,N*10+3,none⟩ hg2).trans p3
      have pb3:=fun o1 o2=>(World.cell?_alloc_lt (w12.alloc o1) o2 ⟨g,N*10+3,none⟩ (by simp;omega)).trans (pa3 o1)
      have ra3:=fun o1=>(World.cell?_alloc_lt w12 o1 ⟨g,(N+1)*10+3,none⟩ hg2).trans r3'
      have rb3:=fun o1 o2=>(World.cell?_alloc_lt (w12.alloc o1) o2 ⟨g,(N+1)*10+3,none⟩ (by simp;omega)).trans (ra3 o1)
      have pa4:=fun o1=>(World.cell?_alloc_lt w12 o1 ⟨g,N*10+4,none⟩ hg2).trans p4
      have pb4:=fun o1 o2=>(World.cell?_alloc_lt (w12.alloc o1) o2 ⟨g,N*10+4,none⟩ (by simp;omega)).trans (pa4 o1)
      have ra4:=fun o1=>(World.cell?_alloc_lt w12 o1 ⟨g,(N+1)*10+4,none⟩ hg2).trans r4'
      have rb4:=fun o1 o2=>(World.cell?_alloc_lt (w12.alloc o1) o2 ⟨g,(N+1)*10+4,none⟩ (by simp;omega)).trans (ra4 o1)
      have pa5:=fun o1=>(World.cell?_alloc_lt w12 o1 ⟨g,N*10+5,none⟩ hg2).trans p5
      have pb5:=fun o1 o2=>(World.cell?_alloc_lt (w12.alloc o1) o2 ⟨g,N*10+5,none⟩ (by simp;omega)).trans (pa5 o1)
      have ra5:=fun o1=>(World.cell?_alloc_lt w12 o1 ⟨g,(N+1)*10+5,none⟩ hg2).trans r5'
      have rb5:=fun o1 o2=>(World.cell?_alloc_lt (w12.alloc o1) o2 ⟨g,(N+1)*10+5,none⟩ (by simp;omega)).trans (ra5 o1)
      have pa6:=fun o1=>(World.cell?_alloc_lt w12 o1 ⟨g,N*10+6,none⟩ hg2).trans p6
      have pb6:=fun o1 o2=>(World.cell?_alloc_lt (w12.alloc o1) o2 ⟨g,N*10+6,none⟩ (by simp;omega)).trans (pa6 o1)
      have ra6:=fun o1=>(World.cell?_alloc_lt w12 o1 ⟨g,(N+1)*10+6,none⟩ hg2).trans r6'
      have rb6:=fun o1 o2=>(World.cell?_alloc_lt (w12.alloc o1) o2 ⟨g,(N+1)*10+6,none⟩ (by simp;omega)).trans (ra6 o1)
      have pa7:=fun o1=>(World.cell?_alloc_lt w12 o1 ⟨g,N*10+7,none⟩ hg2).trans p7
      have pb7:=fun o1 o2=>(World.cell?_alloc_lt (w12.alloc o1) o2 ⟨g,N*10+7,none⟩ (by simp;omega)).trans (pa7 o1)
      have ra7:=fun o1=>(World.cell?_alloc_lt w12 o1 ⟨g,(N+1)*10+7,none⟩ hg2).trans r7'
      have rb7:=fun o1 o2=>(World.cell?_alloc_lt (w12.alloc o1) o2 ⟨g,(N+1)*10+7,none⟩ (by simp;omega)).trans (ra7 o1)
      have pa8:=fun o1=>(World.cell?_alloc_lt w12 o1 ⟨g,N*10+8,none⟩ hg2).trans p8
      have pb8:=fun o1 o2=>(World.cell?_alloc_lt (w12.alloc o1) o2 ⟨g,N*10+8,none⟩ (by simp;omega)).trans (pa8 o1)
      have ra8:=fun o1=>(World.cell?_alloc_lt w12 o1 ⟨g,(N+1)*10+8,none⟩ hg2).trans r8'
      have rb8:=fun o1 o2=>(World.cell?_alloc_lt (w12.alloc o1) o2 ⟨g,(N+1)*10+8,none⟩ (by simp;omega)).trans (ra8 o1)
      have pa9:=fun o1=>(World.cell?_alloc_lt w12 o1 ⟨g,N*10+9,none⟩ hg2).trans p9
      have pb9:=fun o1 o2=>(World.cell?_alloc_lt (w12.alloc o1) o2 ⟨g,N*10+9,none⟩ (by simp;omega)).trans (pa9 o1)
      have ra9:=fun o1=>(World.cell?_alloc_lt w12 o1 ⟨g,(N+1)*10+9,none⟩ hg2).trans r9'
      have rb9:=fun o1 o2=>(World.cell?_alloc_lt (w12.alloc o1) o2 ⟨g,(N+1)*10+9,none⟩ (by simp;omega)).trans (ra9 o1)
      clear qx qy hg1 hg2
      go_upto_region 36 with fail
      go_cut[23,24] from 192 to 203 (fun u v wx=>∃ bx by_,u=tp bx/\v=tp by_/\(∀ i q,(ecell x)[i]?=some q->wx.cell? ⟨bx,i,none⟩=some q)/\(∀ i q,(ecell y)[i]?=some q->wx.cell? ⟨by_,i,none⟩=some q)/\Below w12.heap.size w12 wx)
      case first=>
       go_region
       ·go_wp2_with fail
        go_meet
        case rel=>
         obtain⟨z1,z2,z3⟩:=ze7 w12 (ecell x) (ecell y) 45
         exact⟨w12.heap.size,w12.heap.size+1,rfl,rfl,z1,z2,z3⟩
       ·go_wp2_with fail
        go_meet
        case rel=>
         obtain⟨z1,z2,z3⟩:=ze7 w12 (ecell y) (ecell x) 45
         exact⟨w12.heap.size+1,w12.heap.size,rfl,rfl,z2,z1,z3⟩
      case rest=>
       obtain⟨bx,by_,rfl,rfl,zx,zy,hbz⟩:=hcut
       have hTz:=HT12.out.below hbz
       have hmn:=zce A3 s5 wc hTz.t.wd
       clear p0 p1 p2 p3 p4 p5 p6 p7 p8 p9 r0' r1' r2' r3' r4' r5' r6' r7' r8' r9' pa0 pa1 pa2 pa3 pa4 pa5 pa6 pa7 pa8 pa9 pb0 pb1 pb2 pb3 pb4 pb5 pb6 pb7 pb8 pb9 ra0 ra1 ra2 ra3 ra4 ra5 ra6 ra7 ra8 ra9 rb0 rb1 rb2 rb3 rb4 rb5 rb6 rb7 rb8 rb9 t0
       have t0:=hTz.t.c0
       have hfin:=hTz.b
       have x6:=zx 6 _ rfl
       have x8:=zx 8 _ rfl
       have x3:=zx 3 _ rfl
       have x4:=zx 4 _ rfl
       have y3:=zy 3 _ rfl
       have y4:=zy 4 _ rfl
       have y6:=zy 6 _ rfl
       have y7:=zy 7 _ rfl
       have y8:=zy 8 _ rfl
       rcases HF.out.1.ok with q|⟨q0,q1,q2,q3,q4,q5,q6⟩
       ·rw[q] at x6
        clear q zx zy hTz hmn x8 x3 x4 y3 y4 y6 y7 y8 HT12 hbz
        go_wp2_with fail
        go_ret
        exact⟨rfl,hfin⟩
       ·rw[q0] at x6
        rw[q2] at y8
        rw[q3] at y6
        rw[q4] at y3
        rw[q5] at y4
        rw[q6] at hmn
        have e1:decide (0<x.ended)=true:=decide_eq_true q1
        clear q0 q2 q3 q4 q5 q6 zx zy hTz HT12 hbz
        go_wp2_with fail
        refine hmn.mono ?_
        rintro e wc ⟨rfl,rfl⟩
        go_wp2_with fail
        go_ret
        exact⟨rfl,hfin⟩
end Wld
end
section
namespace Leav
open Go
theorem znp{P:Program}{m:Machine}(h:m.quiet):m.OnlyLeaving P:=by
 refine⟨fun g hg=>⟨0,?_⟩,h.2⟩
 have h1:=h.1
 unfold Machine.othersDone at h1
 have h2:=List.all_eq_true.1 h1 g hg
 show g.status = .finished
 cases hs:g.status<;>rw[hs] at h2<;>first|rfl|cases h2
theorem zhu{a:Assume}{C:Checked}{os:Os}{f:FuncId}{r:Reach}{Pre:World->Array Value->Prop}{Post:World->Array Value->Value->World->Prop}
  (h:ReturnsInHanded a C os f r Pre Post):ReturnsInLeavingWide a C os f r Pre Post:=fun enter=>
 ReturnsInOpen.mono (fun _ _ _ x=>⟨x.2.1,znp x.1,x.2.2⟩) (fun _ x=>x) (h enter)
theorem zjr(Lk:Looks){p:Pinned}{s:OpenSpec}{c:OpenClaim}(kinds:List LaidKind)(tests:Bool)(har:Bool×String)(lk:Bool)
  (hc:c.holds p s) (hw:c.wfByText s=true) (htie:c.laidByTextAt Lk p kinds tests)
  (hst:c.start = .entering) (hnb:c.noBlocks=false/\c.again=false) (hm:p.checked.prog.mainIs=some (har.1,har.2.toList)) (hn:(!har.1&&har.2.isEmpty&&!lk)=false)
  (hl:∀ f fn,p.checked.prog.funcNamed c.func=some f->p.checked.prog.funcs[f]?=some fn->lk=p.checked.prog.looks []/\∀ (j:Nat) t,fn.params[j]?=some t->p.checked.prog.wantsStandIn t=false)
  (hg:true=c.goesBy p.checked.prog) :
  Claim7.holds p (.plain s) { stood:={ row:=c,standIns:=[],harness:=har,looks:=lk },kinds:=[],alts:=[],goes:=true,laidByText:=true,laidKinds:=kinds,laidTests:=tests,laidLooks:=Lk }:=by
 have h6:Claim7.isSixth { stood:={ row:=c,standIns:=[],harness:=har,looks:=lk },kinds:=[] } = false:=by simpa[Claim7.isSixth] using hn
 exact⟨Claim7.tied_new_at Lk kinds tests (Claim7.new_of_sixth hc har lk hst hnb hm h6 hl) hw,(fun D hD=>by cases hD),htie,(fun h=>by cases h),hg⟩
end Leav
end
end Go.Proofs.YtbebfliimjjohabGreatDoor
