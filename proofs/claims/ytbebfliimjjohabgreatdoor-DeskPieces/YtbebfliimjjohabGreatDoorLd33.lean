/- Parts of the proof. -/
import Derived.Test.YtbebfliimjjohabGreatDoorLd32
import Derived.Maps.RangeWalk
import Derived.Test.YtbebfliimjjohabGreatDoorLd31
set_option maxRecDepth 100000
set_option maxHeartbeats 8000000
namespace Go.Proofs.YtbebfliimjjohabGreatDoor
section
namespace Wld
open Go.RowKit Go.Maps
open Lease (Ob I64 upd TabIs hol dels objB HasI map_block map_ne mx)
open Cache (tp row_kept row_below)
open Wal (R WalIs DiskIs Oq Fw rcells)
open Num (M okB strOf ints)
open Net (NetIs Only pcells)
open Bare (Laid)
theorem SvB.newF{to' tv td:Int}{rs:List R}{now:Int}(hr:∀ r∈rs,0≤r.v∧r.v≤rs.length∧0≤r.e∧r.e≤rs.length∧r.d.size≤20)(hl:rs.length=200):SvB (Sv.new to' tv td rs false 0 now) 0∧(Sv.new to' tv td rs false 0 now).to=to'∧(Sv.new to' tv td rs false 0 now).tv=tv∧0≤(Sv.opened to' tv td rs false 0).epoch∧(Sv.opened to' tv td rs false 0).epoch≤1000:=by
 obtain⟨h1,h2,h3⟩:=opened_bounds rs.length (by omega) rs (Sv.zero to' tv td rs false 0) hr (fun o=>⟨by simp[Sv.zero],by simp[Sv.zero],by simp[Sv.zero];decide⟩) (by simp[Sv.zero]) (by simp[Sv.zero])
 obtain⟨a1,a2,a3,a4,a5,a6,a7,a8,a9,a10,a11,a12,a13,a14⟩:=applied_all rs (Sv.zero to' tv td rs false 0)
 obtain⟨so,hso⟩:∃ so,rs.foldl Sv.applied (Sv.zero to' tv td rs false 0)=so:=⟨_,rfl⟩
 have e:Sv.opened to' tv td rs false 0=so:=hso
 rw[hso] at h1 h2 h3 a1 a2 a3 a4 a5 a6 a7 a8 a9 a10 a11 a12 a13 a14
 unfold Sv.new
 rw[e]
 have k1:(so.readied now).down=false:=a4
 have k2:(so.readied now).rs=rs:=a14
 have hz:(so.readied now).add (epochR (so.readied now).epoch)=(so.readied now,12):=by
  unfold Sv.add
  rw[if_neg (by rw[k1];decide),if_pos (by rw[k2];exact hl)]
 rw[hz]
 have hep:(so.readied now).epoch=so.epoch+1:=rfl
 refine⟨⟨fun c=>?_,fun c=>?_,?_,fun o=>(h1 o).1,fun o=>?_,?_,fun o m hm=>?_,fun o=>?_,?_,?_,fun r hr'=>?_,?_,?_,fun o=>(h1 o).2.2⟩,a1,a2,h2,by omega⟩
 ·show 0≤so.ses c
  rw[a12];simp[Sv.zero]
 ·show so.ses c≤_
  rw[a12];simp[Sv.zero]
 ·show so.n≤_
  rw[a13];simp[Sv.zero]
 ·show so.vv o≤((so.readied now).rs.length:Int)
  rw[k2]
  exact(h1 o).2.1
 ·show (so.readied now).rs.length≤200
  rw[k2]
  omega
 ·have hm':m∈so.waits o:=hm
  rw[a7] at hm'
  simp[Sv.zero] at hm'
 ·show (so.waits o).length≤10
  rw[a7]
  simp[Sv.zero]
 ·show 0≤so.left
  rw[a6];simp[Sv.zero]
 ·show so.left≤_
  rw[a6];simp[Sv.zero]
 ·have hr'':r∈(so.readied now).rs:=hr'
  show 0≤r.v∧r.v≤((so.readied now).rs.length:Int)∧0≤r.e∧r.e≤((so.readied now).rs.length:Int)∧r.d.size≤20
  rw[k2] at hr'' ⊢
  exact hr r hr''
 ·show 0≤(so.readied now).epoch
  omega
 ·show (so.readied now).epoch≤201
  omega
theorem SvB.newA{to' tv td:Int}{rs:List R}{now:Int}(hr:∀ r∈rs,0≤r.v∧r.v≤rs.length∧0≤r.e∧r.e≤rs.length∧r.d.size≤20)(hl:rs.length≤200):SvB (Sv.new to' tv td rs false 0 now) 0∧(Sv.new to' tv td rs false 0 now).to=to'∧(Sv.new to' tv td rs false 0 now).tv=tv∧0≤(Sv.opened to' tv td rs false 0).epoch∧(Sv.opened to' tv td rs false 0).epoch≤1000:=by
 by_cases h:rs.length<200
 ·exact SvB.new hr h
 ·exact SvB.newF hr (by omega)
theorem newA_any(q:Nat)(tob tv td now:Int)(rs:List R)(w:World)(hD:DiskIs w q rs false 0)(hq:q<w.heap.size)(hq0:0<q)(hlaid:Laid w)(hbd:∀ r∈rs,0≤r.c∧r.o<8)(hep:0≤(Sv.opened tob tv td rs false 0).epoch)(hep1:(Sv.opened tob tv td rs false 0).epoch≤1000)(hn0:0≤now)(hn1:now≤549755813888)(hv0:0≤tv)(hv1:tv≤274877906944) :
  Calls Tryz.prog 123 #[.pointer (some ⟨q,3,none⟩),.agg #[.int .i64 tob,.int .i64 tv,.int .i64 td],.int .i64 now] w fun e w'=>∃ a:Ad,a.q=q∧e = .returned (.tuple #[tp a.S,.nilIface])∧SvIs w' a (Sv.new tob tv td rs false 0 now)∧Oq q w w'∧∀ k,foot w' a k→k=q∨w.heap.size≤k:=by
 have hlen:=hD.len
 by_cases h:rs.length<200
 ·exact newS_any q tob tv td now rs w hD hq h hbd hep hep1 hn0 hn1 hv0 hv1
 ·exact newF_any q tob tv td now rs w hD hq (by omega) hq0 hlaid hbd hep hep1 hn0 hn1 hv0 hv1
theorem WdB.startA{w:Wd}{C:Nat}(h:WdB w C):WdB w.start C:=by
 obtain⟨h1,h2,h3,_⟩:=SvB.newA (to':=w.to) (tv:=w.tv) (td:=w.td) (now:=w.clock) h.recs h.len
 exact h.served (h1.mono (by omega)) h2 h3
theorem WdB.restartA{w:Wd}{C:Nat}(h:WdB w C):WdB w.restart (C+1):=by
 unfold Wd.restart
 split
 ·exact h.mono (by omega)
 ·exact h.stepped.startA
theorem Oq.laid{q:Nat}{w w':World}(h:Oq q w w')(hq:0<q)(hl:Laid w):Laid w':=by
 have h0:=hl
 unfold Bare.Laid at h0 ⊢
 exact(World.cell?_of_block (h.block 0 (Bare.Laid.size hl) (by omega))).trans h0
theorem startA_any(A:Wa)(s:Wd)(C:Nat)(w:World)(h:WdIs w A s)(hs:s.sv=none)(hB:WdB s C)(hlaid:Laid w)(hQ0:0<A.Q)(hr:∀ r∈s.rs,0≤r.c∧r.o<8) :
  Calls Tryz.prog 58 #[tp A.Q] w fun e w'=>e = .returned (.tuple #[])∧∃ a,WdIs w' { A with a:=a } s.start∧Fz A s w { A with a:=a } s.start w':=by
 have hcut:=Wal.cut_any A.Q s.rs s.fails s.left (-1) w h.disk
 rw[show decide ((0:Int)≤-1)=false from rfl,show max (-1:Int) 0=0 from rfl] at hcut
 obtain⟨n1,n2,n3,n4,n5⟩:=SvB.newA (to':=s.to) (tv:=s.tv) (td:=s.td) (now:=s.clock) hB.recs hB.len
 go_enter Tryz.func58,Tryz.ntmps58
 go_wp2_with fail
 refine hcut.mono ?_
 rintro e w2 ⟨rfl,hD2,hO2⟩
 obtain⟨x1,x2⟩:=(h.cut hD2 hO2).1 hs
 have hla2:Laid w2:=Oq.laid hO2 hQ0 hlaid
 clear hcut hD2 hO2 h
 go_upto_region 1 with fail
 obtain⟨z1,z2⟩:=x1.below (Below.refl w2.heap.size w2).drew
 have hnew:=newA_any A.Q s.to s.tv s.td s.clock s.rs w2.drew z1.disk z1.lt hQ0 hla2 hr n4 n5 hB.c0 hB.c1 hB.tv0 hB.tv1
 have c0:=x1.core.c0
 have c1:=x1.core.c1
 have c2:=x1.core.c2
 have clk:=x1.core.clk
 dsimp only at c0 c1 c2 clk
 refine Gen.start (S:=fun w'=>w'.cell? ⟨A.Q,0,none⟩=some (.int .i64 s.to)∧w'.cell? ⟨A.Q,1,none⟩=some (.int .i64 s.tv)∧w'.cell? ⟨A.Q,2,none⟩=some (.int .i64 s.td)∧w'.cell? ⟨A.Q,12408,none⟩=some (.int .i64 s.clock)) (by kernel_rfl) ⟨c0,c1,c2,clk⟩ (fun hHeld=>?_)
 refine Gen.tk 0 16 ?_ rfl rfl (Or.inl ⟨by rfl,?_⟩) hHeld ?_;rotate_left
 ·rintro w' ⟨s0,s1,s2,s3⟩;go_simp;try with_reducible rfl
 go_frame
 refine Gen.tk 1 2 ?_ rfl rfl (Or.inl ⟨by rfl,?_⟩) hHeld ?_;rotate_left
 ·rintro w' ⟨s0,s1,s2,s3⟩;go_simp;try with_reducible rfl
 go_frame
 refine Gen.tk 2 3 ?_ rfl rfl (Or.inl ⟨by rfl,?_⟩) hHeld ?_;rotate_left
 ·rintro w' ⟨s0,s1,s2,s3⟩;go_simp;try with_reducible rfl
 go_frame
 refine Gen.tk 3 12 ?_ rfl rfl (Or.inl ⟨by rfl,?_⟩) hHeld ?_;rotate_left
 ·rintro w' ⟨s0,s1,s2,s3⟩;go_simp;try with_reducible rfl
 go_frame
 refine Gen.tk 4 5 ?_ rfl rfl (Or.inl ⟨by rfl,?_⟩) hHeld ?_;rotate_left
 ·rintro w' ⟨s0,s1,s2,s3⟩;go_simp;try with_reducible rfl
 go_frame
 refine Gen.tk 5 6 ?_ rfl rfl (Or.inl ⟨by rfl,?_⟩) hHeld ?_;rotate_left
 ·rintro w' ⟨s0,s1,s2,s3⟩;go_simp;try with_reducible rfl
 go_frame
 refine Gen.tk 6 7 ?_ rfl rfl (Or.inl ⟨by rfl,?_⟩) hHeld ?_;rotate_left
 ·rintro w' ⟨s0,s1,s2,s3⟩;go_simp;try with_reducible rfl
 go_frame
 refine Gen.tk 7 12 ?_ rfl rfl (Or.inl ⟨by rfl,?_⟩) hHeld ?_;rotate_left
 ·rintro w' ⟨s0,s1,s2,s3⟩;go_simp;try with_reducible rfl
 go_frame
 refine Gen.tk 8 9 ?_ rfl rfl (Or.inl ⟨by rfl,?_⟩) hHeld ?_;rotate_left
 ·rintro w' ⟨s0,s1,s2,s3⟩;go_simp;try with_reducible rfl
 go_frame
 refine Gen.tk 9 10 ?_ rfl rfl (Or.inl ⟨by rfl,?_⟩) hHeld ?_;rotate_left
 ·rintro w' ⟨s0,s1,s2,s3⟩;go_simp;try with_reducible rfl
 go_frame
 refine Gen.tk 10 11 ?_ rfl rfl (Or.inl ⟨by rfl,?_⟩) hHeld ?_;rotate_left
 ·rintro w' ⟨s0,s1,s2,s3⟩;go_simp;try with_reducible rfl
 go_frame
 refine Gen.tk 11 12 ?_ rfl rfl (Or.inl ⟨by rfl,?_⟩) hHeld ?_;rotate_left
 ·rintro w' ⟨s0,s1,s2,s3⟩;go_simp;try with_reducible rfl
 go_frame
 refine Gen.one (i:=12) (by kernel_rfl) rfl rfl (fun K hK=>?_)
 go_simp
 refine hnew.mono ?_
 rintro e w3 ⟨a,haq,rfl,hS3,hO3,hft3⟩
 have hO3':Oq A.Q w2 w3:=⟨hO3.os,hO3.tape,hO3.output,hO3.size,hO3.block,hO3.cell,hO3.fro,hO3.typ⟩
 have hQl:=x1.lt
 have d0:=(hO3'.cell 0 hQl (by omega)).trans c0
 have d1:=(hO3'.cell 1 hQl (by omega)).trans c1
 have d2:=(hO3'.cell 2 hQl (by omega)).trans c2
 have d4:=(hO3'.cell 12408 hQl (by omega)).trans clk
 have srv:=x1.core.srv
 have hsn:({ s with fails:=false,left:=0 }:Wd).sv=none:=hs
 rw[hsn] at srv
 unfold svP at srv
 have srv3:=(hO3'.cell 12407 hQl (by omega)).trans srv
 have fsr:=(hO3'.fro 12407 hQl).trans (x1.core.free 12407)
 obtain⟨y1,y2⟩:=x1.started hsn hS3 haq hO3' hft3 n2 n3
 have HF:Hid (WdIs (w3.setCell ⟨A.Q,12407,none⟩ (tp a.S)) { A with a:=a } s.start∧Fz A s w { A with a:=a } s.start (w3.setCell ⟨A.Q,12407,none⟩ (tp a.S))):=⟨y1,x2.trans y2⟩
 have e0:(w3.setCell ⟨A.Q,12407,none⟩ (tp a.S)).cell? ⟨A.Q,0,none⟩=some (.int .i64 s.to):=by rw[World.cell?_setCell_other _ _ _ _ (by intro q;injection q with _ q;omega)];exact d0
 have e1:(w3.setCell ⟨A.Q,12407,none⟩ (tp a.S)).cell? ⟨A.Q,1,none⟩=some (.int .i64 s.tv):=by rw[World.cell?_setCell_other _ _ _ _ (by intro q;injection q with _ q;omega)];exact d1
 have e2:(w3.setCell ⟨A.Q,12407,none⟩ (tp a.S)).cell? ⟨A.Q,2,none⟩=some (.int .i64 s.td):=by rw[World.cell?_setCell_other _ _ _ _ (by intro q;injection q with _ q;omega)];exact d2
 have e4:(w3.setCell ⟨A.Q,12407,none⟩ (tp a.S)).cell? ⟨A.Q,12408,none⟩=some (.int .i64 s.clock):=by rw[World.cell?_setCell_other _ _ _ _ (by intro q;injection q with _ q;omega)];exact d4
 dsimp only
 refine hK.out _ _ ⟨d0,d1,d2,d4⟩ (fun hHeld=>?_)
 clear hK K y1 y2 hnew hS3 hO3 hft3
 try go_frame
 refine Gen.tk 13 14 ?_ rfl rfl (Or.inl ⟨by rfl,?_⟩) hHeld ?_;rotate_left
 ·rintro w' ⟨s0,s1,s2,s3⟩;go_simp;try with_reducible rfl
 go_frame
 refine Gen.tk 14 16 ?_ rfl rfl (Or.inl ⟨by rfl,?_⟩) hHeld ?_;rotate_left
 ·rintro w' ⟨s0,s1,s2,s3⟩;go_simp;try with_reducible rfl
 go_frame
 refine Gen.tk 16 17 ?_ rfl rfl (Or.inl ⟨by rfl,?_⟩) hHeld ?_;rotate_left
 ·rintro w' ⟨s0,s1,s2,s3⟩;go_simp;try with_reducible rfl
 go_frame
 refine Gen.tk 17 18 ?_ rfl rfl (Or.inl ⟨by rfl,?_⟩) hHeld ?_;rotate_left
 ·rintro w' ⟨s0,s1,s2,s3⟩;go_simp;try with_reducible rfl
 go_frame
 refine Gen.two (i:=15) (j:=18) (by kernel_rfl) rfl rfl rfl rfl (fun K hK=>?_) (fun K hK=>?_)
 ·go_simp
  refine hK.out _ _ ⟨d0,d1,d2,d4⟩ (fun hHeld=>?_)
  clear hK K
  try go_frame
  refine Gen.last (i:=18) (by kernel_rfl) rfl rfl (by kernel_rfl) (by kernel_rfl) (fun K hK=>?_)
  go_simp
  refine hK.out _ _ ?_
  clear hK K hHeld
  go_wp2_with fail
  go_end0
  exact⟨rfl,a,HF.out⟩
 ·go_simp
  refine hK.out _ _ ⟨e0,e1,e2,e4⟩ (fun hHeld=>?_)
  clear hK K
  try go_frame
  refine Gen.last (i:=15) (by kernel_rfl) rfl rfl (by kernel_rfl) (by kernel_rfl) (fun K hK=>?_)
  go_simp
  refine hK.out _ _ ?_
  clear hK K hHeld
  go_wp2_with fail
  go_end0
  exact⟨rfl,a,HF.out⟩
theorem restartA_any(A:Wa)(s:Wd)(C:Nat)(w:World)(h:WdIs w A s)(hB:WdB s C)(hC:C≤10000000000)(hlaid:Laid w)(hQ0:0<A.Q)(hr:∀ r∈s.rs,0≤r.c∧r.o<8) :
  Calls Tryz.prog 31 #[tp A.Q] w fun e w'=>e = .returned (eV (if s.sv.isSome=true then 6 else 0))∧∃ a,WdIs w' { A with a:=a } s.restart∧Fz A s w { A with a:=a } s.restart w':=by
 have hup:=up_any A s w h
 cases hs:s.sv with
 | some v=>
  rw[hs] at hup
  have HE:Hid (s.restart=s):=by unfold Hid Wd.restart;rw[hs]
  have HF:Hid (WdIs w { A with a:=A.a } s.restart∧Fz A s w { A with a:=A.a } s.restart w):=by rw[HE.out];exact⟨h,Fz.refl _ _ _⟩
  clear h hB
  go_enter Tryz.func31,Tryz.ntmps31
  go_wp2_with fail
  refine hup.mono ?_
  rintro e w2 ⟨rfl,rfl⟩
  go_wp2_with fail
  go_ret
  exact⟨rfl,_,HF.out⟩
 | none=>
  rw[hs] at hup
  have HE:Hid (s.restart=({ s with step:=s.step+1 }:Wd).start):=by unfold Hid Wd.restart;rw[hs]
  have stp:=h.core.stp
  have fst:=h.core.free 12411
  have hwr:IntKind.i64.wrap (s.step+1)=s.step+1:=wrapI (by have:=hB.s0;omega) (by have:=hB.s1;omega)
  obtain⟨x1,x2⟩:=h.setStep (s.step+1)
  have hla1:Laid (w.setCell ⟨A.Q,12411,none⟩ (.int .i64 (s.step+1))):=by
   have h0:=hlaid
   unfold Bare.Laid at h0 ⊢
   rw[World.cell?_setCell_other _ _ _ _ (by intro q;injection q with q _;omega)]
   exact h0
  have hst:=startA_any A { s with step:=s.step+1 } (C+1) _ x1 hs hB.stepped hla1 hQ0 hr
  clear h hB
  go_enter Tryz.func31,Tryz.ntmps31
  go_wp2_with fail
  refine hup.mono ?_
  rintro e w2 ⟨rfl,rfl⟩
  go_wp2_with fail
  refine hst.mono ?_
  rintro e w3 ⟨rfl,a,q1,q2⟩
  have HF:Hid (WdIs w3 { A with a:=a } s.restart∧Fz A s w2 { A with a:=a } s.restart w3):=by rw[HE.out];exact⟨q1,x2.trans q2⟩
  clear x1 x2 q1 q2 hst hup
  go_wp2_with fail
  go_ret
  exact⟨rfl,_,HF.out⟩
end Wld
end
section
namespace Wld
open Go.RowKit Go.Maps
open Wal (R)
open Num (M okB)
structure Rs(s:Sv):Prop where
 rs:∀ r∈s.rs,0≤r.c∧r.o<8
 ws:∀ o m,m∈s.waits o→0≤m.c
theorem Rs.add{s:Sv}(h:Rs s){r:R}(hr:0≤r.c∧r.o<8):Rs (s.add r).1:=by
 unfold Sv.add
 split
 ·exact h
 ·split
  ·exact h
  ·split
   ·exact⟨h.rs,h.ws⟩
   ·refine⟨fun x hx=>?_,h.ws⟩
    rcases List.mem_append.1 hx with q|q
    ·exact h.rs x q
    ·rw[List.mem_singleton.1 q];exact hr
theorem Rs.applied{s:Sv}(h:Rs s)(r:R):Rs (s.applied r):=by
 refine⟨?_,?_⟩
 ·rw[applied_rs];exact h.rs
 ·rw[(applied_terms s r).2.2.2.2.2.2.1];exact h.ws
theorem Rs.commit{s:Sv}(h:Rs s){m:M}{o:Nat}(hc:0≤m.c)(ho:o<8):Rs (s.commit m o).1:=by
 have ha:Rs (s.add (s.recd m o)).1:=h.add ⟨hc,by show (o:Int)<8;omega⟩
 unfold Sv.commit
 split
 ·exact Rs.applied ha (s.recd m o)
 ·exact ha
theorem Rs.s1{T:Int}{s s':Sv}{L L':List M}(h:Rs s)(k:S1 T s L s' L'):Rs s':=by
 cases k with
 | flush c hc hv=>exact⟨h.rs,h.ws⟩
 | commit o m rest ho hd hw hr hh ok=>
  have hc:=h.commit (m:=m) (o:=o) (h.ws o m (by rw[hw];exact List.mem_cons_self)) ho
  refine⟨hc.rs,fun o' m' hm=>?_⟩
  have hm':m'∈updN (s.commit m o).1.waits o rest o':=hm
  unfold updN at hm'
  split at hm'
  ·exact h.ws o m' (by rw[hw];exact List.mem_cons_of_mem _ hm')
  ·exact hc.ws o' m' hm'
 | fall o m rest ho hd hw ok=>exact h.commit (h.ws o m (by rw[hw];exact List.mem_cons_self)) ho
 | enq o m ho hd hm hk h0 hc hl hs h10=>
  refine⟨h.rs,fun o' m' hm'=>?_⟩
  have hm'':m'∈updN s.waits o (s.waits o++[m]) o':=hm'
  unfold updN at hm''
  split at hm''
  ·rcases List.mem_append.1 hm'' with q|q
   ·exact h.ws o m' q
   ·rw[List.mem_singleton.1 q];exact hc
  ·exact h.ws o' m' hm''
 | value o m ho hd hm hk h0 hc=>
  unfold Sv.lent
  split<;>exact⟨h.rs,h.ws⟩
 | grant m hd hm hk hc he hs=>exact⟨h.rs,h.ws⟩
 | flushM m hd hm hk hc he=>exact h
 | inval c o hc ho hd hw=>exact h
 | drop o m ho hd hm hk h0 hc he hv=>exact⟨h.rs,h.ws⟩
 | redone m hd hm hk h0 h8 hc h1 h2=>exact h
theorem Rs.ss{T:Int}{s s':Sv}{L L':List M}(h:Rs s)(k:Ss T s L s' L'):Rs s':=by
 induction k with
 | refl=>exact h
 | head a _ ih=>exact ih (h.s1 a)
theorem Rs.new{to' tv td now:Int}{rs:List R}{f:Bool}{l:Int}(h:∀ r∈rs,0≤r.c∧r.o<8):Rs (Sv.new to' tv td rs f l now):=by
 obtain⟨a1,a2,a3,a4,a5,a6,a7,a8,a9,a10,a11,a12,a13,a14⟩:=applied_all rs (Sv.zero to' tv td rs f l)
 have ho:Rs (Sv.opened to' tv td rs f l):=by
  refine⟨?_,?_⟩
  ·show ∀ r∈(rs.foldl Sv.applied (Sv.zero to' tv td rs f l)).rs,_
   rw[a14];exact h
  ·show ∀ o m,m∈(rs.foldl Sv.applied (Sv.zero to' tv td rs f l)).waits o→_
   rw[a7];simp[Sv.zero]
 have hr:Rs ((Sv.opened to' tv td rs f l).readied now):=⟨ho.rs,ho.ws⟩
 exact hr.add ⟨by show (0:Int)≤0;omega,by show (-1:Int)<8;omega⟩
structure Rk(w:Wd):Prop where
 rs:∀ r∈w.rs,0≤r.c∧r.o<8
 sv:∀ v,w.sv=some v→Rs v
theorem Rk.same{w w':Wd}(h:Rk w)(e1:w'.rs=w.rs)(e2:w'.sv=w.sv):Rk w':=⟨by rw[e1];exact h.rs,by rw[e2];exact h.sv⟩
theorem put_rs(w:Wd)(t:Int)(m:M):(w.put t m).rs=w.rs∧(w.put t m).sv=w.sv:=by
 unfold Wd.put
 split<;>exact⟨rfl,rfl⟩
theorem send_rs(t:Int):∀ (l:List M) (w:Wd),(w.send t l).rs=w.rs∧(w.send t l).sv=w.sv
 | [],_=>⟨rfl,rfl⟩
 | m :: l,w=>by
  obtain⟨h1,h2⟩:=send_rs t l (w.put t m)
  obtain⟨k1,k2⟩:=put_rs w t m
  exact⟨h1.trans k1,h2.trans k2⟩
theorem tells_rs:∀ (l:List M) (w:Wd),(w.tells l).rs=w.rs∧(w.tells l).sv=w.sv
 | [],_=>⟨rfl,rfl⟩
 | m :: l,w=>by
  obtain⟨h1,h2⟩:=tells_rs l (w.put (seatN m.c:Nat) m)
  obtain⟨k1,k2⟩:=put_rs w (seatN m.c:Nat) m
  exact⟨h1.trans k1,h2.trans k2⟩
theorem note_rs(w:Wd)(k:Nat):(w.note k).rs=w.rs∧(w.note k).sv=w.sv:=by
 unfold Wd.note
 split<;>exact⟨rfl,rfl⟩
theorem Rk.served{w:Wd}{s:Sv}(h:Rs s):Rk (w.served s):=⟨h.rs,fun v hv=>by
 have hv':some s=some v:=hv
 injection hv' with hv'
 subst hv'
 exact h⟩
theorem Rk.fallen{w:Wd}(h:Rk w):Rk w.fallen:=by
 unfold Wd.fallen
 split
 ·exact h
 ·split
  ·exact⟨h.rs,fun v hv=>by cases hv⟩
  ·exact h
theorem Rk.answer{w:Wd}{r:Sv×List M}(h:Rs r.1):Rk (w.answer r):=
 ((Rk.served (w:=w) h).same (tells_rs r.2 _).1 (tells_rs r.2 _).2).fallen
theorem Rk.send{w:Wd}(h:Rk w)(t:Int)(l:List M):Rk (w.send t l):=h.same (send_rs t l w).1 (send_rs t l w).2
theorem Rk.note{w:Wd}(h:Rk w)(k:Nat):Rk (w.note k):=h.same (note_rs w k).1 (note_rs w k).2
theorem Rk.setK{w:Wd}(h:Rk w)(k:Nat)(c:K):Rk (w.setK k c):=⟨h.rs,h.sv⟩
theorem Rk.told{w:Wd}(h:Rk w)(t:Int)(m:M):Rk (w.told t m):=by
 unfold Wd.told
 split
 ·unfold Wd.toldServer
  split
  ·exact h
  ·rename_i s hs
   exact Rk.answer ((h.sv s hs).ss (hear_ss w.clock s [m] m (List.mem_singleton.2 rfl)))
 ·split
  ·exact((h.setK _ _).send _ _).note _
  ·exact h
theorem Rk.deliver{w:Wd}(h:Rk w)(k:Nat):Rk (w.deliver k):=by
 unfold Wd.deliver
 split
 ·exact h
 ·exact Rk.told (w:={ w with net:=w.net.eraseIdx k,step:=w.step+1 }) ⟨h.rs,h.sv⟩ _ _
theorem Rk.lose{w:Wd}(h:Rk w)(k:Nat):Rk (w.lose k):=⟨h.rs,h.sv⟩
theorem Rk.twice{w:Wd}(h:Rk w)(k:Nat):Rk (w.twice k):=by
 unfold Wd.twice
 split
 ·exact h
 ·split
  ·exact⟨h.rs,h.sv⟩
  ·exact h
theorem Rk.ask{w:Wd}(h:Rk w)(k:Nat):Rk (w.ask k):=(h.setK _ _).send _ _
theorem Rk.again{w:Wd}(h:Rk w)(k:Nat):Rk (w.again k):=Rk.ask (w:={ w with step:=w.step+1 }) ⟨h.rs,h.sv⟩ k
theorem Rk.begin{w:Wd}(h:Rk w)(k:Nat)(c:K):Rk (w.begin k c):=by
 have h1:Rk ((w.opens k c).note k):=Rk.note (w:=w.opens k c) ⟨h.rs,h.sv⟩ k
 unfold Wd.begin Wd.asked
 split
 ·exact h1
 ·exact h1.ask k
theorem Rk.ticked{w:Wd}(h:Rk w):Rk w.ticked:=by
 unfold Wd.ticked
 split
 ·exact h
 ·rename_i s hs
  exact Rk.answer ((h.sv s hs).ss (tick_ss w.clock s [] 8 (by omega)))
theorem Rk.goes{w:Wd}(h:Rk w)(b:Int)(f:Nat→Int):Rk (w.goes b f):=Rk.ticked (w:=w.gone b f) ⟨h.rs,h.sv⟩
theorem Rk.failing{w:Wd}(h:Rk w)(x t:Int):Rk (w.failing x t):=by
 unfold Wd.failing
 split
 ·rename_i hs
  exact⟨h.rs,fun v hv=>h.sv v hv⟩
 ·rename_i s hs
  exact Rk.served ⟨(h.sv s hs).rs,(h.sv s hs).ws⟩
theorem Rk.crash{w:Wd}(h:Rk w):Rk w.crash:=⟨h.rs,fun v hv=>by cases hv⟩
theorem Rk.start{w:Wd}(h:Rk w):Rk w.start:=Rk.served (Rs.new h.rs)
theorem Rk.restart{w:Wd}(h:Rk w):Rk w.restart:=by
 unfold Wd.restart
 split
 ·exact h
 ·exact Rk.start (w:={ w with step:=w.step+1 }) ⟨h.rs,h.sv⟩
theorem Rk.reborn{w:Wd}(h:Rk w)(k:Nat):Rk (w.reborn k):=⟨h.rs,h.sv⟩
theorem Rk.drain:∀ (f:Nat) {w:Wd},Rk w→Rk (w.drain f)
 | 0,_,h=>h
 | f+1,w,h=>by
  unfold Wd.drain
  split
  ·exact h
  ·exact Rk.drain f (h.deliver 0)
theorem Rk.drained{w:Wd}(h:Rk w):Rk w.drained:=Rk.drain _ h
theorem Rk.calmK{w:Wd}(h:Rk w):∀ k,Rk (w.calmK k)
 | 0=>h
 | k+1=>((Rk.calmK h k).again k).drained
theorem Rk.calm1{w:Wd}(h:Rk w):Rk w.calm1:=((h.restart.calmK _).goes _ _).drained
theorem Rk.calm{w:Wd}(h:Rk w):∀ r,Rk (w.calm r)
 | 0=>h
 | r+1=>(Rk.calm h r).calm1
end Wld
end
section
namespace Wld
open Go.RowKit Go.Maps
open Lease (HasI)
open Cache (tp)
open Bare (Laid)
theorem Fz.laid{w w':World}{A A':Wa}{s s':Wd}(hf:Fz A s w A' s' w')(h:Low 1 w A s)(hQ:A.Q<w.heap.size)(hl:Laid w):Laid w':=Bare.Laid.below hl (Fz.below hf h hQ) (by omega)
theorem Low.q{w:World}{A:Wa}{s:Wd}(h:Low 1 w A s):0<A.Q:=h A.Q (.Q rfl)
theorem WdB.calmedA{s:Wd}{C:Nat}(h:WdB s C)(n4:s.n≤4):WdB s.calm1 (C+18000):=by
 have h1:=h.restartA.calmK s.n (by rw[restart_n];exact Nat.le_refl _)
 have h2:=h1.goes (b:=1) (f:=fun k=>if k<s.n then 1 else 0) (by omega) (fun i _=>by split<;>omega)
 exact h2.drained.mono (by omega)
theorem WdB.calmA{s:Wd}{C:Nat}(h:WdB s C)(n4:s.n≤4):∀ r,WdB (s.calm r) (C+18000*r)
 | 0=>h
 | r+1=>((WdB.calmA h n4 r).calmedA (by rw[calm_n];exact n4)).mono (by omega)
theorem calmA_any(A:Wa)(s:Wd)(C rounds:Nat)(w:World)(h:WdIs w A s)(hB:WdB s C)(hC:C+18000*rounds≤800000000)(hRk:Rk s)(hlaid:Laid w)(hlow:Low 1 w A s) :
  Calls Tryz.prog 12 #[tp A.Q,.int .i64 rounds] w fun e w'=>e = .returned (.tuple #[])∧∃ a,WdIs w' { A with a:=a } (s.calm rounds)∧Fz A s w { A with a:=a } (s.calm rounds) w':=by
 have n4:=h.n4
 have hQl:=h.lt
 have hQ0:=hlow.q
 have HRK:Hid (∀ r,Rk (s.calm r)):=fun r=>hRk.calm r
 have HLD:Hid (∀ {A':Wa} {s':Wd} {w':World},Fz A s w A' s' w'→Laid w'):=fun hf=>Fz.laid hf hlow hQl hlaid
 clear hRk hlaid hlow
 have n1:=h.n1
 have hb1:Below w.heap.size w (w.alloc (.cells #[.int .i64 1] 3)):=(Below.refl _ _).alloc (Nat.le_refl _) _
 have hc1:(w.alloc (.cells #[.int .i64 1] 3)).cell? ⟨w.heap.size,0,none⟩=some (.int .i64 1):=by simp
 have hg1:w.heap.size<(w.alloc (.cells #[.int .i64 1] 3)).heap.size:=by simp
 have hre:=repeat_any w.heap.size (s.n+1) (by omega) _ hc1 hg1
 have hcast:((s.n+1:Nat):Int)=1+(s.n:Int):=by omega
 rw[hcast] at hre
 have hw1:IntKind.i64.wrap (1+(s.n:Int))=1+(s.n:Int):=wrapI (by omega) (by omega)
 obtain⟨x1,x2⟩:=h.below hb1
 have sts:=x1.core.sts
 have sts0:=h.core.sts
 have HB:Hid (∀ r,r≤rounds→WdB (s.calm r) (C+18000*r)):=fun r _=>hB.calmA n4 r
 have HX:Hid (WdIs (w.alloc (.cells #[.int .i64 1] 3)) A s∧Fz A s w A s (w.alloc (.cells #[.int .i64 1] 3))):=⟨x1,x2⟩
 clear x1 x2 hc1 hg1 hb1 hB h hcast
 go_enter Tryz.func12,Tryz.ntmps12
 go_wp2_with fail
 refine hre.mono ?_
 rintro e w2 ⟨v,rfl,hrow,hb2⟩
 have HS0:Hid (Ca w w2 A s s (w.alloc (.cells #[.int .i64 1] 3)).heap.size v A.a):=by
  obtain⟨x1,x2⟩:=HX.out
  obtain⟨y1,y2⟩:=x1.below hb2
  exact⟨y1,x2.trans y2,hrow⟩
 generalize (w.alloc (.cells #[.int .i64 1] 3)).heap.size=B at *
 clear hre hrow hb2 HX sts sts0
 go_wp2_with fail
 go_loopw [15] (fun i wr=>∃ (r:Nat) (a:Ad),r≤rounds∧i = .int .i64 r∧Ca w wr A s (s.calm r) B v a) (fun i _=>rounds-(intOf i).toNat)
 case atStart=>exact⟨0,A.a,by omega,rfl,HS0.out⟩
 case round=>
  obtain⟨r,a,hr,rfl,D⟩:=hrel
  by_cases hlt:r<rounds
  ·have hrI:(r:Int)<(rounds:Int):=by omega
   have HE:Hid (s.calm (r+1)=(((s.calm r).restart.calmK s.n).goes 1 fun k=>if k<s.n then 1 else 0).drained):=by
    unfold Hid
    show (s.calm r).calm1=_
    unfold Wd.calm1
    rw[calm_n]
   have hBr:=HB.out r (by omega)
   have hRr:=HRK.out r
   have hnr:=calm_n s r
   generalize s.calm r=t at *
   have hre:=restartA_any { A with a:=a } t _ wr D.wd hBr (by omega) (HLD.out D.fz) hQ0 hRr.rs
   have HBK:Hid (∀ k,k≤s.n→WdB (t.restart.calmK k) (C+18000*r+1+3562*k)):=fun k hk=>hBr.restartA.calmK k (by rw[restart_n,hnr];exact hk)
   have HNK:Hid (∀ k,(t.restart.calmK k).n=s.n):=fun k=>by rw[calmK_n,restart_n,hnr]
   have HD:Hid (Ca w wr A s t B v a):=D
   clear D hBr hRr hnr
   go_wp2_with fail
   refine hre.mono ?_
   rintro e w3 ⟨he,a3,W3,Z3⟩
   generalize eV (if t.sv.isSome=true then 6 else 0)=ev at he
   subst he
   have HD3:Hid (Ca w w3 A s (t.restart.calmK 0) B v a3):=HD.out.next W3 Z3
   have sts:=W3.core.sts
   rw[show t.restart.n=s.n from HNK.out 0] at sts
   clear hre W3 Z3 HD
   go_wp2_with fail
   go_loopw [24] (fun i wr=>∃ k:Nat,k≤s.n∧i = .int .i64 k∧Ca w wr A s (t.restart.calmK k) B v a3) (fun i _=>s.n-(intOf i).toNat)
   case atStart=>exact⟨0,by omega,rfl,HD3.out⟩
   case round=>
    obtain⟨k,hk,rfl,D⟩:=hrel
    by_cases hkn:k<s.n
    ·have hkI:(k:Int)<(s.n:Int):=by omega
     have hBk:=HBK.out k (by omega)
     have hnk:=HNK.out k
     have HEK:Hid (t.restart.calmK (k+1)=((t.restart.calmK k).again k).drained):=rfl
     generalize t.restart.calmK k=u at *
     have hag:=againW_any { A with a:=a3 } u k _ _ D.wd (by omega) hBk (by omega)
     have hBa:=hBk.again (i:=k) (by omega)
     clear hBk hnk
     have HD:Hid (Ca w wr A s u B v a3):=D
     clear D HD3
     go_wp2_with fail
     refine hag.mono ?_
     rintro e w4 ⟨rfl,W4,Z4⟩
     have HD4:Hid (Ca w w4 A s (u.again k) B v a3):=HD.out.next W4 Z4
     have hda:=deliverAll_any { A with a:=a3 } (u.again k) _ w4 W4 hBa (by omega)
     clear hag W4 Z4 HD
     go_wp2_with fail
     refine hda.mono ?_
     rintro e w5 ⟨rfl,W5,Z5⟩
     have HD5:Hid (Ca w w5 A s (u.again k).drained B v a3):=HD4.out.next W5 Z5
     clear hda W5 Z5 HD4 hBa
     go_wp2_with fail
     go_roundw
     case rel=>
      refine⟨k+1,by omega,by go_num,?_⟩
      rw[HEK.out]
      exact HD5.out
     case measure=>simp[intOf];omega
    ·obtain rfl:k=s.n:=by omega
     have hBk:=HBK.out s.n (by omega)
     have hnk:=HNK.out s.n
     generalize t.restart.calmK s.n=u at *
     have hgo:=goesW_any { A with a:=a3 } u _ B v (List.replicate (s.n+1) 1) _ D.wd hBk (by omega) D.row (by rw[List.length_replicate];omega) (fun x hx=>by rw[(List.mem_replicate.1 hx).2];omega) 1 (by simp) (fun k=>if k<s.n then 1 else 0) (fun k=>by
      rw[List.getD_eq_getElem?_getD,List.getElem?_replicate]
      by_cases q:k<s.n
      ·rw[if_pos (by omega),if_pos q];rfl
      ·rw[if_neg (by omega),if_neg q];rfl)
     have hBa:=hBk.goes (b:=1) (f:=fun k=>if k<s.n then 1 else 0) (by omega) (fun i _=>by split<;>omega)
     have HD:Hid (Ca w wr A s u B v a3):=D
     clear D HD3 hBk hnk
     generalize (u.goes 1 fun k=>if k<s.n then 1 else 0)=u2 at *
     go_wp2_with fail
     refine hgo.mono ?_
     rintro e w4 ⟨rfl,W4,Z4⟩
     have HD4:Hid (Ca w w4 A s u2 B v a3):=HD.out.next W4 Z4
     have hda:=deliverAll_any { A with a:=a3 } u2 _ w4 W4 hBa (by omega)
     clear hgo W4 Z4 HD
     go_wp2_with fail
     refine hda.mono ?_
     rintro e w5 ⟨rfl,W5,Z5⟩
     have HD5:Hid (Ca w w5 A s u2.drained B v a3):=HD4.out.next W5 Z5
     clear hda W5 Z5 HD4 hBa
     go_wp2_with fail
     go_roundw
     case rel=>
      refine⟨r+1,a3,by omega,by go_num,?_⟩
      rw[HE.out]
      exact HD5.out
     case measure=>simp[intOf];omega
  ·obtain rfl:r=rounds:=by omega
   have HD:Hid (Ca w wr A s (s.calm r) B v a):=D
   clear D HS0
   go_wp2_with fail
   go_end0
   exact⟨rfl,a,HD.out.wd,HD.out.fz⟩
end Wld
end
section
namespace Wld
open Go.RowKit Go.Maps
open Lease (Ob I64 upd TabIs hol dels objB HasI map_block map_ne mx)
open Cache (tp row_kept row_below)
open Net (hasB)
theorem deliver_nix(A:Wa)(s:Wd)(k:Int)(w:World)(h:WdIs w A s)(hk:hasB k s.net.length=false) :
  Calls Tryz.prog 26 #[tp A.Q,.int .i64 k] w fun e w'=>e = .returned (.iface 59 (.int .i64 2))∧Below w.heap.size w w':=by
 have htk:=Net.take_no (A.Q+1) A.Q (s.net.map encN) k w h.net (by rw[List.length_map];exact hk)
 clear h
 go_enter Tryz.func26,Tryz.ntmps26
 go_wp2_with fail
 refine htk.mono ?_
 rintro e w2 ⟨rfl,hb⟩
 have hb2:∀ o,Below w.heap.size w (w2.alloc o):=fun o=>hb.alloc hb.size o
 clear htk
 go_wp2_with fail
 go_ret
 exact⟨rfl,hb2 _⟩
theorem lose_nix(A:Wa)(s:Wd)(k:Int)(w:World)(h:WdIs w A s)(hk:hasB k s.net.length=false) :
  Calls Tryz.prog 27 #[tp A.Q,.int .i64 k] w fun e w'=>e = .returned (.iface 59 (.int .i64 2))∧Below w.heap.size w w':=by
 have htk:=Net.take_no (A.Q+1) A.Q (s.net.map encN) k w h.net (by rw[List.length_map];exact hk)
 clear h
 go_enter Tryz.func27,Tryz.ntmps27
 go_wp2_with fail
 refine htk.mono ?_
 rintro e w2 ⟨rfl,hb⟩
 have hb2:∀ o,Below w.heap.size w (w2.alloc o):=fun o=>hb.alloc hb.size o
 clear htk
 go_wp2_with fail
 go_ret
 exact⟨rfl,hb2 _⟩
theorem twice_nix(A:Wa)(s:Wd)(k:Int)(w:World)(h:WdIs w A s)(hk:hasB k s.net.length=false) :
  Calls Tryz.prog 28 #[tp A.Q,.int .i64 k] w fun e w'=>e = .returned (.iface 59 (.int .i64 2))∧w'=w:=by
 have htk:=Net.twice_no (A.Q+1) A.Q (s.net.map encN) k w h.net (by rw[List.length_map];exact hk)
 clear h
 go_enter Tryz.func28,Tryz.ntmps28
 go_wp2_with fail
 refine htk.mono ?_
 rintro e w2 ⟨rfl,rfl⟩
 clear htk
 go_wp2_with fail
 go_ret
 exact⟨rfl,rfl⟩
theorem begin_nix(A:Wa)(s:Wd)(k:Int)(f:Value)(w:World)(h:WdIs w A s)(hk:s.has k=false) :
  Calls Tryz.prog 40 #[tp A.Q,.int .i64 k,f] w fun e w'=>e = .returned (.iface 59 (.int .i64 2))∧w'=w:=by
 have hh:=hasW_any A s k w h
 rw[hk] at hh
 clear h hk
 go_enter Tryz.func40,Tryz.ntmps40
 go_wp2_with fail
 refine hh.mono ?_
 rintro e w2 ⟨rfl,rfl⟩
 go_wp2_with fail
 go_ret
 exact⟨rfl,rfl⟩
theorem read_nix(A:Wa)(s:Wd)(k o:Int)(w:World)(h:WdIs w A s)(hk:s.has k=false) :
  Calls Tryz.prog 16 #[tp A.Q,.int .i64 k,.int .i64 o] w fun e w'=>e = .returned (.iface 59 (.int .i64 2))∧Below w.heap.size w w':=by
 have hb:Below w.heap.size w (w.alloc (.cells #[.int .i64 o] 3)):=(Below.refl _ _).alloc (Nat.le_refl _) _
 obtain⟨x1,_⟩:=h.below hb
 have hbe:=fun f=>begin_nix A s k f _ x1 hk
 clear h x1
 go_enter Tryz.func16,Tryz.ntmps16
 go_wp2_with fail
 refine(hbe _).mono ?_
 rintro e w3 ⟨rfl,rfl⟩
 clear hbe
 go_wp2_with fail
 go_ret
 exact⟨rfl,hb⟩
theorem write_nix(A:Wa)(s:Wd)(k o:Int)(d:ByteArray)(w:World)(h:WdIs w A s)(hk:s.has k=false) :
  Calls Tryz.prog 23 #[tp A.Q,.int .i64 k,.int .i64 o,.string d] w fun e w'=>e = .returned (.iface 59 (.int .i64 2))∧Below w.heap.size w w':=by
 have hb:Below w.heap.size w ((w.alloc (.cells #[.int .i64 o] 3)).alloc (.cells #[.string d] 9)):=((Below.refl _ _).alloc (Nat.le_refl _) _).alloc (by simp) _
 obtain⟨x1,_⟩:=h.below hb
 have hbe:=fun f=>begin_nix A s k f _ x1 hk
 clear h x1
 go_enter Tryz.func23,Tryz.ntmps23
 go_wp2_with fail
 refine(hbe _).mono ?_
 rintro e w3 ⟨rfl,rfl⟩
 clear hbe
 go_wp2_with fail
 go_ret
 exact⟨rfl,hb⟩
theorem reborn_nix(A:Wa)(s:Wd)(k:Int)(w:World)(h:WdIs w A s)(hk:s.has k=false) :
  Calls Tryz.prog 32 #[tp A.Q,.int .i64 k] w fun e w'=>e = .returned (.iface 59 (.int .i64 2))∧w'=w:=by
 have hh:=hasW_any A s k w h
 rw[hk] at hh
 clear h hk
 go_enter Tryz.func32,Tryz.ntmps32
 go_wp2_with fail
 refine hh.mono ?_
 rintro e w2 ⟨rfl,rfl⟩
 go_wp2_with fail
 go_ret
 exact⟨rfl,rfl⟩
def badG(n:Int):Bool:=decide (n<0)||decide (137438953472<n)
theorem goesP_is(n:Int)(w:World):Calls Tryz.prog 70 #[.int .i64 n] w fun e w'=>e = .returned (.bool (badG n))∧w'=w:=by
 unfold badG
 by_cases h0:n<0
 ·have g0:decide (n<0)=true:=decide_eq_true h0
  go_enter Tryz.func70,Tryz.ntmps70
  go_wp2
  all_goals go_ret
  all_goals exact⟨by simp[h0],rfl⟩
 ·have g0:decide (n<0)=false:=decide_eq_false h0
  go_enter Tryz.func70,Tryz.ntmps70
  go_wp2
  all_goals go_ret
  all_goals exact⟨by simp,rfl⟩
theorem indexG_is(B:Nat)(v:Value)(l:List Int)(w:World)(h:HasI w B v l)(hl:l.length≤1000000) :
  Calls Tryz.prog 136 #[v,.func (.func 70) #[] #[]] w fun e w'=>(∃ i:Int,e = .returned (.int .i64 i)∧(decide (0≤i)=l.any badG))∧w'=w:=by
 obtain⟨ao,c,rfl,hv⟩:=h.shape
 clear h
 go_enter Tryz.func136,Tryz.ntmps136
 go_wp2
 go_loopw [8] (fun i wr=>∃ k:Nat,k≤l.length∧i = .int .i64 k∧wr=w∧∀ x∈l.take k,badG x=false) (fun i _=>l.length-(intOf i).toNat)
 case atStart=>exact⟨0,by omega,rfl,rfl,by simp⟩
 case round=>
  obtain⟨k,hk,rfl,rfl,hall⟩:=hrel
  have HA:Hid (∀ x∈l.take k,badG x=false):=hall
  clear hall
  by_cases hlt:k<l.length
  ·obtain⟨g,rfl,hcell⟩:=hv (by omega)
   have hltz:(k:Int)<(l.length:Int):=by omega
   have hc:=hcell k hlt
   have hcall:=fun w=>goesP_is l[k] w
   obtain⟨y,hy⟩:∃ y,l[k]=y:=⟨_,rfl⟩
   have HY:Hid (l[k]=y):=hy
   rw[hy] at hc hcall
   clear hcell hv hy
   by_cases hby:badG y=true
   ·rw[hby] at hcall
    have HR:Hid (decide ((0:Int)≤(k:Int))=l.any badG):=by
     unfold Hid
     rw[decide_eq_true (by omega)]
     exact(List.any_eq_true.2 ⟨l[k],List.getElem_mem hlt,by rw[HY.out];exact hby⟩).symm
    clear hby
    go_wp2_with fail
    refine(hcall _).mono ?_
    rintro e w' ⟨rfl,hw'⟩
    rw[hw']
    clear hcall hc hw'
    go_wp2_with fail
    go_ret
    exact⟨⟨_,rfl,HR.out⟩,rfl⟩
   ·have hbf:badG y=false:=by simpa using hby
    rw[hbf] at hcall
    have HN:Hid (∀ x∈l.take (k+1),badG x=false):=by
     intro x hx
     rw[List.take_succ_eq_append_getElem hlt] at hx
     rcases List.mem_append.1 hx with q|q
     ·exact HA.out x q
     ·rw[List.mem_singleton.1 q,HY.out];exact hbf
    clear hby hbf
    go_wp2_with fail
    refine(hcall _).mono ?_
    rintro e w' ⟨rfl,hw'⟩
    rw[hw']
    clear hcall hc hw'
    go_wp2_with fail
    go_roundw
    case rel=>exact⟨k+1,by omega,by go_num,by first|trivial|rfl,HN.out⟩
    case measure=>simp[intOf];omega
  ·obtain rfl:k=l.length:=by omega
   have hltz:¬ (l.length:Int)<(l.length:Int):=by omega
   have HR:Hid (decide ((0:Int)≤-1)=l.any badG):=by
    unfold Hid
    have h1:l.any badG=false:=by
     rw[List.any_eq_false]
     intro x hx
     rw[HA.out x (by rw[List.take_length];exact hx)]
     decide
    rw[h1]
    rfl
   clear hv
   go_wp2
   go_ret
   exact⟨⟨_,rfl,HR.out⟩,rfl⟩
theorem containsG_is(B:Nat)(v:Value)(l:List Int)(w:World)(h:HasI w B v l)(hl:l.length≤1000000) :
  Calls Tryz.prog 69 #[v,.func (.func 70) #[] #[]] w fun e w'=>e = .returned (.bool (l.any badG))∧w'=w:=by
 have hi:=indexG_is B v l w h hl
 clear h
 go_enter Tryz.func69,Tryz.ntmps69
 go_wp2_with fail
 refine hi.mono ?_
 rintro e w' ⟨⟨i,rfl,hr⟩,rfl⟩
 have HR:Hid (decide (0≤i)=l.any badG):=hr
 clear hi hr
 go_wp2_with fail
 go_ret
 exact⟨by rw[← HR.out];rfl,rfl⟩
theorem goes_nix(A:Wa)(s:Wd)(B:Nat)(v:Value)(l:List Int)(w:World)(h:WdIs w A s)(hl:HasI w B v l)(hz:l.length≤1000000)(hbad:l.length≠1+s.n∨l.any badG=true) :
  Calls Tryz.prog 37 #[tp A.Q,v] w fun e w'=>e = .returned (.iface 59 (.int .i64 2))∧w'=w:=by
 have n4:=h.n4
 have sts:=h.core.sts
 have hco:=containsG_is B v l w hl hz
 obtain⟨ao,cc,hao,_⟩:=hl.shape
 subst hao
 have hw1:IntKind.i64.wrap (1+(s.n:Int))=1+(s.n:Int):=wrapI (by omega) (by omega)
 clear h
 by_cases hn:l.length=1+s.n
 ·have hany:l.any badG=true:=hbad.resolve_left (fun q=>q hn)
  rw[hany] at hco
  have hne:((l.length:Int) != 1+(s.n:Int))=false:=by rw[hn];simp
  clear hbad hany hn
  go_enter Tryz.func37,Tryz.ntmps37
  go_wp2_with fail
  refine hco.mono ?_
  rintro e w2 ⟨rfl,hw2⟩
  rw[hw2]
  clear hw2 hco
  go_wp2_with fail
  go_ret
  exact⟨rfl,rfl⟩
 ·have hne:((l.length:Int) != 1+(s.n:Int))=true:=by simp;omega
  clear hbad hn hco
  go_enter Tryz.func37,Tryz.ntmps37
  go_wp2_with fail
  go_ret
  exact⟨rfl,rfl⟩
end Wld
end
end Go.Proofs.YtbebfliimjjohabGreatDoor
