/- Parts of the proof. -/
import Derived.Test.YtbebfliimjjohabGreatDoorLd25
import Derived.Maps.RangeWalk
import Derived.Test.YtbebfliimjjohabGreatDoorLd24
set_option maxRecDepth 100000
set_option maxHeartbeats 8000000
namespace Go.Proofs.YtbebfliimjjohabGreatDoor
section
namespace Wld
open Go.RowKit Go.Maps
open Lease (Ob I64 upd TabIs hol dels objB HasI map_block map_ne)
open Cache (tp row_kept row_below)
open Wal (R WalIs DiskIs Oq Fw rcells)
open Num (M okB strOf)
open Net (NetIs Only pcells)
theorem ask_any(A:Wa)(s:Wd)(k C:Nat)(w:World)(h:WdIs w A s)(hk:k<s.n)(hB:WdB s C)(hC:C≤100000000000) :
  Calls Tryz.prog 62 #[tp A.Q,.int .i64 k] w fun e w'=>e = .returned (.tuple #[])∧WdIs w' A (s.ask k)∧Fz A s w A (s.ask k) w':=by
 have sts:=h.core.sts
 have c0:=(h.seats k hk).c0
 have c1:=(h.seats k hk).c1
 have n4:=h.n4
 have hk0:(0:Int)≤(k:Int):=by omega
 have hkn:(k:Int)<(s.n:Int):=by omega
 have hSB:=hB.st k hk
 have hag:=again_any (A.c k) (A.m k) (s.seat k).k (s.seat k).clock w.drew (h.cli k hk).drew hSB.k.ren0 (by have:=hSB.k.ren;omega) hSB.c0 (by have:=hSB.c1;omega)
 obtain⟨hKB,hLn⟩:=hSB.k.again hSB.c0 hSB.c1
 have hsm:=again_small hSB.k (s.seat k).clock
 have hW0:WdIs w.drew A s∧Fz A s w A s w.drew:=h.below (Below.refl _ _).drew
 clear hB hSB h
 go_enter Tryz.func62,Tryz.ntmps62
 go_upto_region 0 with fail
 refine Gen.start (S:=fun w'=>w'.cell? ⟨A.Q,12409,none⟩=some (.slice (some ⟨A.G,0,none⟩) s.n s.n)∧w'.cell? ⟨A.G,k*4,none⟩=some (tp (A.c k))∧w'.cell? ⟨A.G,k*4+1,none⟩=some (.int .i64 (s.seat k).clock)) (by kernel_rfl) ⟨sts,c0,c1⟩ (fun hHeld=>?_)
 refine Gen.tk 0 18 ?_ rfl rfl (Or.inl ⟨by rfl,?_⟩) hHeld ?_;rotate_left
 ·rintro w' ⟨s0,s1,s2⟩;go_simp;try with_reducible rfl
 go_frame
 refine Gen.tk 1 2 ?_ rfl rfl (Or.inl ⟨by rfl,?_⟩) hHeld ?_;rotate_left
 ·rintro w' ⟨s0,s1,s2⟩;go_simp;try with_reducible rfl
 go_frame
 refine Gen.tk 2 3 ?_ rfl rfl (Or.inl ⟨by rfl,?_⟩) hHeld ?_;rotate_left
 ·rintro w' ⟨s0,s1,s2⟩;go_simp;try with_reducible rfl
 go_frame
 refine Gen.tk 3 4 ?_ rfl rfl (Or.inl ⟨by rfl,?_⟩) hHeld ?_;rotate_left
 ·rintro w' ⟨s0,s1,s2⟩;go_simp;try with_reducible rfl
 go_frame
 refine Gen.tk 4 6 ?_ rfl rfl (Or.inl ⟨by rfl,?_⟩) hHeld ?_;rotate_left
 ·rintro w' ⟨s0,s1,s2⟩;go_simp;try with_reducible rfl
 go_frame
 refine Gen.tk 5 6 ?_ rfl rfl (Or.inl ⟨by rfl,?_⟩) hHeld ?_;rotate_left
 ·rintro w' ⟨s0,s1,s2⟩;go_simp;try with_reducible rfl
 go_frame
 refine Gen.tk 6 7 ?_ rfl rfl (Or.inl ⟨by rfl,?_⟩) hHeld ?_;rotate_left
 ·rintro w' ⟨s0,s1,s2⟩;go_simp;try with_reducible rfl
 go_frame
 refine Gen.tk 7 8 ?_ rfl rfl (Or.inl ⟨by rfl,?_⟩) hHeld ?_;rotate_left
 ·rintro w' ⟨s0,s1,s2⟩;go_simp;try with_reducible rfl
 go_frame
 refine Gen.tk 8 17 ?_ rfl rfl (Or.inl ⟨by rfl,?_⟩) hHeld ?_;rotate_left
 ·rintro w' ⟨s0,s1,s2⟩;go_simp;try with_reducible rfl
 go_frame
 refine Gen.tk 9 10 ?_ rfl rfl (Or.inl ⟨by rfl,?_⟩) hHeld ?_;rotate_left
 ·rintro w' ⟨s0,s1,s2⟩;go_simp;try with_reducible rfl
 go_frame
 refine Gen.tk 10 11 ?_ rfl rfl (Or.inl ⟨by rfl,?_⟩) hHeld ?_;rotate_left
 ·rintro w' ⟨s0,s1,s2⟩;go_simp;try with_reducible rfl
 go_frame
 refine Gen.tk 11 12 ?_ rfl rfl (Or.inl ⟨by rfl,?_⟩) hHeld ?_;rotate_left
 ·rintro w' ⟨s0,s1,s2⟩;go_simp;try with_reducible rfl
 go_frame
 refine Gen.tk 12 14 ?_ rfl rfl (Or.inl ⟨by rfl,?_⟩) hHeld ?_;rotate_left
 ·rintro w' ⟨s0,s1,s2⟩;go_simp;try with_reducible rfl
 go_frame
 refine Gen.tk 13 14 ?_ rfl rfl (Or.inl ⟨by rfl,?_⟩) hHeld ?_;rotate_left
 ·rintro w' ⟨s0,s1,s2⟩;go_simp;try with_reducible rfl
 go_frame
 refine Gen.tk 14 15 ?_ rfl rfl (Or.inl ⟨by rfl,?_⟩) hHeld ?_;rotate_left
 ·rintro w' ⟨s0,s1,s2⟩;go_simp;try with_reducible rfl
 go_frame
 refine Gen.tk 15 16 ?_ rfl rfl (Or.inl ⟨by rfl,?_⟩) hHeld ?_;rotate_left
 ·rintro w' ⟨s0,s1,s2⟩;go_simp;try with_reducible rfl
 go_frame
 refine Gen.tk 16 17 ?_ rfl rfl (Or.inl ⟨by rfl,?_⟩) hHeld ?_;rotate_left
 ·rintro w' ⟨s0,s1,s2⟩;go_simp;try with_reducible rfl
 go_frame
 refine Gen.one (i:=17) (by kernel_rfl) rfl rfl (fun K hK=>?_)
 go_simp
 refine hag.mono ?_
 rintro e w2 ⟨v2,rfl,hM2,hK2,hO2⟩
 obtain⟨x1,x2⟩:=hW0.1.client hk hK2 hO2
 have sts2:=x1.core.sts
 have d0:=(x1.seats k hk).c0
 have d1:=(x1.seats k hk).c1
 have hsi:(s.setK k ((s.seat k).k.again (s.seat k).clock)).seat k = { s.seat k with k:=(s.seat k).k.again (s.seat k).clock }:=updN_same _ _ _
 rw[hsi] at d1
 have hsd:=sendW_any A _ (-1) ((s.seat k).k.againL (s.seat k).clock) _ v2 w2 x1 hM2 (by omega) hsm
 dsimp only
 refine hK.out _ _ ⟨sts2,d0,d1⟩ (fun hHeld=>?_)
 clear hK K
 try go_frame
 refine Gen.last (i:=18) (by kernel_rfl) rfl rfl (by kernel_rfl) (by kernel_rfl) (fun K hK=>?_)
 go_simp
 refine hsd.mono ?_
 rintro e w3 ⟨rfl,y1,y2⟩
 have HF:Hid (WdIs w3 A (s.ask k)∧Fz A s w A (s.ask k) w3):=⟨y1,(hW0.2.trans x2).trans y2⟩
 dsimp only
 refine hK.out _ _ ?_
 clear hK K hHeld
 clear y1 y2 x1 x2 hsd hag hM2 hK2 hO2
 go_wp2_with fail
 go_end0
 exact⟨rfl,HF.out⟩
theorem againW_any(A:Wa)(s:Wd)(k C:Nat)(w:World)(h:WdIs w A s)(hk:k<s.n)(hB:WdB s C)(hC:C≤10000000000) :
  Calls Tryz.prog 25 #[tp A.Q,.int .i64 k] w fun e w'=>e = .returned .nilIface∧WdIs w' A (s.again k)∧Fz A s w A (s.again k) w':=by
 have hh:=hasW_any A s k w h
 have hhk:s.has k=true:=by
  unfold Wd.has
  exact decide_eq_true ⟨by omega,by omega⟩
 rw[hhk] at hh
 have stp:=h.core.stp
 have fst:=h.core.free 12411
 obtain⟨x1,x2⟩:=h.setStep (s.step+1)
 have hask:=ask_any A { s with step:=s.step+1 } k (C+1) _ x1 hk hB.stepped (by omega)
 have hwr:IntKind.i64.wrap (s.step+1)=s.step+1:=wrapI (by have:=hB.s0;omega) (by have:=hB.s1;omega)
 clear h hB hhk
 go_enter Tryz.func25,Tryz.ntmps25
 go_wp2_with fail
 refine hh.mono ?_
 rintro e w2 ⟨rfl,rfl⟩
 go_wp2_with fail
 refine hask.mono ?_
 rintro e w3 ⟨rfl,y1,y2⟩
 have HF:Hid (WdIs w3 A (s.again k)∧Fz A s w2 A (s.again k) w3):=⟨y1,x2.trans y2⟩
 clear y1 y2 x1 x2 hask hh
 go_wp2_with fail
 go_ret
 exact⟨rfl,HF.out⟩
end Wld
end
section
namespace Wld
open Go.RowKit Go.Maps
open Lease (upd hol dels mx kk objB I64)
open Wal (R mayB timeB)
open Num (M okB)
def Seated(l:List M):Prop:=∀ m∈l,0≤m.c
theorem Seated.nil:Seated []:=fun m hm=>by simp at hm
theorem Seated.one{m:M}(h:0≤m.c):Seated [m]:=fun x hx=>by rw[List.mem_singleton.1 hx];exact h
theorem Seated.app{a b:List M}(h:Seated a)(k:Seated b):Seated (a++b):=fun m hm=>(List.mem_append.1 hm).elim (h m) (k m)
theorem okW_c{o:Nat}{m:M}(h:okW o m):0≤m.c:=by
 have:=h.2.1
 simp[timeB,Num.inB] at this
 omega
theorem adv_seated(o:Nat)(now:Int):∀ (f:Nat) {s:Sv} {B:Nat},SvB s B→Seated (s.adv o now f).2
 | 0,s,B,_=>Seated.nil
 | f+1,s,B,h=>by
  unfold Sv.adv
  split
  ·exact Seated.nil
  ·obtain⟨h1,_⟩:=h.awaited o now
   split
   ·exact Seated.nil
   ·split
    ·exact Seated.nil
    ·rename_i m rest hm
     have hw:=h1.wok o m (by rw[hm];exact List.mem_cons_self ..)
     have h2:=h1.commit m o hw.2.2.2
     obtain⟨k1,_⟩:=commit_keep (s.awaited o now).1 m o
     split
     ·exact Seated.nil
     ·have h3:=h2.rest (o:=o) (m:=m) (rest:=rest) (by rw[k1];exact hm)
      intro x hx
      rcases List.mem_cons.1 hx with q|q
      ·rw[q]
       show 0≤m.c
       exact okW_c hw
      ·exact adv_seated o now f h3 x q
theorem remind_seated(s:Sv){seat:Int}(hs:0≤seat)(now:Int):∀ k,Seated (s.remindN seat now k).2
 | 0=>Seated.nil
 | k+1=>by
  refine(remind_seated s hs now k).app ?_
  split
  ·exact Seated.one hs
  ·exact Seated.nil
theorem await_mem(now:Int):∀ (cs:List Int) (s:Sv),∀ c∈(s.await now cs).2,c∈cs
 | [],s,c,h=>by simp[await_nil] at h
 | d :: cs,s,c,h=>by
  rw[await_cons] at h
  split at h
  ·rcases List.mem_cons.1 h with q|q
   ·rw[q];exact List.mem_cons_self ..
   ·exact List.mem_cons_of_mem _ (await_mem now cs s c q)
  ·exact List.mem_cons_of_mem _ (await_mem now cs _ c h)
theorem awaited_mem(s:Sv)(o:Nat)(now:Int):∀ c∈(s.awaited o now).2,∃ n:Nat,n<4∧c=(n:Int):=fun c h=>by
 unfold Sv.awaited at h
 split at h
 ·simp at h
 ·exact hol_mem (await_mem now _ s c h)
theorem hear_seated{s:Sv}{B:Nat}(h:SvB s B){m:M}(hm:okM m)(now:Int):Seated (s.hear m now).2:=by
 unfold Sv.hear
 split
 ·exact Seated.nil
 ·rename_i hn
  have hc:0≤m.c:=by omega
  split
  ·exact Seated.one hc
  ·split
   ·unfold Sv.writeS
    split
    ·exact Seated.one hc
    ·split
     ·exact Seated.nil
     ·split
      ·exact Seated.nil
      ·have hq:=h.enq (m:=m) (o:=m.o.toNat) ⟨by omega,hm⟩
       refine Seated.app (adv_seated _ now _ hq) fun x hx=>?_
       obtain⟨c,hc',rfl⟩:=List.mem_map.1 hx
       obtain⟨n,_,rfl⟩:=awaited_mem _ _ _ c hc'
       show (0:Int)≤(n:Int)
       omega
   ·split
    ·unfold Sv.renewS
     split
     ·exact remind_seated s (by omega) now 8
     ·split<;>exact Seated.one hc
    ·split
     ·unfold Sv.release
      split
      ·exact adv_seated _ now _ (h.dropped _ _)
      ·exact Seated.nil
     ·exact Seated.nil
theorem tick_seated{s:Sv}{B:Nat}(h:SvB s B)(now:Int):∀ k,Seated (s.tickN now k).2
 | 0=>Seated.nil
 | k+1=>(tick_seated h now k).app (adv_seated k now _ (SvB.tick h now k).1)
end Wld
end
section
namespace Wld
open Go.RowKit Go.Maps
open Lease (Ob I64 upd TabIs hol dels objB HasI map_block map_ne)
open Cache (tp row_kept row_below)
open Wal (R WalIs DiskIs Oq Fw rcells)
open Num (M okB strOf)
open Net (NetIs Only pcells)
theorem WdIs.newOut{w w':World}{A:Wa}{s:Wd}{v:Sv}(h:WdIs w A s)(hv:s.sv=some v)(hF:Fs A.a w w'){v':Sv}{g:Nat}(hg:w.heap.size≤g)(hf:¬ foot w' A.a g):¬ wfoot w' A (s.served v') g:=fun f=>by
 have hlt:=h.lt
 have hG:=h.gt.lt
 have u:=h.up v hv
 rcases f with f|f|⟨v,f1,f2⟩|⟨i,hi,f⟩|⟨i,hi,f⟩|⟨f1,f2⟩
 ·omega
 ·omega
 ·have e:w'.cell? ⟨A.Q,12410,none⟩=w.cell? ⟨A.Q,12410,none⟩:=by rw[← u.q];exact hF.cell _ (by omega)
  obtain⟨v0,hv0,hr0⟩:=h.evs
  rw[e,hv0] at f1
  injection f1 with f1
  subst f1
  have:=(World.ownsRow.lt hr0 g f2).2
  omega
 ·have:=(h.cli i hi).lt.1;omega
 ·have:=(h.cli i hi).lt.2;omega
 ·exact hf f2
theorem toldServer_any(A:Wa)(s:Wd)(m:M)(C:Nat)(w:World)(h:WdIs w A s)(hB:WdB s C)(hC:C≤100000000000)(hm:okB m=true) :
  Calls Tryz.prog 65 #[tp A.Q,Wire.M.agg m] w fun e w'=>e = .returned (.tuple #[])∧WdIs w' A (s.toldServer m)∧Fz A s w A (s.toldServer m) w':=by
 have hb1:Below w.heap.size w (mbox w m.k m.c m.n m.e m.s m.o m.v m.l m.d):=(Below.refl _ _).alloc (Nat.le_refl _) _
 have hB1:MB (mbox w m.k m.c m.n m.e m.s m.o m.v m.l m.d) w.heap.size m:=mbox_is w _ _ _ _ _ _ _ _ _
 obtain⟨x1,x2⟩:=h.below hb1
 unfold mbox at *
 unfold Wire.M.agg
 cases hs:s.sv with
 | none=>
  have HE:Hid (s.toldServer m=s):=by unfold Hid Wd.toldServer;rw[hs]
  have hup:=up_any A s _ x1
  rw[hs] at hup
  have HF:Hid (WdIs (mbox w m.k m.c m.n m.e m.s m.o m.v m.l m.d) A s∧Fz A s w A s (mbox w m.k m.c m.n m.e m.s m.o m.v m.l m.d)):=⟨x1,x2⟩
  unfold mbox at HF
  clear x1 x2 hb1 hB1 h hB
  go_enter Tryz.func65,Tryz.ntmps65
  go_wp2_with fail
  refine hup.mono ?_
  rintro e w2 ⟨rfl,rfl⟩
  go_wp2_with fail
  go_end0
  rw[HE.out]
  exact⟨rfl,HF.out⟩
 | some v=>
  have hfb:=(h.up v hs).sv.fresh hb1 (Nat.le_refl _)
  have hbl:w.heap.size<(w.alloc (.cells #[.int .i64 m.k,.int .i64 m.c,.int .i64 m.n,.int .i64 m.e,.int .i64 m.s,.int .i64 m.o,.int .i64 m.v,.bool m.l,.string m.d] 129)).heap.size:=by simp
  have HE:Hid (s.toldServer m=s.answer (v.hear m s.clock)):=by unfold Hid Wd.toldServer;rw[hs]
  go_enter Tryz.func65,Tryz.ntmps65
  go_upto_region 1 with fail
  generalize w.alloc (.cells #[.int .i64 m.k,.int .i64 m.c,.int .i64 m.n,.int .i64 m.e,.int .i64 m.s,.int .i64 m.o,.int .i64 m.v,.bool m.l,.string m.d] 129)=w1 at *
  have hup:=up_any A s _ x1
  rw[hs] at hup
  have b0:=hB1.c0
  have b1:=hB1.c1
  have b2:=hB1.c2
  have b3:=hB1.c3
  have b4:=hB1.c4
  have b5:=hB1.c5
  have b6:=hB1.c6
  have b7:=hB1.c7
  have b8:=hB1.c8
  have srv:=x1.core.srv
  have clk:=x1.core.clk
  rw[hs] at srv
  unfold svP at srv
  obtain⟨z1,z2⟩:=x1.below (Below.refl w1.heap.size w1).drew
  have u:=z1.up v hs
  have hhe:=hearS_any A.a v m s.clock (400*C) w1.drew u.sv (hB.hearOk hC hs) (okB_m hm).1
  unfold Wire.M.agg at hhe
  have hSV:=(hB.sv v hs).1
  have hsm:=hear_small hSV m s.clock
  have hst:=hear_seated hSV (okB_m hm).1 s.clock
  have hln:=(hSV.hear (okB_m hm).1 s.clock).2
  have htm:=hear_terms v m s.clock
  clear hB h hb1 hB1
  go_wp2_with fail
  refine hup.mono ?_
  rintro e w2 ⟨rfl,rfl⟩
  clear hup
  go_upto_region 2 with fail
  refine Gen.start (S:=fun w'=>w'.cell? ⟨w.heap.size,0,none⟩=some (.int .i64 m.k)∧w'.cell? ⟨w.heap.size,1,none⟩=some (.int .i64 m.c)∧w'.cell? ⟨w.heap.size,2,none⟩=some (.int .i64 m.n)∧w'.cell? ⟨w.heap.size,3,none⟩=some (.int .i64 m.e)∧w'.cell? ⟨w.heap.size,4,none⟩=some (.int .i64 m.s)∧w'.cell? ⟨w.heap.size,5,none⟩=some (.int .i64 m.o)∧w'.cell? ⟨w.heap.size,6,none⟩=some (.int .i64 m.v)∧w'.cell? ⟨w.heap.size,7,none⟩=some (.bool m.l)∧w'.cell? ⟨w.heap.size,8,none⟩=some (.string m.d)∧w'.cell? ⟨A.Q,12407,none⟩=some (tp A.a.S)∧w'.cell? ⟨A.Q,12408,none⟩=some (.int .i64 s.clock)) (by kernel_rfl) ⟨b0,b1,b2,b3,b4,b5,b6,b7,b8,srv,clk⟩ (fun hHeld=>?_)
  refine Gen.tk 0 11 ?_ rfl rfl (Or.inl ⟨by rfl,?_⟩) hHeld ?_;rotate_left
  ·rintro w' ⟨s0,s1,s2,s3,s4,s5,s6,s7,s8,s9,s10⟩;go_simp;try with_reducible rfl
  go_frame
  refine Gen.tk 1 2 ?_ rfl rfl (Or.inl ⟨by rfl,?_⟩) hHeld ?_;rotate_left
  ·rintro w' ⟨s0,s1,s2,s3,s4,s5,s6,s7,s8,s9,s10⟩;go_simp;try with_reducible rfl
  go_frame
  refine Gen.tk 2 3 ?_ rfl rfl (Or.inl ⟨by rfl,?_⟩) hHeld ?_;rotate_left
  ·rintro w' ⟨s0,s1,s2,s3,s4,s5,s6,s7,s8,s9,s10⟩;go_simp;try with_reducible rfl
  go_frame
  refine Gen.tk 3 4 ?_ rfl rfl (Or.inl ⟨by rfl,?_⟩) hHeld ?_;rotate_left
  ·rintro w' ⟨s0,s1,s2,s3,s4,s5,s6,s7,s8,s9,s10⟩;go_simp;try with_reducible rfl
  go_frame
  refine Gen.tk 4 10 ?_ rfl rfl (Or.inl ⟨by rfl,?_⟩) hHeld ?_;rotate_left
  ·rintro w' ⟨s0,s1,s2,s3,s4,s5,s6,s7,s8,s9,s10⟩;go_simp;try with_reducible rfl
  go_frame
  refine Gen.tk 5 10 ?_ rfl rfl (Or.inl ⟨by rfl,?_⟩) hHeld ?_;rotate_left
  ·rintro w' ⟨s0,s1,s2,s3,s4,s5,s6,s7,s8,s9,s10⟩;go_simp;try with_reducible rfl
  go_frame
  refine Gen.tk 6 7 ?_ rfl rfl (Or.inl ⟨by rfl,?_⟩) hHeld ?_;rotate_left
  ·rintro w' ⟨s0,s1,s2,s3,s4,s5,s6,s7,s8,s9,s10⟩;go_simp;try with_reducible rfl
  go_frame
  refine Gen.tk 7 8 ?_ rfl rfl (Or.inl ⟨by rfl,?_⟩) hHeld ?_;rotate_left
  ·rintro w' ⟨s0,s1,s2,s3,s4,s5,s6,s7,s8,s9,s10⟩;go_simp;try with_reducible rfl
  go_frame
  refine Gen.tk 8 9 ?_ rfl rfl (Or.inl ⟨by rfl,?_⟩) hHeld ?_;rotate_left
  ·rintro w' ⟨s0,s1,s2,s3,s4,s5,s6,s7,s8,s9,s10⟩;go_simp;try with_reducible rfl
  go_frame
  refine Gen.tk 9 10 ?_ rfl rfl (Or.inl ⟨by rfl,?_⟩) hHeld ?_;rotate_left
  ·rintro w' ⟨s0,s1,s2,s3,s4,s5,s6,s7,s8,s9,s10⟩;go_simp;try with_reducible rfl
  go_frame
  refine Gen.one (i:=10) (by kernel_rfl) rfl rfl (fun K hK=>?_)
  go_simp
  refine hhe.mono ?_
  rintro e w3 ⟨v3,rfl,T3⟩
  obtain⟨y1,y2⟩:=z1.served hs T3.sv T3.fs htm.1 htm.2
  have hB3:=MB.fs (w:=w2.drew) ⟨b0,b1,b2,b3,b4,b5,b6,b7,b8⟩ T3.fs hbl hfb
  have srv3:=y1.core.srv
  have clk3:=y1.core.clk
  have han:=answerW_any A (s.served (v.hear m s.clock).1) (v.hear m s.clock).1 (v.hear m s.clock).2 _ v3 w3 y1 rfl T3.out.own (fun g hg=>z1.newOut hs T3.fs (World.ownsRow.lt T3.out.own g hg).1 (T3.out.sep g hg)) (by omega) hsm hst
  dsimp only
  refine hK.out _ _ ⟨hB3.c0,hB3.c1,hB3.c2,hB3.c3,hB3.c4,hB3.c5,hB3.c6,hB3.c7,hB3.c8,srv3,clk3⟩ (fun hHeld=>?_)
  clear hK K
  try go_frame
  refine Gen.last (i:=11) (by kernel_rfl) rfl rfl (by kernel_rfl) (by kernel_rfl) (fun K hK=>?_)
  go_simp
  refine han.mono ?_
  rintro e w4 ⟨rfl,q1,q2⟩
  have HF:Hid (WdIs w4 A (s.toldServer m)∧Fz A s w A (s.toldServer m) w4):=by
   rw[HE.out]
   exact⟨q1,((x2.trans z2).trans y2).trans q2⟩
  dsimp only
  refine hK.out _ _ ?_
  clear hK K hHeld
  clear q1 q2 y1 y2 z1 z2 x1 x2 han hhe T3 u
  go_wp2_with fail
  go_end0
  exact⟨rfl,HF.out⟩
theorem send_n(t:Int):∀ (l:List M) (s:Wd),(s.send t l).n=s.n
 | [],s=>rfl
 | m :: l,s=>by
  show ((s.put t m).send t l).n=s.n
  rw[send_n t l]
  unfold Wd.put
  split<;>rfl
theorem toldClient_no(A:Wa)(s:Wd)(k:Int)(m:M)(w:World)(h:WdIs w A s)(hk:s.has k=false) :
  Calls Tryz.prog 66 #[tp A.Q,.int .i64 k,Wire.M.agg m] w fun e w'=>e = .returned (.tuple #[])∧WdIs w' A s∧Fz A s w A s w':=by
 obtain⟨x1,x2⟩:=h.below (show Below w.heap.size w (mbox w m.k m.c m.n m.e m.s m.o m.v m.l m.d) from(Below.refl _ _).alloc (Nat.le_refl _) _)
 have hh:=hasW_any A s k _ x1
 rw[hk] at hh
 have HF:Hid (WdIs (mbox w m.k m.c m.n m.e m.s m.o m.v m.l m.d) A s∧Fz A s w A s (mbox w m.k m.c m.n m.e m.s m.o m.v m.l m.d)):=⟨x1,x2⟩
 unfold mbox at *
 unfold Wire.M.agg
 clear x1 x2 h hk
 go_enter Tryz.func66,Tryz.ntmps66
 go_wp2_with fail
 refine hh.mono ?_
 rintro e w2 ⟨rfl,rfl⟩
 go_wp2_with fail
 exact bodyPost_ret (v:=.tuple #[]) (by simp[results,Tryz.results66,go_sem]) rfl ⟨rfl,HF.out⟩
theorem toldClient_any(A:Wa)(s:Wd)(k:Nat)(m:M)(C:Nat)(w:World)(h:WdIs w A s)(hk:k<s.n)(hB:WdB s C)(hC:C≤10000000000)(hm:okB m=true) :
  Calls Tryz.prog 66 #[tp A.Q,.int .i64 k,Wire.M.agg m] w fun e w'=>e = .returned (.tuple #[])∧WdIs w' A (s.toldClient k m)∧Fz A s w A (s.toldClient k m) w':=by
 have hb1:Below w.heap.size w (mbox w m.k m.c m.n m.e m.s m.o m.v m.l m.d):=(Below.refl _ _).alloc (Nat.le_refl _) _
 have hB1:MB (mbox w m.k m.c m.n m.e m.s m.o m.v m.l m.d) w.heap.size m:=mbox_is w _ _ _ _ _ _ _ _ _
 obtain⟨x1,x2⟩:=h.below hb1
 have hcl:=(h.cli k hk).lt
 have hbl:w.heap.size<(mbox w m.k m.c m.n m.e m.s m.o m.v m.l m.d).heap.size:=by simp
 have hh:=hasW_any A s k _ x1
 have hhk:s.has k=true:=by
  unfold Wd.has
  exact decide_eq_true ⟨by omega,by omega⟩
 rw[hhk] at hh
 unfold mbox at *
 unfold Wire.M.agg
 have hk0:(0:Int)≤(k:Int):=by omega
 have hkn:(k:Int)<(s.n:Int):=by omega
 have n4:=h.n4
 have hSB:=hB.st k hk
 have hLn:=(hSB.k.hear m ⟨(okB_m hm).2,(okB_m hm).1.2.2⟩).2
 have hsm:=khear_small (s.seat k).k m
 go_enter Tryz.func66,Tryz.ntmps66
 go_upto_region 1 with fail
 generalize w.alloc (.cells #[.int .i64 m.k,.int .i64 m.c,.int .i64 m.n,.int .i64 m.e,.int .i64 m.s,.int .i64 m.o,.int .i64 m.v,.bool m.l,.string m.d] 129)=w1 at *
 obtain⟨z1,z2⟩:=x1.below (Below.refl w1.heap.size w1).drew
 have hhe:=hear_any (A.c k) (A.m k) (s.seat k).k m w1.drew (z1.cli k hk) (hSB.k.ok (by omega)) (okB_m hm).2
 unfold Wire.M.agg at hhe
 have b0:=hB1.c0
 have b1:=hB1.c1
 have b2:=hB1.c2
 have b3:=hB1.c3
 have b4:=hB1.c4
 have b5:=hB1.c5
 have b6:=hB1.c6
 have b7:=hB1.c7
 have b8:=hB1.c8
 have sts:=x1.core.sts
 have c0:=(x1.seats k hk).c0
 clear h hb1 hB1 hhk
 go_wp2_with fail
 refine hh.mono ?_
 rintro e w2 ⟨rfl,rfl⟩
 clear hh
 go_upto_region 2 with fail
 refine Gen.start (S:=fun w'=>w'.cell? ⟨w.heap.size,0,none⟩=some (.int .i64 m.k)∧w'.cell? ⟨w.heap.size,1,none⟩=some (.int .i64 m.c)∧w'.cell? ⟨w.heap.size,2,none⟩=some (.int .i64 m.n)∧w'.cell? ⟨w.heap.size,3,none⟩=some (.int .i64 m.e)∧w'.cell? ⟨w.heap.size,4,none⟩=some (.int .i64 m.s)∧w'.cell? ⟨w.heap.size,5,none⟩=some (.int .i64 m.o)∧w'.cell? ⟨w.heap.size,6,none⟩=some (.int .i64 m.v)∧w'.cell? ⟨w.heap.size,7,none⟩=some (.bool m.l)∧w'.cell? ⟨w.heap.size,8,none⟩=some (.string m.d)∧w'.cell? ⟨A.Q,12409,none⟩=some (.slice (some ⟨A.G,0,none⟩) s.n s.n)∧w'.cell? ⟨A.G,k*4,none⟩=some (tp (A.c k))) (by kernel_rfl) ⟨b0,b1,b2,b3,b4,b5,b6,b7,b8,sts,c0⟩ (fun hHeld=>?_)
 refine Gen.tk 0 11 ?_ rfl rfl (Or.inl ⟨by rfl,?_⟩) hHeld ?_;rotate_left
 ·rintro w' ⟨s0,s1,s2,s3,s4,s5,s6,s7,s8,s9,s10⟩;go_simp;try with_reducible rfl
 go_frame
 refine Gen.tk 1 2 ?_ rfl rfl (Or.inl ⟨by rfl,?_⟩) hHeld ?_;rotate_left
 ·rintro w' ⟨s0,s1,s2,s3,s4,s5,s6,s7,s8,s9,s10⟩;go_simp;try with_reducible rfl
 go_frame
 refine Gen.tk 2 3 ?_ rfl rfl (Or.inl ⟨by rfl,?_⟩) hHeld ?_;rotate_left
 ·rintro w' ⟨s0,s1,s2,s3,s4,s5,s6,s7,s8,s9,s10⟩;go_simp;try with_reducible rfl
 go_frame
 refine Gen.tk 3 4 ?_ rfl rfl (Or.inl ⟨by rfl,?_⟩) hHeld ?_;rotate_left
 ·rintro w' ⟨s0,s1,s2,s3,s4,s5,s6,s7,s8,s9,s10⟩;go_simp;try with_reducible rfl
 go_frame
 refine Gen.tk 4 6 ?_ rfl rfl (Or.inl ⟨by rfl,?_⟩) hHeld ?_;rotate_left
 ·rintro w' ⟨s0,s1,s2,s3,s4,s5,s6,s7,s8,s9,s10⟩;go_simp;try with_reducible rfl
 go_frame
 refine Gen.tk 5 6 ?_ rfl rfl (Or.inl ⟨by rfl,?_⟩) hHeld ?_;rotate_left
 ·rintro w' ⟨s0,s1,s2,s3,s4,s5,s6,s7,s8,s9,s10⟩;go_simp;try with_reducible rfl
 go_frame
 refine Gen.tk 6 7 ?_ rfl rfl (Or.inl ⟨by rfl,?_⟩) hHeld ?_;rotate_left
 ·rintro w' ⟨s0,s1,s2,s3,s4,s5,s6,s7,s8,s9,s10⟩;go_simp;try with_reducible rfl
 go_frame
 refine Gen.tk 7 8 ?_ rfl rfl (Or.inl ⟨by rfl,?_⟩) hHeld ?_;rotate_left
 ·rintro w' ⟨s0,s1,s2,s3,s4,s5,s6,s7,s8,s9,s10⟩;go_simp;try with_reducible rfl
 go_frame
 refine Gen.tk 8 10 ?_ rfl rfl (Or.inl ⟨by rfl,?_⟩) hHeld ?_;rotate_left
 ·rintro w' ⟨s0,s1,s2,s3,s4,s5,s6,s7,s8,s9,s10⟩;go_simp;try with_reducible rfl
 go_frame
 refine Gen.tk 9 10 ?_ rfl rfl (Or.inl ⟨by rfl,?_⟩) hHeld ?_;rotate_left
 ·rintro w' ⟨s0,s1,s2,s3,s4,s5,s6,s7,s8,s9,s10⟩;go_simp;try with_reducible rfl
 go_frame
 refine Gen.one (i:=10) (by kernel_rfl) rfl rfl (fun K hK=>?_)
 go_simp
 refine hhe.mono ?_
 rintro e w3 ⟨v3,rfl,hM3,hK3,hO3⟩
 obtain⟨y1,y2⟩:=z1.client hk hK3 hO3
 have eB:w3.heap[w.heap.size]?=w2.heap[w.heap.size]?:=hO3.block _ hbl (by simp;omega)
 have eb:∀ j,w3.cell? ⟨w.heap.size,j,none⟩=w2.cell? ⟨w.heap.size,j,none⟩:=fun j=>World.cell?_of_block eB
 have sts3:=y1.core.sts
 have d0:=(y1.seats k hk).c0
 have hsd:=sendW_any A _ (-1) ((s.seat k).k.hear m).2 _ v3 w3 y1 hM3 (by omega) hsm
 have hB2:WdB ((s.setK k ((s.seat k).k.hear m).1).send (-1) ((s.seat k).k.hear m).2) (C+1):=WdB.send _ _ ((hB.mono (Nat.le_succ C)).setK (hSB.k.hear m ⟨(okB_m hm).2,(okB_m hm).1.2.2⟩).1)
 dsimp only
 refine hK.out _ _ ⟨(eb _).trans b0,(eb _).trans b1,(eb _).trans b2,(eb _).trans b3,(eb _).trans b4,(eb _).trans b5,(eb _).trans b6,(eb _).trans b7,(eb _).trans b8,sts3,d0⟩ (fun hHeld=>?_)
 clear hK K
 try go_frame
 refine Gen.last (i:=11) (by kernel_rfl) rfl rfl (by kernel_rfl) (by kernel_rfl) (fun K hK=>?_)
 go_simp
 refine hsd.mono ?_
 rintro e w4 ⟨rfl,q1,q2⟩
 have hk4:k<((s.setK k ((s.seat k).k.hear m).1).send (-1) ((s.seat k).k.hear m).2).n:=by rw[send_n];exact hk
 have hno:=note_any A _ k w4 q1 hk4 (hB2.st k hk4).a1
 dsimp only
 refine hK.out _ _ ?_
 clear hK K hHeld
 clear hsd hhe hM3 hK3 hO3 b0 b1 b2 b3 b4 b5 b6 b7 b8
 go_wp2_with fail
 refine hno.mono ?_
 rintro e w5 ⟨rfl,r1,r2⟩
 have HF:Hid (WdIs w5 A (s.toldClient k m)∧Fz A s w A (s.toldClient k m) w5):=⟨r1,(((x2.trans z2).trans y2).trans q2).trans r2⟩
 clear r1 r2 q1 q2 y1 y2 z1 z2 x1 x2 hno hB2 hB
 go_wp2_with fail
 go_end0
 exact⟨rfl,HF.out⟩
end Wld
end
section
namespace Wld
open Go.RowKit Go.Maps
open Lease (Ob I64 upd TabIs hol dels objB HasI map_block map_ne)
open Cache (tp row_kept row_below)
open Wal (R WalIs DiskIs Oq Fw rcells)
open Num (M okB strOf ints)
open Net (NetIs Only pcells)
theorem strOf_bytes{m:M}(h:okB m=true):ints (strOf m.bytes)=m.bytes:=Num.ints_strOf _ (Num.bytes_byte h)
theorem strOf_size{m:M}(h:okB m=true):(strOf m.bytes).size≤64:=by
 have h1:=strOf_bytes h
 have h2:=(Wire.bytes_len h).1
 rw[← h1,Num.ints_length] at h2
 exact h2
theorem map_erase:∀ (l:List (Int×M)) (k:Nat),(l.map encN).eraseIdx k=(l.eraseIdx k).map encN
 | [],_=>rfl
 | _ :: _,0=>rfl
 | a :: l,k+1=>by
  rw[List.map_cons,List.eraseIdx_cons_succ,List.eraseIdx_cons_succ,List.map_cons,map_erase l k]
theorem deliver_any(A:Wa)(s:Wd)(k C:Nat)(w:World)(h:WdIs w A s)(hk:k<s.net.length)(hB:WdB s C)(hC:C≤1000000000) :
  Calls Tryz.prog 26 #[tp A.Q,.int .i64 k] w fun e w'=>e = .returned .nilIface∧WdIs w' A (s.deliver k)∧Fz A s w A (s.deliver k) w':=by
 obtain⟨p,hp⟩:∃ p,s.net[k]=p:=⟨_,rfl⟩
 have hm:okB p.2=true:=by rw[← hp];exact hB.net _ (List.getElem_mem hk)
 have hkm:k<(s.net.map encN).length:=by rw[List.length_map];exact hk
 have hpk:(s.net.map encN)[k]=(p.1,strOf p.2.bytes):=by rw[List.getElem_map,hp];rfl
 have htk:=Net.take_yes (A.Q+1) A.Q (s.net.map encN) k w h.net hkm (by rw[hpk];have:=strOf_size hm;dsimp only;omega)
 rw[hpk,map_erase] at htk
 dsimp only at htk
 rw[strOf_bytes hm] at htk
 have HE:Hid (s.deliver k=({ s with net:=s.net.eraseIdx k,step:=s.step+1 }:Wd).told p.1 p.2):=by
  unfold Hid Wd.deliver
  rw[List.getElem?_eq_getElem hk,hp]
 have hwr:IntKind.i64.wrap (s.step+1)=s.step+1:=wrapI (by have:=hB.s0;omega) (by have:=hB.s1;omega)
 have hB2:WdB ({ s with net:=s.net.eraseIdx k,step:=s.step+1 }:Wd) (C+1):=(hB.lose k).stepped
 obtain⟨t,m⟩:=p
 dsimp only at hm htk HE
 clear hp hkm hpk hB
 go_enter Tryz.func26,Tryz.ntmps26
 go_wp2_with fail
 refine htk.mono ?_
 rintro e w2 ⟨sv,rfl,hsee,hN2,hO2⟩
 obtain⟨x1,x2⟩:=h.netted hN2 hO2
 obtain⟨ao,cc,hsv,_⟩:=id hsee
 clear htk hN2 hO2 h
 subst hsv
 go_upto_region 4 with fail
 generalize hsv:Value.slice ao m.bytes.length cc=sv at *
 generalize hW:w2.alloc (.cells #[.int .i64 t,sv] 125)=w3
 have hb3:Below w2.heap.size w2 w3:=by rw[← hW];exact(Below.refl _ _).alloc (Nat.le_refl _) _
 have hs3:w3.heap.size=w2.heap.size+1:=by rw[← hW];simp
 have g0:w3.cell? ⟨w2.heap.size,0,none⟩=some (.int .i64 t):=by rw[← hW];exact cell_of_row _ _ _ _ _ _ (heap_alloc_new w2 _)
 have g1:w3.cell? ⟨w2.heap.size,1,none⟩=some sv:=by rw[← hW];exact cell_of_row _ _ _ _ _ _ (heap_alloc_new w2 _)
 clear hW
 obtain⟨y1,y2⟩:=x1.below hb3
 have stp:=y1.core.stp
 have fst:=y1.core.free 12411
 dsimp only at stp
 obtain⟨z1,z2⟩:=y1.setStep (s.step+1)
 have hQ3:A.Q≠w2.heap.size:=by have:=x1.lt;omega
 have HSE:Hid (Wire.Sees (w3.setCell ⟨A.Q,12411,none⟩ (.int .i64 (s.step+1))) w2.heap.size sv m.bytes):=by
  obtain⟨ao',c',e1,e2,e3,e4,e5⟩:=hsee
  refine⟨ao',c',e1,e2,e3,e4,fun h0=>?_⟩
  obtain⟨b,off,f1,f2,f3⟩:=e5 h0
  refine⟨b,off,f1,f2,fun j hj=>?_⟩
  have hc3:w3.cell? ⟨b,off+j,none⟩=some (.int .u8 (m.bytes.getD j 0)):=(hb3.cell (p:=⟨b,off+j,none⟩) f2).trans (f3 j hj)
  rw[World.cell?_setCell_other _ _ _ _ (by
   intro q
   injection q with q1 q2
   subst q1
   have h1:=y1.core.stp
   rw[q2,hc3] at h1
   injection h1 with h1
   injection h1 with h1 _
   cases h1)]
  exact hc3
 have hbx:(w3.setCell ⟨A.Q,12411,none⟩ (.int .i64 (s.step+1))).heap[w2.heap.size]?=w3.heap[w2.heap.size]?:=Below.heap_setCell w3 ⟨A.Q,12411,none⟩ _ w2.heap.size (Ne.symm hQ3)
 have k0:=(World.cell?_of_block (a:=⟨w2.heap.size,0,none⟩) hbx).trans g0
 have k1:=(World.cell?_of_block (a:=⟨w2.heap.size,1,none⟩) hbx).trans g1
 have hs4:(w3.setCell ⟨A.Q,12411,none⟩ (.int .i64 (s.step+1))).heap.size=w2.heap.size+1:=by simpa using hs3
 have HZ:Hid (WdIs (w3.setCell ⟨A.Q,12411,none⟩ (.int .i64 (s.step+1))) A { s with net:=s.net.eraseIdx k,step:=s.step+1 }∧Fz A s w A { s with net:=s.net.eraseIdx k,step:=s.step+1 } (w3.setCell ⟨A.Q,12411,none⟩ (.int .i64 (s.step+1)))):=⟨z1,(x2.trans y2).trans z2⟩
 clear x1 x2 y1 y2 z1 z2 hsee hb3 hbx
 go_upto_region 5 with fail
 generalize w3.setCell ⟨A.Q,12411,none⟩ (.int .i64 (s.step+1))=w4 at *
 have hdec:=Wire.dec_back m hm w2.heap.size sv w4 HSE.out (by omega)
 unfold Wire.M.agg at hdec
 go_wp2_with fail
 refine hdec.mono ?_
 rintro e w5 ⟨rfl,hb5⟩
 have hs5:=hb5.size
 have l0:=(hb5.cell (p:=⟨w2.heap.size,0,none⟩) (by dsimp only;omega)).trans k0
 obtain⟨a1,a2⟩:=HZ.out.1.below hb5
 have a3:=HZ.out.2.trans a2
 clear hdec k0 k1 HSE hb5 HZ a2 g0 g1
 go_upto_region 8 with fail
 generalize hW:w5.alloc (.cells #[.int .i64 m.k,.int .i64 m.c,.int .i64 m.n,.int .i64 m.e,.int .i64 m.s,.int .i64 m.o,.int .i64 m.v,.bool m.l,.string m.d] 129)=w6
 have hb6:Below w5.heap.size w5 w6:=by rw[← hW];exact(Below.refl _ _).alloc (Nat.le_refl _) _
 have hB6:MB w6 w5.heap.size m:=by rw[← hW];exact mbox_is w5 m.k m.c m.n m.e m.s m.o m.v m.l m.d
 have l1:=(hb6.cell (p:=⟨w2.heap.size,0,none⟩) (by dsimp only;omega)).trans l0
 obtain⟨d1,d2⟩:=a1.below hb6
 have d3:=a3.trans d2
 clear hW hb6 a1 a3 d2 l0
 have b0:=hB6.c0
 have b1:=hB6.c1
 have b2:=hB6.c2
 have b3:=hB6.c3
 have b4:=hB6.c4
 have b5:=hB6.c5
 have b6:=hB6.c6
 have b7:=hB6.c7
 have b8:=hB6.c8
 by_cases ht:t = -1
 ·subst ht
  have HE2:Hid (s.deliver k=({ s with net:=s.net.eraseIdx k,step:=s.step+1 }:Wd).toldServer m):=HE.out.trans (if_pos rfl)
  have hto:=toldServer_any A _ m (C+1) w6 d1 hB2 (by omega) hm
  unfold Wire.M.agg at hto
  go_wp2_with fail
  refine hto.mono ?_
  rintro e w7 ⟨rfl,q1,q2⟩
  have HF:Hid (WdIs w7 A (s.deliver k)∧Fz A s w A (s.deliver k) w7):=by
   rw[HE2.out]
   exact⟨q1,d3.trans q2⟩
  clear q1 q2 d1 d3 hto b0 b1 b2 b3 b4 b5 b6 b7 b8 hB6 hB2
  go_wp2_with fail
  go_ret
  exact⟨rfl,HF.out⟩
 ·have gt:(t == -1)=false:=by simpa using ht
  have HE2:Hid (s.deliver k=if ({ s with net:=s.net.eraseIdx k,step:=s.step+1 }:Wd).has t=true then ({ s with net:=s.net.eraseIdx k,step:=s.step+1 }:Wd).toldClient t.toNat m else { s with net:=s.net.eraseIdx k,step:=s.step+1 }):=HE.out.trans (if_neg ht)
  clear HE ht
  cases hh:({ s with net:=s.net.eraseIdx k,step:=s.step+1 }:Wd).has t with
  | false=>
   have hto:=toldClient_no A _ t m w6 d1 hh
   unfold Wire.M.agg at hto
   go_wp2_with fail
   refine hto.mono ?_
   rintro e w7 ⟨rfl,q1,q2⟩
   have HF:Hid (WdIs w7 A (s.deliver k)∧Fz A s w A (s.deliver k) w7):=by
    rw[HE2.out,hh,if_neg (by decide)]
    exact⟨q1,d3.trans q2⟩
   clear q1 q2 d1 d3 hto b0 b1 b2 b3 b4 b5 b6 b7 b8 hB6 hB2 HE2
   go_wp2_with fail
   go_ret
   exact⟨rfl,HF.out⟩
  | true=>
   have hlt:0≤t∧t<(s.n:Int):=by
    unfold Wd.has at hh
    simpa using hh
   obtain⟨i,rfl⟩:∃ i:Nat,t=i:=⟨t.toNat,by omega⟩
   have hto:=toldClient_any A _ i m (C+1) w6 d1 (by show i<s.n;omega) hB2 (by omega) hm
   unfold Wire.M.agg at hto
   go_wp2_with fail
   refine hto.mono ?_
   rintro e w7 ⟨rfl,q1,q2⟩
   have HF:Hid (WdIs w7 A (s.deliver k)∧Fz A s w A (s.deliver k) w7):=by
    rw[HE2.out,hh,if_pos rfl]
    exact⟨q1,d3.trans q2⟩
   clear q1 q2 d1 d3 hto b0 b1 b2 b3 b4 b5 b6 b7 b8 hB6 hB2 HE2
   go_wp2_with fail
   go_ret
   exact⟨rfl,HF.out⟩
theorem lose_any(A:Wa)(s:Wd)(k C:Nat)(w:World)(h:WdIs w A s)(hk:k<s.net.length)(hB:WdB s C) :
  Calls Tryz.prog 27 #[tp A.Q,.int .i64 k] w fun e w'=>e = .returned .nilIface∧WdIs w' A (s.lose k)∧Fz A s w A (s.lose k) w':=by
 have hm:okB s.net[k].2=true:=hB.net _ (List.getElem_mem hk)
 have hkm:k<(s.net.map encN).length:=by rw[List.length_map];exact hk
 have hpk:(s.net.map encN)[k]=(s.net[k].1,strOf s.net[k].2.bytes):=by rw[List.getElem_map];rfl
 have htk:=Net.take_yes (A.Q+1) A.Q (s.net.map encN) k w h.net hkm (by rw[hpk];have:=strOf_size hm;dsimp only;omega)
 rw[hpk,map_erase] at htk
 dsimp only at htk
 rw[strOf_bytes hm] at htk
 generalize s.net[k]=p at *
 obtain⟨t,m⟩:=p
 dsimp only at hm htk
 clear hkm hpk hB
 go_enter Tryz.func27,Tryz.ntmps27
 go_wp2_with fail
 refine htk.mono ?_
 rintro e w2 ⟨sv,rfl,hsee,hN2,hO2⟩
 obtain⟨x1,x2⟩:=h.netted hN2 hO2
 obtain⟨ao,cc,hsv,_⟩:=id hsee
 have HB:Hid (∀ o,WdIs (w2.alloc o) A (s.lose k)∧Fz A s w A (s.lose k) (w2.alloc o)):=fun o=>by
  obtain⟨y1,y2⟩:=x1.below ((Below.refl w2.heap.size w2).alloc (Nat.le_refl _) o)
  exact⟨y1,x2.trans y2⟩
 clear htk hN2 hO2 h x1 x2 hsee
 subst hsv
 go_wp2_with fail
 go_ret
 exact⟨rfl,HB.out _⟩
theorem twice_any(A:Wa)(s:Wd)(k:Nat)(w:World)(h:WdIs w A s)(hk:k<s.net.length) :
  Calls Tryz.prog 28 #[tp A.Q,.int .i64 k] w fun e w'=>e = .returned .nilIface∧WdIs w' A (s.twice k)∧Fz A s w A (s.twice k) w':=by
 have hkm:k<(s.net.map encN).length:=by rw[List.length_map];exact hk
 have hpk:(s.net.map encN)[k]=encN s.net[k]:=List.getElem_map ..
 have htw:=Net.twice_yes (A.Q+1) A.Q (s.net.map encN) k w h.net hkm
 have hmap:Net.put (s.net.map encN) (s.net.map encN)[k]=(s.twice k).net.map encN:=by
  unfold Net.put Wd.twice
  rw[List.length_map,List.getElem?_eq_getElem hk,hpk]
  dsimp only
  split
  ·rw[List.map_append];rfl
  ·rfl
 rw[hmap] at htw
 have heq:({ s with net:=(s.twice k).net }:Wd)=s.twice k:=by
  unfold Wd.twice
  rw[List.getElem?_eq_getElem hk]
  dsimp only
  split<;>rfl
 clear hmap hpk hkm
 go_enter Tryz.func28,Tryz.ntmps28
 go_wp2_with fail
 refine htw.mono ?_
 rintro e w2 ⟨rfl,hN2,hO2⟩
 obtain⟨x1,x2⟩:=h.netted hN2 hO2
 have HF:Hid (WdIs w2 A (s.twice k)∧Fz A s w A (s.twice k) w2):=by rw[← heq];exact⟨x1,x2⟩
 clear htw hN2 hO2 h x1 x2 heq
 go_wp2_with fail
 go_ret
 exact⟨rfl,HF.out⟩
end Wld
end
end Go.Proofs.YtbebfliimjjohabGreatDoor
