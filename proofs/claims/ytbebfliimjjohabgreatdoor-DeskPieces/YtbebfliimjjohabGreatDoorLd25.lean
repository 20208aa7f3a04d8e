/- Parts of the proof. -/
import Derived.Test.YtbebfliimjjohabGreatDoorLd24
import Derived.Maps.RangeWalk
set_option maxRecDepth 100000
set_option maxHeartbeats 8000000
namespace Go.Proofs.YtbebfliimjjohabGreatDoor
section
namespace Wld
open Go.RowKit Go.Maps
open Lease (Ob I64 upd TabIs hol dels objB HasI map_block map_ne)
open Cache (tp row_kept row_below)
open Wal (R WalIs DiskIs Oq Fw rcells)
open Num (M okB strOf)
open Net (NetIs Only pcells)
theorem wp_oneMsg{o:Oper}{a:Act}{w:World}{K:Act→World→Prop}{Q:Exit→Act→World→Prop}(t:Nat)(ho:o.op = .buildSlice 141 1 #[(0,.tmp t)])(m:M)(ht:a.eval (.tmp t)=Wire.M.agg m)
  (h:K (a.put o.dst (.slice (some ⟨w.heap.size,0,none⟩) 1 1)) (w.alloc (.cells #[.int .i64 m.k,.int .i64 m.c,.int .i64 m.n,.int .i64 m.e,.int .i64 m.s,.int .i64 m.o,.int .i64 m.v,.bool m.l,.string m.d] 129))):o.wp Tryz.prog a w K Q:=by
 obtain⟨i0,hi,hy0,hy1,hy2⟩:=info_parts info_msg
 refine wp_buildSlice 141 129 1 _ ho _ i0 _ Tryz.underlying141 hi hy0 (by rw[hy1];decide) (by rw[hy1];decide) ?_ h
 rw[hy1]
 simp only[List.map_toArray,List.map_cons,List.map_nil,ht]
 exact fill_msg m
structure An(w wr:World)(A:Wa)(s:Wd)(l:List M)(B:Nat)(v:Value)(k:Nat):Prop where
 wd:WdIs wr A (s.tells (l.take k))
 fz:Fz A s w A (s.tells (l.take k)) wr
 row:HasM wr B v l
 sep:∀ g,v.ownBlock=some g→¬ wfoot wr A (s.tells (l.take k)) g
theorem tells_take(s:Wd)(l:List M)(k:Nat)(h:k<l.length):s.tells (l.take (k+1))=(s.tells (l.take k)).put (seatN l[k].c:Nat) l[k]:=by
 unfold Wd.tells
 rw[List.take_succ_eq_append_getElem h,List.foldl_append]
 rfl
theorem send_one(s:Wd)(t:Int)(m:M):s.send t [m]=s.put t m:=rfl
theorem tells_sv:∀ (l:List M) (s:Wd),(s.tells l).sv=s.sv
 | [],s=>rfl
 | m :: l,s=>by
  show ((s.put _ m).tells l).sv=s.sv
  rw[tells_sv l]
  unfold Wd.put
  split<;>rfl
theorem answerW_any(A:Wa)(s:Wd)(sv:Sv)(l:List M)(B:Nat)(v:Value)(w:World)(h:WdIs w A s)(hs:s.sv=some sv)(hl:HasM w B v l)(hsep:∀ g,v.ownBlock=some g→¬ wfoot w A s g)(hll:l.length≤200)(hsm:Small l)(hc:∀ m∈l,0≤m.c) :
  Calls Tryz.prog 71 #[tp A.Q,v] w fun e w'=>e = .returned (.tuple #[])∧WdIs w' A (s.tells l).fallen∧Fz A s w A (s.tells l).fallen w':=by
 obtain⟨av,cv,hav,hcv,hcn⟩:=Net.row_shape hl
 subst hav
 have HS0:Hid (An w w A s l B (.slice av l.length cv) 0):=⟨h,Fz.refl _ _ _,hl,hsep⟩
 clear h hl hcv hsep
 go_enter Tryz.func71,Tryz.ntmps71
 go_wp2_with fail
 go_loopw [8] (fun i wr=>∃ k:Nat,k≤l.length∧i = .int .i64 k∧An w wr A s l B (.slice av l.length cv) k) (fun i _=>l.length-(intOf i).toNat)
 case atStart=>exact⟨0,by omega,rfl,HS0.out⟩
 case round=>
  obtain⟨k,hk,rfl,D⟩:=hrel
  by_cases hlt:k<l.length
  ·obtain⟨ao,c,hao,hg⟩:=D.row.at
   obtain⟨g,hge,hgB,hgs,hcell⟩:=hg (by omega)
   injection hao with hao _ hcc
   subst hao
   subst hcc
   subst hge
   have HT:Hid (s.tells (l.take (k+1))=(s.tells (l.take k)).put (seatN l[k].c:Nat) l[k]):=tells_take s l k hlt
   have hsz:=hsm l[k] (List.getElem_mem hlt)
   have hc0:=hc l[k] (List.getElem_mem hlt)
   have q0:=hcell k 0 hlt (by omega)
   have q1:=hcell k 1 hlt (by omega)
   have q2:=hcell k 2 hlt (by omega)
   have q3:=hcell k 3 hlt (by omega)
   have q4:=hcell k 4 hlt (by omega)
   have q5:=hcell k 5 hlt (by omega)
   have q6:=hcell k 6 hlt (by omega)
   have q7:=hcell k 7 hlt (by omega)
   have q8:=hcell k 8 hlt (by omega)
   obtain⟨m,hm⟩:∃ m,l[k]=m:=⟨_,rfl⟩
   rw[hm] at q0 q1 q2 q3 q4 q5 q6 q7 q8 hsz HT hc0
   have q0':wr.cell? ⟨g,k*9,none⟩=some (.int .i64 m.k):=q0
   simp only[mcell,List.getElem?_cons_succ,List.getElem?_cons_zero] at q1 q2 q3 q4 q5 q6 q7 q8
   have hkI:(k:Int)<(l.length:Int):=by omega
   have hkI0:(0:Int)≤(k:Int):=by omega
   have HD:Hid (An w wr A s l B (.slice (some ⟨g,0,none⟩) l.length cv) k):=D
   clear D hg hcell hm q0
   go_upto_region 3 with fail
   generalize hW:wr.alloc (.cells #[.int .i64 m.k,.int .i64 m.c,.int .i64 m.n,.int .i64 m.e,.int .i64 m.s,.int .i64 m.o,.int .i64 m.v,.bool m.l,.string m.d] 129)=w2
   have hb2:Below wr.heap.size wr w2:=by rw[← hW];exact(Below.refl _ _).alloc (Nat.le_refl _) _
   have hs2:wr.heap.size<w2.heap.size:=by rw[← hW];simp
   have hB2:MB w2 wr.heap.size m:=by rw[← hW];exact mbox_is wr m.k m.c m.n m.e m.s m.o m.v m.l m.d
   clear hW q0' q1 q2 q3 q4 q5 q6 q7 q8
   have b0:=hB2.c0
   have b1:=hB2.c1
   have b2:=hB2.c2
   have b3:=hB2.c3
   have b4:=hB2.c4
   have b5:=hB2.c5
   have b6:=hB2.c6
   have b7:=hB2.c7
   have b8:=hB2.c8
   have hlt2:wr.heap.size<w2.heap.size:=hs2
   have p0:=fun ob=>(World.cell?_alloc_lt w2 ob ⟨wr.heap.size,0,none⟩ hlt2).trans b0
   have p1:=fun ob=>(World.cell?_alloc_lt w2 ob ⟨wr.heap.size,1,none⟩ hlt2).trans b1
   have p2:=fun ob=>(World.cell?_alloc_lt w2 ob ⟨wr.heap.size,2,none⟩ hlt2).trans b2
   have p3:=fun ob=>(World.cell?_alloc_lt w2 ob ⟨wr.heap.size,3,none⟩ hlt2).trans b3
   have p4:=fun ob=>(World.cell?_alloc_lt w2 ob ⟨wr.heap.size,4,none⟩ hlt2).trans b4
   have p5:=fun ob=>(World.cell?_alloc_lt w2 ob ⟨wr.heap.size,5,none⟩ hlt2).trans b5
   have p6:=fun ob=>(World.cell?_alloc_lt w2 ob ⟨wr.heap.size,6,none⟩ hlt2).trans b6
   have p7:=fun ob=>(World.cell?_alloc_lt w2 ob ⟨wr.heap.size,7,none⟩ hlt2).trans b7
   have p8:=fun ob=>(World.cell?_alloc_lt w2 ob ⟨wr.heap.size,8,none⟩ hlt2).trans b8
   have hseat:=fun w=>seat_any m.c w hc0
   obtain⟨x1,x2⟩:=HD.out.wd.below hb2
   have hb3:Below w2.heap.size w2 (w2.alloc (.cells #[.int .i64 m.k,.int .i64 m.c,.int .i64 m.n,.int .i64 m.e,.int .i64 m.s,.int .i64 m.o,.int .i64 m.v,.bool m.l,.string m.d] 129)).drew:=((Below.refl _ _).alloc (Nat.le_refl _) _).drew
   obtain⟨x3,x4⟩:=x1.below hb3
   have hsend:=sendW_any A (s.tells (l.take k)) (seatN m.c:Nat) [m] w2.heap.size (.slice (some ⟨w2.heap.size,0,none⟩) 1 1) _ x3 (HasM.one w2 w2.heap.size m (Nat.le_refl _)) (by simp) (Small.one hsz)
   rw[send_one,← HT.out] at hsend
   have nxt:∀ w4,WdIs w4 A (s.tells (l.take (k+1)))→Fz A (s.tells (l.take k)) (w2.alloc (.cells #[.int .i64 m.k,.int .i64 m.c,.int .i64 m.n,.int .i64 m.e,.int .i64 m.s,.int .i64 m.o,.int .i64 m.v,.bool m.l,.string m.d] 129)).drew A (s.tells (l.take (k+1))) w4→An w w4 A s l B (.slice (some ⟨g,0,none⟩) l.length cv) (k+1):=fun w4 hW4 hZ4=>by
    have z:=(x2.trans x4).trans hZ4
    have hr:=HD.out.row
    refine⟨hW4,HD.out.fz.trans z,row_kept hr fun q hq=>z.block q (World.ownsRow.lt hr q hq).2 (HD.out.sep q hq) (fun e=>(row_isC hr hq).2.ne e (by decide) rfl),fun q hq f=>HD.out.sep q hq (z.grows q (World.ownsRow.lt hr q hq).2 f)⟩
   clear x1 x2 x3 x4 hb2 hb3 hB2 HD
   refine Gen.start (S:=fun w'=>w'.cell? ⟨wr.heap.size,0,none⟩=some (.int .i64 m.k)∧w'.cell? ⟨wr.heap.size,1,none⟩=some (.int .i64 m.c)∧w'.cell? ⟨wr.heap.size,2,none⟩=some (.int .i64 m.n)∧w'.cell? ⟨wr.heap.size,3,none⟩=some (.int .i64 m.e)∧w'.cell? ⟨wr.heap.size,4,none⟩=some (.int .i64 m.s)∧w'.cell? ⟨wr.heap.size,5,none⟩=some (.int .i64 m.o)∧w'.cell? ⟨wr.heap.size,6,none⟩=some (.int .i64 m.v)∧w'.cell? ⟨wr.heap.size,7,none⟩=some (.bool m.l)∧w'.cell? ⟨wr.heap.size,8,none⟩=some (.string m.d)) (by kernel_rfl) ⟨b0,b1,b2,b3,b4,b5,b6,b7,b8⟩ (fun hHeld=>?_)
   refine Gen.tk 0 6 ?_ rfl rfl (Or.inl ⟨by rfl,?_⟩) hHeld ?_;rotate_left
   ·rintro w' ⟨s0,s1,s2,s3,s4,s5,s6,s7,s8⟩;go_simp;try with_reducible rfl
   go_frame
   refine Gen.tk 1 2 ?_ rfl rfl (Or.inl ⟨by rfl,?_⟩) hHeld ?_;rotate_left
   ·rintro w' ⟨s0,s1,s2,s3,s4,s5,s6,s7,s8⟩;go_simp;try with_reducible rfl
   go_frame
   refine Gen.tk 2 3 ?_ rfl rfl (Or.inl ⟨by rfl,?_⟩) hHeld ?_;rotate_left
   ·rintro w' ⟨s0,s1,s2,s3,s4,s5,s6,s7,s8⟩;go_simp;try with_reducible rfl
   go_frame
   refine Gen.tk 4 5 ?_ rfl rfl (Or.inl ⟨by rfl,?_⟩) hHeld ?_;rotate_left
   ·rintro w' ⟨s0,s1,s2,s3,s4,s5,s6,s7,s8⟩;go_simp;try with_reducible rfl
   go_frame
   refine Gen.two (i:=3) (j:=5) (by kernel_rfl) rfl rfl rfl rfl (fun K hK=>?_) (fun K hK=>?_)
   ·go_simp
    refine(hseat _).mono ?_
    rintro e w3 ⟨rfl,hw3⟩
    rw[hw3]
    clear hw3
    dsimp only
    refine hK.out _ _ ⟨b0,b1,b2,b3,b4,b5,b6,b7,b8⟩ (fun hHeld=>?_)
    clear hK K
    try go_frame
    refine Gen.one (i:=5) (by kernel_rfl) rfl rfl (fun K hK=>?_)
    refine wp_oneMsg 16 rfl m rfl ?_
    refine hK.out _ _ ⟨p0 _,p1 _,p2 _,p3 _,p4 _,p5 _,p6 _,p7 _,p8 _⟩ (fun hHeld=>?_)
    clear hK K
    try go_frame
    refine Gen.last (i:=6) (by kernel_rfl) rfl rfl (by kernel_rfl) (by kernel_rfl) (fun K hK=>?_)
    go_simp
    refine hsend.mono ?_
    rintro e w4 ⟨rfl,hW4,hZ4⟩
    have HN:=nxt w4 hW4 hZ4
    dsimp only
    refine hK.out _ _ ?_
    clear hK K hHeld hW4 hZ4
    go_wp2_with fail
    go_roundw
    case rel=>exact⟨k+1,by omega,by go_num,HN⟩
    case measure=>simp[intOf];omega
   ·refine wp_oneMsg 16 rfl m rfl ?_
    refine hK.out _ _ ⟨p0 _,p1 _,p2 _,p3 _,p4 _,p5 _,p6 _,p7 _,p8 _⟩ (fun hHeld=>?_)
    clear hK K
    try go_frame
    refine Gen.one (i:=3) (by kernel_rfl) rfl rfl (fun K hK=>?_)
    go_simp
    refine(hseat _).mono ?_
    rintro e w3 ⟨rfl,hw3⟩
    rw[hw3]
    clear hw3
    dsimp only
    refine hK.out _ _ ⟨p0 _,p1 _,p2 _,p3 _,p4 _,p5 _,p6 _,p7 _,p8 _⟩ (fun hHeld=>?_)
    clear hK K
    try go_frame
    refine Gen.last (i:=6) (by kernel_rfl) rfl rfl (by kernel_rfl) (by kernel_rfl) (fun K hK=>?_)
    go_simp
    refine hsend.mono ?_
    rintro e w4 ⟨rfl,hW4,hZ4⟩
    have HN:=nxt w4 hW4 hZ4
    dsimp only
    refine hK.out _ _ ?_
    clear hK K hHeld hW4 hZ4
    go_wp2_with fail
    go_roundw
    case rel=>exact⟨k+1,by omega,by go_num,HN⟩
    case measure=>simp[intOf];omega
  ·obtain rfl:k=l.length:=by omega
   have wd:=D.wd
   have fz:=D.fz
   rw[List.take_length] at wd fz
   have hsv:(s.tells l).sv=some sv:=(tells_sv l s).trans hs
   have hdn:=down_any A.a sv wr (wd.up sv hsv).sv
   have srv:=wd.core.srv
   have hfr:=wd.core.free 12407
   rw[hsv] at srv
   unfold svP at srv
   have HDN:=wd.setDown
   cases hd:sv.down with
   | true=>
    rw[hd] at hdn
    have HF:Hid (WdIs (wr.setCell ⟨A.Q,12407,none⟩ (.pointer none)) A (s.tells l).fallen∧Fz A s w A (s.tells l).fallen (wr.setCell ⟨A.Q,12407,none⟩ (.pointer none))):=by
     have e:(s.tells l).fallen = { s.tells l with sv:=none }:=by
      unfold Wd.fallen
      rw[hsv]
      exact if_pos hd
     rw[e]
     exact⟨HDN.1,fz.trans HDN.2⟩
    clear D wd fz HDN HS0
    go_wp2_with fail
    refine hdn.mono ?_
    rintro e w2 ⟨rfl,rfl⟩
    go_wp2_with fail
    go_end0
    exact⟨rfl,HF.out⟩
   | false=>
    rw[hd] at hdn
    have HF:Hid (WdIs wr A (s.tells l).fallen∧Fz A s w A (s.tells l).fallen wr):=by
     have e:(s.tells l).fallen=s.tells l:=by
      unfold Wd.fallen
      rw[hsv]
      exact if_neg (by rw[hd];decide)
     rw[e]
     exact⟨wd,fz⟩
    clear D wd fz HDN HS0
    go_wp2_with fail
    refine hdn.mono ?_
    rintro e w2 ⟨rfl,rfl⟩
    go_wp2_with fail
    go_end0
    exact⟨rfl,HF.out⟩
theorem WdIs.evented{w w':World}{A:Wa}{s:Wd}(h:WdIs w A s){L:List Ev}{v':Value}(h1:w'.os=w.os)(h2:w'.tape=w.tape)(h3:w'.output=w.output)(hs:w.heap.size≤w'.heap.size)
  (hb:∀ k,k<w.heap.size→k≠A.Q→(∀ v,w.cell? ⟨A.Q,12410,none⟩=some v→v.ownBlock≠some k)→w'.heap[k]?=w.heap[k]?) (hc:∀ i,i≠12410→w'.cell? ⟨A.Q,i,none⟩=w.cell? ⟨A.Q,i,none⟩) (hf:∀ i,w'.frozen? ⟨A.Q,i,none⟩=w.frozen? ⟨A.Q,i,none⟩) (ht:isC w' A.Q 81)
  (hv:w'.cell? ⟨A.Q,12410,none⟩=some v') (hrow:w'.ownsRow (A.Q+1) 45 10 v' L.length (ecells L)) (hat:∀ g,v'.ownBlock=some g→g<w.heap.size→∃ v,w.cell? ⟨A.Q,12410,none⟩=some v∧v.ownBlock=some g) :
  WdIs w' A { s with events:=L }∧Fz A s w A { s with events:=L } w':=by
 have hlt:=h.lt
 obtain⟨kd0,kd1,kd2⟩:=h.kinds
 obtain⟨v0,hv0,hr0⟩:=h.evs
 have hbC:∀ k t,isC w k t→k≠A.Q→t≠45→w'.heap[k]?=w.heap[k]?:=fun k t hk hq ht=>hb k hk.lt hq fun v hv e=>by
  rw[hv0] at hv
  injection hv with hv
  subst hv
  exact hk.ne (row_isC hr0 e).2 ht rfl
 have hbM:∀ k,isM w k→k<w.heap.size→k≠A.Q→w'.heap[k]?=w.heap[k]?:=fun k hk hl hq=>hb k hl hq fun v hv e=>by
  rw[hv0] at hv
  injection hv with hv
  subst hv
  exact hk.ne (row_isC hr0 e).2 rfl
 have hG:=hbC A.G _ h.gt (Ne.symm kd0) (by decide)
 have hD:DiskIs w' A.Q s.rs s.fails s.left:=DiskIs.cells h.disk (fun i _ _=>hc i (by omega)) hf
 have hfoot:∀ v,s.sv=some v→∀ k,foot w A.a k→k≠A.a.q→w'.heap[k]?=w.heap[k]?:=fun v hv k hk hq=>by
  have u:=h.up v hv
  have hq':k≠A.Q:=by rw[← u.q];exact hq
  rcases u.sv.kind hk with f|f|f|f|f|f|f
  ·exact(hq f).elim
  ·exact hbM k (by rw[f];exact owns_isM u.sv.tab.own) (u.sv.footLt hk) hq'
  ·exact hbC k _ f hq' (by decide)
  ·exact hbC k _ f hq' (by decide)
  ·exact hbC k _ f hq' (by decide)
  ·exact hbC k _ f hq' (by decide)
  ·exact hbC k _ f hq' (by decide)
 have hN:NetIs w' (A.Q+1) A.Q (s.net.map encN):=NetIs.kept h.net hs (hc _ (by omega)) (hc _ (by omega)) hf fun v g hv hg=>by
  obtain⟨v',hv',hr⟩:=h.net.row
  rw[hv] at hv'
  injection hv' with hv'
  subst hv'
  exact hbC g _ (row_isC hr hg).2 (by have:=(row_isC hr hg).1;omega) (by decide)
 refine⟨⟨(h.core.cells ht (fun i _ hi=>hc i hi) hf).of rfl rfl rfl rfl rfl rfl rfl,hD,hN,⟨v',hv,hrow⟩,h.gt.same hG,fun i=>(World.frozen?_of_block (a:=⟨A.G,i,none⟩) hG).trans (h.gf i),fun j hj=>(h.seats j hj).same hG,
  fun j hj=>(h.cli j hj).blocks (hbC _ _ (h.cli j hj).isC (Ne.symm (kd1 j hj).1) (by decide)) (hbM _ (h.cli j hj).isM (h.cli j hj).lt.2 (Ne.symm (kd1 j hj).2.1)),h.ap,fun v hv=>?_,h.n1,h.n4⟩,
  ⟨h1,h2,h3,hs,fun k hk hf' _=>hb k hk (fun e=>hf' (.Q e)) (fun v hv e=>hf' (.ev v hv e)),fun k hk f=>?_,rfl⟩⟩
 ·have u:=h.up v hv
  exact⟨u.sv.feet hs (by rw[u.q,u.rs,u.fails,u.left];exact hD) (hfoot v hv),u.q,u.rs,u.fails,u.left,u.ne,u.to,u.tv⟩
 ·rcases f with f|f|⟨v,f1,f2⟩|⟨i,hi,f⟩|⟨i,hi,f⟩|⟨f1,f2⟩
  ·exact .Q f
  ·exact .G f
  ·rw[hv] at f1
   injection f1 with f1
   subst f1
   obtain⟨v,g1,g2⟩:=hat k f2 hk
   exact .ev v g1 g2
  ·exact .c i hi f
  ·exact .m i hi f
  ·obtain⟨v,hv⟩:=Option.isSome_iff_exists.1 f1
   have u:=h.up v hv
   have hl:=u.sv.lts
   exact .sv f1 ((foot_kept (hfoot v hv _ (.inr (.inr (.inr (.inl rfl)))) (by omega)) (hfoot v hv _ (.inr (.inr (.inl rfl))) (by omega)) k).1 f2)
theorem WdIs.seatSet{w:World}{A:Wa}{s:Wd}(h:WdIs w A s){i j:Nat}(hi:i<s.n)(hj:j<4){x:Value}{st:St}(hk:st.k=(s.seat i).k)(hS:SeatIs (w.setCell ⟨A.G,i*4+j,none⟩ x) A.G i (A.c i) st):WdIs (w.setCell ⟨A.G,i*4+j,none⟩ x) A { s with seat:=updN s.seat i st }∧Fz A s w A { s with seat:=updN s.seat i st } (w.setCell ⟨A.G,i*4+j,none⟩ x):=by
 have hlt:=h.lt
 obtain⟨kd0,kd1,kd2⟩:=h.kinds
 have hb:∀ k,k≠A.G→(w.setCell ⟨A.G,i*4+j,none⟩ x).heap[k]?=w.heap[k]?:=fun k hk=>Below.heap_setCell w ⟨A.G,i*4+j,none⟩ x k hk
 have hsz:(w.setCell ⟨A.G,i*4+j,none⟩ x).heap.size=w.heap.size:=by simp
 have hQ:=hb A.Q kd0
 have eQ:∀ i',(w.setCell ⟨A.G,i*4+j,none⟩ x).cell? ⟨A.Q,i',none⟩=w.cell? ⟨A.Q,i',none⟩:=fun i'=>World.cell?_of_block hQ
 have fQ:∀ i',(w.setCell ⟨A.G,i*4+j,none⟩ x).frozen? ⟨A.Q,i',none⟩=w.frozen? ⟨A.Q,i',none⟩:=fun i'=>World.frozen?_of_block hQ
 have hbC:∀ k t,isC w k t→t≠90→(w.setCell ⟨A.G,i*4+j,none⟩ x).heap[k]?=w.heap[k]?:=fun k t hk ht=>hb k (hk.ne h.gt ht)
 have hbM:∀ k,isM w k→(w.setCell ⟨A.G,i*4+j,none⟩ x).heap[k]?=w.heap[k]?:=fun k hk=>hb k (hk.ne h.gt)
 have hD:DiskIs (w.setCell ⟨A.G,i*4+j,none⟩ x) A.Q s.rs s.fails s.left:=DiskIs.cells h.disk (fun i _ _=>eQ i) fQ
 have hfoot:∀ v,s.sv=some v→∀ k,foot w A.a k→k≠A.a.q→(w.setCell ⟨A.G,i*4+j,none⟩ x).heap[k]?=w.heap[k]?:=fun v hv k hk hq=>by
  have u:=h.up v hv
  rcases u.sv.kind hk with f|f|f|f|f|f|f
  ·exact(hq f).elim
  ·exact hbM k (by rw[f];exact owns_isM u.sv.tab.own)
  ·exact hbC k _ f (by decide)
  ·exact hbC k _ f (by decide)
  ·exact hbC k _ f (by decide)
  ·exact hbC k _ f (by decide)
  ·exact hbC k _ f (by decide)
 have hN:NetIs (w.setCell ⟨A.G,i*4+j,none⟩ x) (A.Q+1) A.Q (s.net.map encN):=NetIs.kept h.net (by omega) (eQ _) (eQ _) fQ fun v g hv hg=>by
  obtain⟨v',hv',hr⟩:=h.net.row
  rw[hv] at hv'
  injection hv' with hv'
  subst hv'
  exact hbC g _ (row_isC hr hg).2 (by decide)
 refine⟨⟨(h.core.cells (h.core.typ.same hQ) (fun i _ _=>eQ i) fQ).of rfl rfl rfl rfl rfl rfl rfl,hD,hN,h.evs.imp fun v hv=>⟨(eQ _).trans hv.1,row_kept hv.2 fun g hg=>hbC g _ (row_isC hv.2 hg).2 (by decide)⟩,Wal.typ_setCell h.gt,fun i=>by rw[World.frozen?_setCell];exact h.gf i,fun l hl=>?_,fun l hl=>?_,h.ap,fun v hv=>?_,h.n1,h.n4⟩,
  ⟨rfl,rfl,rfl,by omega,fun k hk hf' _=>hb k (fun e=>hf' (.G e)),fun k hk f=>?_,rfl⟩⟩
 ·show SeatIs _ A.G l (A.c l) (updN s.seat i st l)
  unfold updN
  split
  ·rename_i e
   subst e
   exact hS
  ·rename_i e
   have q:=h.seats l hl
   have e':∀ p,p<4→(w.setCell ⟨A.G,i*4+j,none⟩ x).cell? ⟨A.G,l*4+p,none⟩=w.cell? ⟨A.G,l*4+p,none⟩:=fun p hp=>World.cell?_setCell_other _ _ _ _ (by intro q;injection q with _ q;omega)
   exact⟨(e' 0 (by omega)).trans q.c0,(e' 1 (by omega)).trans q.c1,(e' 2 (by omega)).trans q.c2,(e' 3 (by omega)).trans q.c3⟩
 ·show CliIs _ _ _ (updN s.seat i st l).k
  have key:(updN s.seat i st l).k=(s.seat l).k:=by
   unfold updN
   split
   ·rename_i e
    subst e
    exact hk
   ·rfl
  rw[key]
  exact(h.cli l hl).blocks (hbC _ _ (h.cli l hl).isC (by decide)) (hbM _ (h.cli l hl).isM)
 ·have u:=h.up v hv
  exact⟨u.sv.feet (by omega) (by rw[u.q,u.rs,u.fails,u.left];exact hD) (hfoot v hv),u.q,u.rs,u.fails,u.left,u.ne,u.to,u.tv⟩
 ·rcases f with f|f|⟨v,f1,f2⟩|⟨i',hi',f⟩|⟨i',hi',f⟩|⟨f1,f2⟩
  ·exact .Q f
  ·exact .G f
  ·exact .ev v ((eQ _).symm.trans f1) f2
  ·exact .c i' hi' f
  ·exact .m i' hi' f
  ·obtain⟨v,hv⟩:=Option.isSome_iff_exists.1 f1
   have u:=h.up v hv
   have hl:=u.sv.lts
   exact .sv f1 ((foot_kept (hfoot v hv _ (.inr (.inr (.inr (.inl rfl)))) (by omega)) (hfoot v hv _ (.inr (.inr (.inl rfl))) (by omega)) k).1 f2)
theorem WdIs.setCall{w:World}{A:Wa}{s:Wd}(h:WdIs w A s){i:Nat}(hi:i<s.n)(x:Int):WdIs (w.setCell ⟨A.G,i*4+3,none⟩ (.int .i64 x)) A { s with seat:=updN s.seat i { s.seat i with call:=x } }∧Fz A s w A { s with seat:=updN s.seat i { s.seat i with call:=x } } (w.setCell ⟨A.G,i*4+3,none⟩ (.int .i64 x)):=by
 have q:=h.seats i hi
 have e:∀ p,p<3→(w.setCell ⟨A.G,i*4+3,none⟩ (.int .i64 x)).cell? ⟨A.G,i*4+p,none⟩=w.cell? ⟨A.G,i*4+p,none⟩:=fun p hp=>World.cell?_setCell_other _ _ _ _ (by intro q;injection q with _ q;omega)
 exact h.seatSet hi (by omega) rfl ⟨(e 0 (by omega)).trans q.c0,(e 1 (by omega)).trans q.c1,(e 2 (by omega)).trans q.c2,World.cell?_setCell_same _ _ _ q.c3⟩
theorem WdIs.setSeatClock{w:World}{A:Wa}{s:Wd}(h:WdIs w A s){i:Nat}(hi:i<s.n)(x:Int):WdIs (w.setCell ⟨A.G,i*4+1,none⟩ (.int .i64 x)) A { s with seat:=updN s.seat i { s.seat i with clock:=x } }∧Fz A s w A { s with seat:=updN s.seat i { s.seat i with clock:=x } } (w.setCell ⟨A.G,i*4+1,none⟩ (.int .i64 x)):=by
 have q:=h.seats i hi
 have e:∀ p,p≠1→p<4→(w.setCell ⟨A.G,i*4+1,none⟩ (.int .i64 x)).cell? ⟨A.G,i*4+p,none⟩=w.cell? ⟨A.G,i*4+p,none⟩:=fun p h1 hp=>World.cell?_setCell_other _ _ _ _ (by intro q;injection q with _ q;omega)
 exact h.seatSet hi (by omega) rfl ⟨(e 0 (by omega) (by omega)).trans q.c0,World.cell?_setCell_same _ _ _ q.c1,(e 2 (by omega) (by omega)).trans q.c2,(e 3 (by omega) (by omega)).trans q.c3⟩
theorem ecell_length(e:Ev):(ecell e).length=10:=rfl
theorem ecells_length(l:List Ev):(ecells l).length=l.length*10:=by
 induction l with
 | nil=>rfl
 | cons e l ih=>
  have:ecells (e :: l)=ecell e++ecells l:=rfl
  rw[this,List.length_append,ih,ecell_length,List.length_cons]
  omega
theorem ecells_snoc(l:List Ev)(e:Ev):ecells (l++[e])=ecells l++ecell e:=by simp[ecells]
theorem ecells_get:∀ (l:List Ev) (i j:Nat) (h:i<l.length),j<10→(ecells l)[i*10+j]?=(ecell l[i])[j]?
 | e :: l,0,j,_,hj=>by
  have:ecells (e :: l)=ecell e++ecells l:=rfl
  rw[this,Nat.zero_mul,Nat.zero_add,List.getElem?_append_left (by rw[ecell_length];exact hj)]
  rfl
 | e :: l,i+1,j,h,hj=>by
  have:ecells (e :: l)=ecell e++ecells l:=rfl
  rw[this,List.getElem?_append_right (by rw[ecell_length];omega),ecell_length,show (i+1)*10+j-10=i*10+j by omega]
  exact ecells_get l i j (by simpa using h) hj
theorem ecells_turned{l:List Ev}{i:Nat}{e:Ev}{xs:List Value}(hi:i<l.length)(hl:xs.length=l.length*10)(h1:∀ j,j<10→xs[i*10+j]?=(ecell e)[j]?)(h2:∀ p,p / 10≠i→xs[p]?=(ecells l)[p]?):xs=ecells (l.set i e):=by
 apply List.ext_getElem?
 intro p
 by_cases hp:p<l.length*10
 ·obtain⟨a,b,hb,rfl⟩:∃ a b,b<10∧p=a*10+b:=⟨p / 10,p % 10,by omega,by omega⟩
  have ha:a<l.length:=by omega
  rw[ecells_get (l.set i e) a b (by simpa using ha) hb]
  by_cases hai:a=i
  ·subst hai
   rw[h1 b hb,List.getElem_set_self]
  ·rw[h2 _ (by omega),ecells_get l a b ha hb,List.getElem_set_ne (by omega)]
 ·rw[List.getElem?_eq_none (by omega),List.getElem?_eq_none (by rw[ecells_length,List.length_set];omega)]
theorem note_no(A:Wa)(s:Wd)(k:Nat)(w:World)(h:WdIs w A s)(hk:k<s.n)(hc:(s.seat k).call<0) :
  Calls Tryz.prog 73 #[tp A.Q,.int .i64 k] w fun e w'=>e = .returned (.tuple #[])∧WdIs w' A (s.note k)∧Fz A s w A (s.note k) w':=by
 have e:s.note k=s:=if_pos hc
 rw[e]
 have sts:=h.core.sts
 have c3:=(h.seats k hk).c3
 have n4:=h.n4
 have g1:decide ((s.seat k).call<0)=true:=decide_eq_true hc
 have hk0:(0:Int)≤(k:Int):=by omega
 have hkn:(k:Int)<(s.n:Int):=by omega
 have HW:Hid (WdIs w A s):=h
 clear h hc e
 go_enter Tryz.func73,Tryz.ntmps73
 go_wp2_with fail
 exact bodyPost_ret (v:=.tuple #[]) (by simp[results,Tryz.results73,go_sem]) rfl ⟨rfl,HW.out,Fz.refl _ _ _⟩
def kcells(k:K):List Value:=[.int .i64 k.kind,.int .i64 k.cob,.string k.d,.int .i64 k.ver,.bool k.over,.bool k.hit]
theorem kcells_one(k:K):(kcells k).toArray.all (·.oneCell')=true:=all_oneCell_toArray fun v hv=>by
 unfold kcells at hv
 simp only[List.mem_cons,List.not_mem_nil,or_false] at hv
 rcases hv with rfl|rfl|rfl|rfl|rfl|rfl<;>rfl
theorem info_call:(Tryz.prog.info? 43).map (·.size)=some 6:=by kernel_rfl
def lay:List Value→Nat→List Value→List Value
 | xs,_,[]=>xs
 | xs,o,v :: vs=>lay (xs.set o v) (o+1) vs
theorem row_lay{B:Nat}{e:TypeId}{size g n cap:Nat}:∀ (vs:List Value) (o:Nat) (w:World) (xs:List Value),w.ownsRow B e size (.slice (some ⟨g,0,none⟩) n cap) n xs→(w.setCells g o vs).ownsRow B e size (.slice (some ⟨g,0,none⟩) n cap) n (lay xs o vs)∧(w.setCells g o vs).heap.size=w.heap.size∧(∀ k,k≠g→(w.setCells g o vs).heap[k]?=w.heap[k]?)∧(w.setCells g o vs).os=w.os∧(w.setCells g o vs).tape=w.tape∧(w.setCells g o vs).output=w.output
 | [],_,w,xs,h=>⟨h,rfl,fun _ _=>rfl,rfl,rfl,rfl⟩
 | v :: vs,o,w,xs,h=>by
  obtain⟨h1,_⟩:=World.ownsRow.stored h o v
  obtain⟨k1,k2,k3,k4,k5,k6⟩:=row_lay vs (o+1) (w.setCell ⟨g,o,none⟩ v) _ h1
  rw[World.setCells]
  exact⟨k1,k2.trans (by simp),fun k hk=>(k3 k hk).trans (Below.heap_setCell w ⟨g,o,none⟩ v k hk),k4,k5,k6⟩
def Ev.with(e:Ev)(k:K):Ev:={ e with kind:=k.kind,obj:=k.cob,d:=k.d,ver:=k.ver,over:=k.over,hit:=k.hit }
theorem lay_len:∀ (vs:List Value) (o:Nat) (xs:List Value),(lay xs o vs).length=xs.length
 | [],_,_=>rfl
 | v :: vs,o,xs=>by rw[lay,lay_len vs,List.length_set]
theorem lay_out:∀ (vs:List Value) (o:Nat) (xs:List Value) (p:Nat),(p<o∨o+vs.length≤p)→(lay xs o vs)[p]?=xs[p]?
 | [],_,_,_,_=>rfl
 | v :: vs,o,xs,p,h=>by
  simp only[List.length_cons] at h
  rw[lay,lay_out vs (o+1) _ p (by omega),List.getElem?_set_ne (by omega)]
theorem lay_in:∀ (vs:List Value) (o:Nat) (xs:List Value) (j:Nat),j<vs.length→o+vs.length≤xs.length→(lay xs o vs)[o+j]?=vs[j]?
 | [],_,_,_,h,_=>by simp at h
 | v :: vs,o,xs,0,_,hl=>by
  simp only[List.length_cons] at hl
  rw[lay,lay_out vs (o+1) _ _ (by omega),Nat.add_zero,List.getElem?_set_self (by omega)]
  rfl
 | v :: vs,o,xs,j+1,h,hl=>by
  simp only[List.length_cons] at h hl
  rw[lay,show o+(j+1)=o+1+j by omega,lay_in vs (o+1) _ j (by omega) (by rw[List.length_set];omega)]
  rfl
theorem lay_call(l:List Ev)(c:Nat)(hc:c<l.length)(k:K):lay (ecells l) (c*10+1) (kcells k)=ecells (l.set c (l[c].with k)):=by
 have hl:=ecells_length l
 have hk:(kcells k).length=6:=rfl
 refine ecells_turned hc (by rw[lay_len,hl]) (fun j hj=>?_) (fun p hp=>lay_out _ _ _ _ (by omega))
 by_cases h1:1≤j∧j≤6
 ·obtain⟨i,rfl⟩:∃ i,j=i+1:=⟨j-1,by omega⟩
  rw[show c*10+(i+1)=c*10+1+i by omega,lay_in _ _ _ i (by omega) (by omega)]
  match i,h1 with
  | 0,_=>rfl
  | 1,_=>rfl
  | 2,_=>rfl
  | 3,_=>rfl
  | 4,_=>rfl
  | 5,_=>rfl
  | i+6,h=>omega
 ·rw[lay_out _ _ _ _ (by omega),ecells_get l c j hc hj]
  match j,hj,h1 with
  | 0,_,_=>rfl
  | 7,_,_=>rfl
  | 8,_,_=>rfl
  | 9,_,_=>rfl
  | 1,_,h=>omega
  | 2,_,h=>omega
  | 3,_,h=>omega
  | 4,_,h=>omega
  | 5,_,h=>omega
  | 6,_,h=>omega
theorem lay_end(l:List Ev)(c:Nat)(hc:c<l.length)(x:Int):(ecells l).set (c*10+8) (.int .i64 x)=ecells (l.set c { l[c] with ended:=x }):=by
 have hl:=ecells_length l
 refine ecells_turned hc (by rw[List.length_set,hl]) (fun j hj=>?_) (fun p hp=>List.getElem?_set_ne (by omega))
 by_cases h1:j=8
 ·subst h1
  rw[List.getElem?_set_self (by omega)]
  rfl
 ·rw[List.getElem?_set_ne (by omega),ecells_get l c j hc hj]
  match j,hj,h1 with
  | 0,_,_=>rfl
  | 1,_,_=>rfl
  | 2,_,_=>rfl
  | 3,_,_=>rfl
  | 4,_,_=>rfl
  | 5,_,_=>rfl
  | 6,_,_=>rfl
  | 7,_,_=>rfl
  | 9,_,_=>rfl
  | 8,_,h=>omega
theorem noted_with(e:Ev)(k:K)(x:Int):e.noted k x=if k.over=true then { e.with k with ended:=x } else e.with k:=by
 unfold Ev.noted Ev.with
 cases k.over<;>simp
theorem noted_mod(l:List Ev)(c:Nat)(hc:c<l.length)(k:K)(x:Int):l.modify c (fun e=>e.noted k x)=if k.over=true then (l.set c (l[c].with k)).set c { l[c].with k with ended:=x } else l.set c (l[c].with k):=by
 have key:l.modify c (fun e=>e.noted k x)=l.set c (l[c].noted k x):=by
  apply List.ext_getElem?
  intro i
  rw[List.getElem?_modify]
  by_cases hi:c=i
  ·subst hi
   rw[List.getElem?_set_self hc,List.getElem?_eq_getElem hc]
   simp
  ·rw[List.getElem?_set_ne hi]
   simp[hi]
 rw[key,noted_with]
 split
 ·rw[List.set_set]
 ·rfl
theorem note_yes(A:Wa)(s:Wd)(k c:Nat)(w:World)(h:WdIs w A s)(hk:k<s.n)(hc:(s.seat k).call=c)(hce:c<s.events.length) :
  Calls Tryz.prog 73 #[tp A.Q,.int .i64 k] w fun e w'=>e = .returned (.tuple #[])∧WdIs w' A (s.note k)∧Fz A s w A (s.note k) w':=by
 have sts:=h.core.sts
 have stp:=h.core.stp
 have c0:=(h.seats k hk).c0
 have c3:=(h.seats k hk).c3
 have n4:=h.n4
 have hk0:(0:Int)≤(k:Int):=by omega
 have hkn:(k:Int)<(s.n:Int):=by omega
 obtain⟨v,hv,hrow⟩:=h.evs
 obtain⟨ao,cp,hao,hcp,hcn⟩:=Net.row_shape hrow
 subst hao
 obtain⟨g,rfl⟩:∃ g,ao=some ⟨g,0,none⟩:=by
  rcases hrow.2 with ⟨e,h0⟩|⟨g,cap,cur,e,_⟩
  ·omega
  ·injection e with e
   exact⟨g,e⟩
 rw[hc] at c3
 have hc0:decide ((c:Int)<0)=false:=decide_eq_false (by omega)
 have hcI:(0:Int)≤(c:Int):=by omega
 have hcI2:(c:Int)<(s.events.length:Int):=by omega
 have hcall:=fun w h=>call_any (A.c k) (A.m k) (s.seat k).k w h
 have hcl:=h.cli k hk
 have HW:Hid (WdIs w A s):=h
 clear h hcp hcn
 go_enter Tryz.func73,Tryz.ntmps73
 go_wp2_with fail
 go_quiet (fail)
 go_wp2_with fail
 refine(hcall _ (hcl.drewN _)).mono ?_
 rintro e w2 ⟨rfl,hb2⟩
 have hb2':Below w.heap.size w w2:=⟨hb2.os,hb2.tape,hb2.output,hb2.size,hb2.block⟩
 obtain⟨x1,x2⟩:=HW.out.below hb2'
 have hrow2:=row_below hrow hb2'
 have hv2:=(World.cell?_of_block (a:=⟨A.Q,12410,none⟩) (hb2'.block A.Q HW.out.lt)).trans hv
 have stp2:=x1.core.stp
 have c32:=(x1.seats k hk).c3
 rw[hc] at c32
 have hgf:=World.ownsRow.frozenAt hrow2
 have hth:w2.there g (c*10+1) (kcells (s.seat k).k).toArray.size:=fun j hj=>by
  have hj':j<6:=hj
  refine⟨?_,hgf _⟩
  rw[World.ownsRow.cellAt hrow2 (c*10+1+j) (by omega),List.getElem?_eq_getElem (by rw[ecells_length];omega)]
  rfl
 obtain⟨r1,r2,r3,r4,r5,r6⟩:=row_lay (kcells (s.seat k).k) (c*10+1) w2 _ hrow2
 rw[lay_call s.events c hce] at r1
 obtain⟨w3,hw3⟩:∃ w3,w2.setCells g (c*10+1) (kcells (s.seat k).k)=w3:=⟨_,rfl⟩
 rw[hw3] at r1 r2 r3 r4 r5 r6
 obtain⟨L,hL⟩:∃ L,s.events.set c (s.events[c].with (s.seat k).k)=L:=⟨_,rfl⟩
 rw[hL] at r1
 have hgQ:g≠A.Q:=by
  have:=(row_isC hrow2 (g:=g) rfl).1
  omega
 have hl1:L.length=s.events.length:=by rw[← hL];simp
 have eQ3:=r3 A.Q (Ne.symm hgQ)
 have q1:∀ q,q<w2.heap.size→q≠A.Q→(∀ v,w2.cell? ⟨A.Q,12410,none⟩=some v→v.ownBlock≠some q)→w3.heap[q]?=w2.heap[q]?:=fun q hq hqQ hqv=>r3 q (fun e=>hqv _ hv2 (by rw[e];rfl))
 have q2:∀ i,i≠12410→w3.cell? ⟨A.Q,i,none⟩=w2.cell? ⟨A.Q,i,none⟩:=fun i _=>World.cell?_of_block eQ3
 have q3:∀ i,w3.frozen? ⟨A.Q,i,none⟩=w2.frozen? ⟨A.Q,i,none⟩:=fun i=>World.frozen?_of_block eQ3
 have q4:w3.cell? ⟨A.Q,12410,none⟩=some (.slice (some ⟨g,0,none⟩) s.events.length cp):=(World.cell?_of_block eQ3).trans hv2
 have q5:w3.ownsRow (A.Q+1) 45 10 (.slice (some ⟨g,0,none⟩) s.events.length cp) L.length (ecells L):=by rw[hl1];exact r1
 have q6:∀ q,(Value.slice (some ⟨g,0,none⟩) s.events.length cp).ownBlock=some q→q<w2.heap.size→∃ v,w2.cell? ⟨A.Q,12410,none⟩=some v∧v.ownBlock=some q:=fun q hq _=>⟨_,hv2,hq⟩
 obtain⟨Z1,Z2⟩:=WdIs.evented x1 r4 r5 r6 (by omega) q1 q2 q3 (x1.core.typ.same eQ3) q4 q5 q6
 have HZ:Hid (WdIs w3 A { s with events:=L }∧Fz A s w A { s with events:=L } w3):=⟨Z1,x2.trans Z2⟩
 have HV3:Hid (w3.cell? ⟨A.Q,12410,none⟩=some (.slice (some ⟨g,0,none⟩) s.events.length cp)):=q4
 have HROW:Hid (w3.ownsRow (A.Q+1) 45 10 (.slice (some ⟨g,0,none⟩) s.events.length cp) L.length (ecells L)):=q5
 have HL:Hid (s.events.set c (s.events[c].with (s.seat k).k)=L):=hL
 have hw3':Hid (w2.setCells g (c*10+1) (kcells (s.seat k).k)=w3):=hw3
 clear hcall hcl sts stp c0 c3 hv hrow hb2 q1 q2 q3 q6 Z1 Z2 r1 r2 r3 r4 r5 r6 hL hw3 eQ3
 have hcell3:∀ j,j<10→w3.cell? ⟨g,c*10+j,none⟩=(ecell ((s.events[c]).with (s.seat k).k))[j]?:=fun j hj=>by
  have hr:=HROW.out
  rw[hl1] at hr
  rw[World.ownsRow.cellAt hr (c*10+j) (by omega),ecells_get L c j (by omega) hj]
  have e:L[c]=(s.events[c]).with (s.seat k).k:=by
   have hL:=HL.out
   subst hL
   exact List.getElem_set_self _
  rw[e]
 have y5:w3.cell? ⟨g,c*10+1+4,none⟩=some (.bool (s.seat k).k.over):=hcell3 5 (by omega)
 have y8:w3.cell? ⟨g,c*10+8,none⟩=some (.int .i64 (s.events[c]).ended):=hcell3 8 (by omega)
 have hgf3:w3.frozen? ⟨g,c*10+8,none⟩=false:=by
  have hr:=HROW.out
  rw[hl1] at hr
  exact World.ownsRow.frozenAt hr _
 have stp3:=HZ.out.1.core.stp
 have d3:=(HZ.out.1.seats k hk).c3
 have fG:=HZ.out.1.gf (k*4+3)
 dsimp only at stp3 d3
 rw[hc] at d3
 have hgG:g≠A.G:=fun e=>by
  have hr:=HROW.out
  exact(row_isC hr (g:=g) rfl).2.ne HZ.out.1.gt (by decide) e
 clear hcell3 q4 q5 hgf stp2 c32 hrow2 hv2 hb2' x1 x2
 rw[show (s.seat k).k.callV = .agg (kcells (s.seat k).k).toArray from rfl]
 go_upto_region 4 with (refine wpList_store_mid rfl 43 (.tmp 33) (.tmp 31) rfl g (c*10+1) (kcells (s.seat k).k).toArray rfl rfl hth info_call (kcells_one _) ?_;rw[show (kcells (s.seat k).k).toArray.toList=kcells (s.seat k).k from rfl,hw3'.out])
 have hnote:Hid (s.note k = { s with events:=s.events.modify c fun e=>e.noted (s.seat k).k s.step,seat:=updN s.seat k { s.seat k with call:=if (s.seat k).k.over=true then -1 else (s.seat k).call } }):=by
  unfold Hid Wd.note
  rw[if_neg (by rw[hc];omega)]
  rw[show (s.seat k).call.toNat=c by rw[hc];rfl]
 have hmod:Hid (s.events.modify c (fun e=>e.noted (s.seat k).k s.step)=if (s.seat k).k.over=true then L.set c { (s.events[c]).with (s.seat k).k with ended:=s.step } else L):=by
  unfold Hid
  rw[noted_mod _ _ hce,HL.out]
 clear hth hw3'
 cases hov:(s.seat k).k.over with
 | true=>
  rw[hov] at y5
  have hr:=HROW.out
  rw[hl1] at hr
  obtain⟨r1,hg1⟩:=World.ownsRow.stored hr (c*10+8) (.int .i64 s.step)
  have hle:L[c]'(by omega)=(s.events[c]).with (s.seat k).k:=by
   have hL:=HL.out
   subst hL
   exact List.getElem_set_self _
  rw[lay_end L c (by omega),hle] at r1
  obtain⟨w4,hw4⟩:∃ w4,w3.setCell ⟨g,c*10+8,none⟩ (.int .i64 s.step)=w4:=⟨_,rfl⟩
  rw[hw4] at r1
  have b4:∀ q,q≠g→w4.heap[q]?=w3.heap[q]?:=fun q hq=>by rw[← hw4];exact Below.heap_setCell w3 ⟨g,c*10+8,none⟩ _ q hq
  have s4:w4.heap.size=w3.heap.size:=by rw[← hw4];simp
  have m4:w4.os=w3.os∧w4.tape=w3.tape∧w4.output=w3.output:=by rw[← hw4];exact⟨rfl,rfl,rfl⟩
  obtain⟨L2,hL2⟩:∃ L2,L.set c { (s.events[c]).with (s.seat k).k with ended:=s.step } = L2:=⟨_,rfl⟩
  rw[hL2] at r1
  have hl2:L2.length=s.events.length:=by rw[← hL2];simp[hl1]
  have X:=HZ.out.1
  have hv3:w3.cell? ⟨A.Q,12410,none⟩=some (.slice (some ⟨g,0,none⟩) s.events.length cp):=by
   exact HV3.out
  have eQ4:=b4 A.Q (Ne.symm hgQ)
  have q1:∀ q,q<w3.heap.size→q≠A.Q→(∀ v,w3.cell? ⟨A.Q,12410,none⟩=some v→v.ownBlock≠some q)→w4.heap[q]?=w3.heap[q]?:=fun q hq hqQ hqv=>b4 q (fun e=>hqv _ hv3 (by rw[e];rfl))
  have q2:∀ i,i≠12410→w4.cell? ⟨A.Q,i,none⟩=w3.cell? ⟨A.Q,i,none⟩:=fun i _=>World.cell?_of_block eQ4
  have q3:∀ i,w4.frozen? ⟨A.Q,i,none⟩=w3.frozen? ⟨A.Q,i,none⟩:=fun i=>World.frozen?_of_block eQ4
  have q4:w4.cell? ⟨A.Q,12410,none⟩=some (.slice (some ⟨g,0,none⟩) s.events.length cp):=(World.cell?_of_block eQ4).trans hv3
  have q5:w4.ownsRow (A.Q+1) 45 10 (.slice (some ⟨g,0,none⟩) s.events.length cp) L2.length (ecells L2):=by rw[hl2];exact r1
  have q6:∀ q,(Value.slice (some ⟨g,0,none⟩) s.events.length cp).ownBlock=some q→q<w3.heap.size→∃ v,w3.cell? ⟨A.Q,12410,none⟩=some v∧v.ownBlock=some q:=fun q hq _=>⟨_,hv3,hq⟩
  obtain⟨Z1,Z2⟩:=WdIs.evented X m4.1 m4.2.1 m4.2.2 (by omega) q1 q2 q3 (X.core.typ.same eQ4) q4 q5 q6
  obtain⟨Z3,Z4⟩:=Z1.setCall hk (-1)
  have HF:Hid (WdIs (w4.setCell ⟨A.G,k*4+3,none⟩ (.int .i64 (-1))) A (s.note k)∧Fz A s w A (s.note k) (w4.setCell ⟨A.G,k*4+3,none⟩ (.int .i64 (-1)))):=by
   have e:s.note k = { s with events:=L2,seat:=updN s.seat k { s.seat k with call:=-1 } }:=by
    rw[hnote.out,hmod.out,if_pos hov,if_pos hov,hL2]
   rw[e]
   exact⟨Z3,(HZ.out.2.trans Z2).trans Z4⟩
  have HW4:Hid (w3.setCell ⟨g,c*10+8,none⟩ (.int .i64 s.step)=w4):=hw4
  clear q1 q2 q3 q4 q5 q6 Z1 Z2 Z3 Z4 X hv3 eQ4 hr r1 hg1 hle b4 s4 m4 hw4 hL2 hl2 hnote hmod HROW HZ HW
  go_wp2_with fail
  go_end0
  have hw4:=HW4.out
  subst hw4
  exact⟨rfl,HF.out⟩
 | false=>
  rw[hov] at y5
  have HF:Hid (WdIs w3 A (s.note k)∧Fz A s w A (s.note k) w3):=by
   have e:s.note k = { s with events:=L }:=by
    rw[hnote.out,hmod.out,if_neg (by rw[hov];decide),if_neg (by rw[hov];decide)]
    have:updN s.seat k { s.seat k with call:=(s.seat k).call } = s.seat:=by
     funext j
     unfold updN
     split
     ·rename_i e;rw[e]
     ·rfl
    rw[this]
   rw[e]
   exact HZ.out
  clear hnote hmod HROW HZ HW
  go_wp2_with fail
  go_end0
  exact⟨rfl,HF.out⟩
theorem note_any(A:Wa)(s:Wd)(k:Nat)(w:World)(h:WdIs w A s)(hk:k<s.n)(h1:(s.seat k).call<s.events.length) :
  Calls Tryz.prog 73 #[tp A.Q,.int .i64 k] w fun e w'=>e = .returned (.tuple #[])∧WdIs w' A (s.note k)∧Fz A s w A (s.note k) w':=by
 by_cases hc:(s.seat k).call<0
 ·exact note_no A s k w h hk hc
 ·exact note_yes A s k (s.seat k).call.toNat w h hk (by omega) (by omega)
end Wld
end
end Go.Proofs.YtbebfliimjjohabGreatDoor
