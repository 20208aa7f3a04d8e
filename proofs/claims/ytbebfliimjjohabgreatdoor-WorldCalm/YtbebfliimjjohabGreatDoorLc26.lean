/- Parts of the proof. -/
import Derived.Test.YtbebfliimjjohabGreatDoorLc25
import Derived.Maps.RangeWalk
set_option maxRecDepth 100000
set_option maxHeartbeats 8000000
namespace Go.Proofs.YtbebfliimjjohabGreatDoor
section
namespace Wld
open Go.RowKit Go.Maps
open Lease (Ob I64 upd TabIs hol dels objB HasI zaj zaw)
open Cache (tp zab zac)
open Wal (R WalIs zzb Oq Fw rcells)
open Num (M okB strOf)
open Net (NetIs Only pcells)
theorem zkn{o:Oper}{a:Act}{w:World}{K:Act->World->Prop}{Q:Exit->Act->World->Prop}(t:Nat)(ho:o.op = .buildSlice 141 1 #[(0,.tmp t)])(m:M)(ht:a.eval (.tmp t)=Wire.M.agg m)
  (h:K (a.put o.dst (.slice (some ⟨w.heap.size,0,none⟩) 1 1)) (w.alloc (.cells #[.int .i64 m.k,.int .i64 m.c,.int .i64 m.n,.int .i64 m.e,.int .i64 m.s,.int .i64 m.o,.int .i64 m.v,.bool m.l,.string m.d] 129))):o.wp Tryz.prog a w K Q:=by
 obtain⟨i0,hi,hy0,hy1,hy2⟩:=info_parts zbc
 refine wp_buildSlice 141 129 1 _ ho _ i0 _ Tryz.underlying141 hi hy0 (by rw[hy1];decide) (by rw[hy1];decide) ?_ h
 rw[hy1]
 simp only[List.map_toArray,List.map_cons,List.map_nil,ht]
 exact zl5 m
structure An(w wr:World)(A:Wa)(s:Wd)(l:List M)(B:Nat)(v:Value)(k:Nat):Prop where
 wd:WdIs wr A (s.tells (l.take k))
 fz:Fz A s w A (s.tells (l.take k)) wr
 row:HasM wr B v l
 sep:∀ g,v.ownBlock=some g->¬ wfoot wr A (s.tells (l.take k)) g
theorem zqk(s:Wd)(l:List M)(k:Nat)(h:k<l.length):s.tells (l.take (k+1))=(s.tells (l.take k)).put (zy8 l[k].c:Nat) l[k]:=by
 unfold Wd.tells
 rw[List.take_succ_eq_append_getElem h,List.foldl_append]
 rfl
theorem zv8(s:Wd)(t:Int)(m:M):s.send t [m]=s.put t m:=rfl
theorem zmk:∀ (l:List M) (s:Wd),(s.tells l).sv=s.sv
 | [],s=>rfl
 | m :: l,s=>by
  show ((s.put _ m).tells l).sv=s.sv
  rw[zmk l]
  unfold Wd.put
  split<;>rfl
theorem zh2(A:Wa)(s:Wd)(sv:Sv)(l:List M)(B:Nat)(v:Value)(w:World)(h:WdIs w A s)(hs:s.sv=some sv)(hl:HasM w B v l)(hsep:∀ g,v.ownBlock=some g->¬ wfoot w A s g)(hll:l.length<=200)(hsm:Small l)(hc:∀ m∈l,0<=m.c) :
  Calls Tryz.prog 71 #[tp A.Q,v] w fun e w'=>e = .returned (.tuple #[])/\WdIs w' A (s.tells l).fallen/\Fz A s w A (s.tells l).fallen w':=by
 obtain⟨av,cv,hav,hcv,hcn⟩:=Net.zaf hl
 subst hav
 have HS0:Hid (An w w A s l B (.slice av l.length cv) 0):=⟨h,Fz.refl _ _ _,hl,hsep⟩
 clear h hl hcv hsep
 go_enter Tryz.func71,Tryz.ntmps71
 go_wp2_with fail
 go_loopw [8] (fun i wr=>∃ k:Nat,k<=l.length/\i = .int .i64 k/\An w wr A s l B (.slice av l.length cv) k) (fun i _=>l.length-(intOf i).toNat)
 case atStart=>exact⟨0,by omega,rfl,HS0.out⟩
 case round=>
  obtain⟨k,hk,rfl,D⟩:=hrel
  by_cases hlt:k<l.length
  ·obtain⟨ao,c,hao,hg⟩:=D.row.at
   obtain⟨g,hge,hgB,hgs,hcell⟩:=hg (by omega)
   injection hao with hao _ hcc
   subst hao
   subst hcc
   subst hge
   have HT:Hid (s.tells (l.take (k+1))=(s.tells (l.take k)).put (zy8 l[k].c:Nat) l[k]):=zqk s l k hlt
   have hsz:=hsm l[k] (List.getElem_mem hlt)
   have hc0:=hc l[k] (List.getElem_mem hlt)
   have q0:=hcell k 0 hlt (by omega)
   have q1:=hcell k 1 hlt (by omega)
   have q2:=hcell k 2 hlt (by omega)
   have q3:=hcell k 3 hlt (by omega)
   have q4:=hcell k 4 hlt (by omega)
   have q5:=hcell k 5 hlt (by omega)
   have q6:=hcell k 6 hlt (by omega)
   have q7:=hcell k 7 hlt (by omega)
   have q8:=hcell k 8 hlt (by omega)
   obtain⟨m,hm⟩:∃ m,l[k]=m:=⟨_,rfl⟩
   rw[hm] at q0 q1 q2 q3 q4 q5 q6 q7 q8 hsz HT hc0
   have q0':wr.cell? ⟨g,k*9,none⟩=some (.int .i64 m.k):=q0
   simp only[mcell,List.getElem?_cons_succ,List.getElem?_cons_zero] at q1 q2 q3 q4 q5 q6 q7 q8
   have hkI:(k:Int)<(l.length:Int):=by omega
   have hkI0:(0:Int)<=(k:Int):=by omega
   have HD:Hid (An w wr A s l B (.slice (some ⟨g,0,none⟩) l.length cv) k):=D
   clear D hg hcell hm q0
   go_upto_region 3 with fail
   generalize hW:wr.alloc (.cells #[.int .i64 m.k,.int .i64 m.c,.int .i64 m.n,.int .i64 m.e,.int .i64 m.s,.int .i64 m.o,.int .i64 m.v,.bool m.l,.string m.d] 129)=w2
   have hb2:Below wr.heap.size wr w2:=by rw[<- hW];exact(Below.refl _ _).alloc (Nat.le_refl _) _
   have hs2:wr.heap.size<w2.heap.size:=by rw[<- hW];simp
   have hB2:MB w2 wr.heap.size m:=by rw[<- hW];exact zan wr m.k m.c m.n m.e m.s m.o m.v m.l m.d
   clear hW q0' q1 q2 q3 q4 q5 q6 q7 q8
   have b0:=hB2.c0
   have b1:=hB2.c1
   have b2:=hB2.c2
   have b3:=hB2.c3
   have b4:=hB2.c4
   have b5:=hB2.c5
   have b6:=hB2.c6
   have b7:=hB2.c7
   have b8:=hB2.c8
   have hlt2:wr.heap.size<w2.heap.size:=hs2
   have p0:=fun ob=>(World.cell?_alloc_lt w2 ob ⟨wr.heap.size,0,none⟩ hlt2).trans b0
   have p1:=fun ob=>(World.cell?_alloc_lt w2 ob ⟨wr.heap.size,1,none⟩ hlt2).trans b1
   have p2:=fun ob=>(World.cell?_alloc_lt w2 ob ⟨wr.heap.size,2,none⟩ hlt2).trans b2
   have p3:=fun ob=>(World.cell?_alloc_lt w2 ob ⟨wr.heap.size,3,none⟩ hlt2).trans b3
   have p4:=fun ob=>(World.cell?_alloc_lt w2 ob ⟨wr.heap.size,4,none⟩ hlt2).trans b4
   have p5:=fun ob=>(World.cell?_alloc_lt w2 ob ⟨wr.heap.size,5,none⟩ hlt2).trans b5
   have p6:=fun ob=>(World.cell?_alloc_lt w2 ob ⟨wr.heap.size,6,none⟩ hlt2).trans b6
   have p7:=fun ob=>(World.cell?_alloc_lt w2 ob ⟨wr.heap.size,7,none⟩ hlt2).trans b7
   have p8:=fun ob=>(World.cell?_alloc_lt w2 ob ⟨wr.heap.size,8,none⟩ hlt2).trans b8
   have hseat:=fun w=>zb9 m.c w hc0
   obtain⟨x1,x2⟩:=HD.out.wd.below hb2
   have hb3:Below w2.heap.size w2 (w2.alloc (.cells #[.int .i64 m.k,.int .i64 m.c,.int .i64 m.n,.int .i64 m.e,.int .i64 m.s,.int .i64 m.o,.int .i64 m.v,.bool m.l,.string m.d] 129)).drew:=((Below.refl _ _).alloc (Nat.le_refl _) _).drew
   obtain⟨x3,x4⟩:=x1.below hb3
   have hsend:=zgv A (s.tells (l.take k)) (zy8 m.c:Nat) [m] w2.heap.size (.slice (some ⟨w2.heap.size,0,none⟩) 1 1) _ x3 (HasM.one w2 w2.heap.size m (Nat.le_refl _)) (by simp) (Small.one hsz)
   rw[zv8,<- HT.out] at hsend
   have nxt:∀ w4,WdIs w4 A (s.tells (l.take (k+1)))->Fz A (s.tells (l.take k)) (w2.alloc (.cells #[.int .i64 m.k,.int .i64 m.c,.int .i64 m.n,.int .i64 m.e,.int .i64 m.s,.int .i64 m.o,.int .i64 m.v,.bool m.l,.string m.d] 129)).drew A (s.tells (l.take (k+1))) w4->An w w4 A s l B (.slice (some ⟨g,0,none⟩) l.length cv) (k+1):=fun w4 hW4 hZ4=>by
    have z:=(x2.trans x4).trans hZ4
    have hr:=HD.out.row
    refine⟨hW4,HD.out.fz.trans z,zab hr fun q hq=>z.block q (World.ownsRow.lt hr q hq).2 (HD.out.sep q hq) (fun e=>(zah hr hq).2.ne e (by decide) rfl),fun q hq f=>HD.out.sep q hq (z.grows q (World.ownsRow.lt hr q hq).2 f)⟩
   clear x1 x2 x3 x4 hb2 hb3 hB2 HD
   refine Gen.start (S:=fun w'=>w'.cell? ⟨wr.heap.size,0,none⟩=some (.int .i64 m.k)/\w'.cell? ⟨wr.heap.size,1,none⟩=some (.int .i64 m.c)/\w'.cell? ⟨wr.heap.size,2,none⟩=some (.int .i64 m.n)/\w'.cell? ⟨wr.heap.size,3,none⟩=some (.int .i64 m.e)/\w'.cell? ⟨wr.heap.size,4,none⟩=some (.int .i64 m.s)/\w'.cell? ⟨wr.heap.size,5,none⟩=some (.int .i64 m.o)/\w'.cell? ⟨wr.heap.size,6,none⟩=some (.int .i64 m.v)/\w'.cell? ⟨wr.heap.size,7,none⟩=some (.bool m.l)/\w'.cell? ⟨wr.heap.size,8,none⟩=some (.string m.d)) (by kernel_rfl) ⟨b0,b1,b2,b3,b4,b5,b6,b7,b8⟩ (fun zzg=>?_)
   refine Gen.tk 0 6 ?_ rfl rfl (Or.inl ⟨by rfl,?_⟩) zzg ?_;rotate_left
   ·rintro w' ⟨s0,s1,s2,s3,s4,s5,s6,s7,s8⟩;go_simp;try with_reducible rfl
   go_frame
   refine Gen.tk 1 2 ?_ rfl rfl (Or.inl ⟨by rfl,?_⟩) zzg ?_;rotate_left
   ·rintro w' ⟨s0,s1,s2,s3,s4,s5,s6,s7,s8⟩;go_simp;try with_reducible rfl
   go_frame
   refine Gen.tk 2 3 ?_ rfl rfl (Or.inl ⟨by rfl,?_⟩) zzg ?_;rotate_left
   ·rintro w' ⟨s0,s1,s2,s3,s4,s5,s6,s7,s8⟩;go_simp;try with_reducible rfl
   go_frame
   refine Gen.tk 4 5 ?_ rfl rfl (Or.inl ⟨by rfl,?_⟩) zzg ?_;rotate_left
   ·rintro w' ⟨s0,s1,s2,s3,s4,s5,s6,s7,s8⟩;go_simp;try with_reducible rfl
   go_frame
   refine Gen.two (i:=3) (j:=5) (by kernel_rfl) rfl rfl rfl rfl (fun K hK=>?_) (fun K hK=>?_)
   ·go_simp
    refine(hseat _).mono ?_
    rintro e w3 ⟨rfl,hw3⟩
    rw[hw3]
    clear hw3
    dsimp only
    refine hK.out _ _ ⟨b0,b1,b2,b3,b4,b5,b6,b7,b8⟩ (fun zzg=>?_)
    clear hK K
    try go_frame
    refine Gen.one (i:=5) (by kernel_rfl) rfl rfl (fun K hK=>?_)
    refine zkn 16 rfl m rfl ?_
    refine hK.out _ _ ⟨p0 _,p1 _,p2 _,p3 _,p4 _,p5 _,p6 _,p7 _,p8 _⟩ (fun zzg=>?_)
    clear hK K
    try go_frame
    refine Gen.last (i:=6) (by kernel_rfl) rfl rfl (by kernel_rfl) (by kernel_rfl) (fun K hK=>?_)
    go_simp
    refine hsend.mono ?_
    rintro e w4 ⟨rfl,hW4,hZ4⟩
    have HN:=nxt w4 hW4 hZ4
    dsimp only
    refine hK.out _ _ ?_
    clear hK K zzg hW4 hZ4
    go_wp2_with fail
    go_roundw
    case rel=>exact⟨k+1,by omega,by go_num,HN⟩
    case measure=>simp[intOf];omega
   ·refine zkn 16 rfl m rfl ?_
    refine hK.out _ _ ⟨p0 _,p1 _,p2 _,p3 _,p4 _,p5 _,p6 _,p7 _,p8 _⟩ (fun zzg=>?_)
    clear hK K
    try go_frame
    refine Gen.one (i:=3) (by kernel_rfl) rfl rfl (fun K hK=>?_)
    go_simp
    refine(hseat _).mono ?_
    rintro e w3 ⟨rfl,hw3⟩
    rw[hw3]
    clear hw3
    dsimp only
    refine hK.out _ _ ⟨p0 _,p1 _,p2 _,p3 _,p4 _,p5 _,p6 _,p7 _,p8 _⟩ (fun zzg=>?_)
    clear hK K
    try go_frame
    refine Gen.last (i:=6) (by kernel_rfl) rfl rfl (by kernel_rfl) (by kernel_rfl) (fun K hK=>?_)
    go_simp
    refine hsend.mono ?_
    rintro e w4 ⟨rfl,hW4,hZ4⟩
    have HN:=nxt w4 hW4 hZ4
    dsimp only
    refine hK.out _ _ ?_
    clear hK K zzg hW4 hZ4
    go_wp2_with fail
    go_roundw
    case rel=>exact⟨k+1,by omega,by go_num,HN⟩
    case measure=>simp[intOf];omega
  ·obtain rfl:k=l.length:=by omega
   have wd:=D.wd
   have fz:=D.fz
   rw[List.take_length] at wd fz
   have hsv:(s.tells l).sv=some sv:=(zmk l s).trans hs
   have hdn:=zbu A.a sv wr (wd.up sv hsv).sv
   have srv:=wd.core.srv
   have hfr:=wd.core.free 12407
   rw[hsv] at srv
   unfold svP at srv
   have HDN:=wd.setDown
   cases hd:sv.down with
   | true=>
    rw[hd] at hdn
    have HF:Hid (WdIs (wr.setCell ⟨A.Q,12407,none⟩ (.pointer none)) A (s.tells l).fallen/\Fz A s w A (s.tells l).fallen (wr.setCell ⟨A.Q,12407,none⟩ (.pointer none))):=by
     have e:(s.tells l).fallen = { s.tells l with sv:=none }:=by
      unfold Wd.fallen
      rw[hsv]
      exact if_pos hd
     rw[e]
     exact⟨HDN.1,fz.trans HDN.2⟩
    clear D wd fz HDN HS0
    go_wp2_with fail
    refine hdn.mono ?_
    rintro e w2 ⟨rfl,rfl⟩
    go_wp2_with fail
    go_end0
    exact⟨rfl,HF.out⟩
   | false=>
    rw[hd] at hdn
    have HF:Hid (WdIs wr A (s.tells l).fallen/\Fz A s w A (s.tells l).fallen wr):=by
     have e:(s.tells l).fallen=s.tells l:=by
      unfold Wd.fallen
      rw[hsv]
      exact if_neg (by rw[hd];decide)
     rw[e]
     exact⟨wd,fz⟩
    clear D wd fz HDN HS0
    go_wp2_with fail
    refine hdn.mono ?_
    rintro e w2 ⟨rfl,rfl⟩
    go_wp2_with fail
    go_end0
    exact⟨rfl,HF.out⟩
theorem WdIs.evented{w w':World}{A:Wa}{s:Wd}(h:WdIs w A s){L:List Ev}{v':Value}(h1:w'.os=w.os)(h2:w'.tape=w.tape)(h3:w'.output=w.output)(hs:w.heap.size<=w'.heap.size)
  (hb:∀ k,k<w.heap.size->k≠A.Q->(∀ v,w.cell? ⟨A.Q,12410,none⟩=some v->v.ownBlock≠some k)->w'.heap[k]?=w.heap[k]?) (hc:∀ i,i≠12410->w'.cell? ⟨A.Q,i,none⟩=w.cell? ⟨A.Q,i,none⟩) (hf:∀ i,w'.frozen? ⟨A.Q,i,none⟩=w.frozen? ⟨A.Q,i,none⟩) (ht:isC w' A.Q 81)
  (hv:w'.cell? ⟨A.Q,12410,none⟩=some v') (hrow:w'.ownsRow (A.Q+1) 45 10 v' L.length (ecells L)) (hat:∀ g,v'.ownBlock=some g->g<w.heap.size->∃ v,w.cell? ⟨A.Q,12410,none⟩=some v/\v.ownBlock=some g) :
  WdIs w' A { s with events:=L }/\Fz A s w A { s with events:=L } w':=by
 have hlt:=h.lt
 obtain⟨kd0,kd1,kd2⟩:=h.kinds
 obtain⟨v0,hv0,hr0⟩:=h.evs
 have hbC:∀ k t,isC w k t->k≠A.Q->t≠45->w'.heap[k]?=w.heap[k]?:=fun k t hk hq ht=>hb k hk.lt hq fun v hv e=>by
  rw[hv0] at hv
  injection hv with hv
  subst hv
  exact hk.ne (zah hr0 e).2 ht rfl
 have hbM:∀ k,isM w k->k<w.heap.size->k≠A.Q->w'.heap[k]?=w.heap[k]?:=fun k hk hl hq=>hb k hl hq fun v hv e=>by
  rw[hv0] at hv
  injection hv with hv
  subst hv
  exact hk.ne (zah hr0 e).2 rfl
 have hG:=hbC A.G _ h.gt (Ne.symm kd0) (by decide)
 have hD:zzb w' A.Q s.rs s.fails s.left:=zzb.cells h.disk (fun i _ _=>hc i (by omega)) hf
 have hfoot:∀ v,s.sv=some v->∀ k,foot w A.a k->k≠A.a.q->w'.heap[k]?=w.heap[k]?:=fun v hv k hk hq=>by
  have u:=h.up v hv
  have hq':k≠A.Q:=by rw[<- u.q];exact hq
  rcases u.sv.kind hk with f|f|f|f|f|f|f
  ·exact(hq f).elim
  ·exact hbM k (by rw[f];exact zcw u.sv.tab.own) (u.sv.footLt hk) hq'
  ·exact hbC k _ f hq' (by decide)
  ·exact hbC k _ f hq' (by decide)
  ·exact hbC k _ f hq' (by decide)
  ·exact hbC k _ f hq' (by decide)
  ·exact hbC k _ f hq' (by decide)
 have hN:NetIs w' (A.Q+1) A.Q (s.net.map encN):=NetIs.kept h.net hs (hc _ (by omega)) (hc _ (by omega)) hf fun v g hv hg=>by
  obtain⟨v',hv',hr⟩:=h.net.row
  rw[hv] at hv'
  injection hv' with hv'
  subst hv'
  exact hbC g _ (zah hr hg).2 (by have:=(zah hr hg).1;omega) (by decide)
 refine⟨⟨(h.core.cells ht (fun i _ hi=>hc i hi) hf).of rfl rfl rfl rfl rfl rfl rfl,hD,hN,⟨v',hv,hrow⟩,h.gt.same hG,fun i=>(World.frozen?_of_block (a:=⟨A.G,i,none⟩) hG).trans (h.gf i),fun j hj=>(h.seats j hj).same hG,
  fun j hj=>(h.cli j hj).blocks (hbC _ _ (h.cli j hj).isC (Ne.symm (kd1 j hj).1) (by decide)) (hbM _ (h.cli j hj).isM (h.cli j hj).lt.2 (Ne.symm (kd1 j hj).2.1)),h.ap,fun v hv=>?_,h.n1,h.n4⟩,
  ⟨h1,h2,h3,hs,fun k hk hf' _=>hb k hk (fun e=>hf' (.Q e)) (fun v hv e=>hf' (.ev v hv e)),fun k hk f=>?_,rfl⟩⟩
 ·have u:=h.up v hv
  exact⟨u.sv.feet hs (by rw[u.q,u.rs,u.fails,u.left];exact hD) (hfoot v hv),u.q,u.rs,u.fails,u.left,u.ne,u.to,u.tv⟩
 ·rcases f with f|f|⟨v,f1,f2⟩|⟨i,hi,f⟩|⟨i,hi,f⟩|⟨f1,f2⟩
  ·exact .Q f
  ·exact .G f
  ·rw[hv] at f1
   injection f1 with f1
   subst f1
   obtain⟨v,g1,g2⟩:=hat k f2 hk
   exact .ev v g1 g2
  ·exact .c i hi f
  ·exact .m i hi f
  ·obtain⟨v,hv⟩:=Option.isSome_iff_exists.1 f1
   have u:=h.up v hv
   have hl:=u.sv.lts
   exact .sv f1 ((za4 (hfoot v hv _ (.inr (.inr (.inr (.inl rfl)))) (by omega)) (hfoot v hv _ (.inr (.inr (.inl rfl))) (by omega)) k).1 f2)
theorem WdIs.seatSet{w:World}{A:Wa}{s:Wd}(h:WdIs w A s){i j:Nat}(hi:i<s.n)(hj:j<4){x:Value}{st:St}(hk:st.k=(s.seat i).k)(hS:SeatIs (w.setCell ⟨A.G,i*4+j,none⟩ x) A.G i (A.c i) st):WdIs (w.setCell ⟨A.G,i*4+j,none⟩ x) A { s with seat:=zy9 s.seat i st }/\Fz A s w A { s with seat:=zy9 s.seat i st } (w.setCell ⟨A.G,i*4+j,none⟩ x):=by
 have hlt:=h.lt
 obtain⟨kd0,kd1,kd2⟩:=h.kinds
 have hb:∀ k,k≠A.G->(w.setCell ⟨A.G,i*4+j,none⟩ x).heap[k]?=w.heap[k]?:=fun k hk=>Below.heap_setCell w ⟨A.G,i*4+j,none⟩ x k hk
 have hsz:(w.setCell ⟨A.G,i*4+j,none⟩ x).heap.size=w.heap.size:=by simp
 have hQ:=hb A.Q kd0
 have eQ:∀ i',(w.setCell ⟨A.G,i*4+j,none⟩ x).cell? ⟨A.Q,i',none⟩=w.cell? ⟨A.Q,i',none⟩:=fun i'=>World.cell?_of_block hQ
 have fQ:∀ i',(w.setCell ⟨A.G,i*4+j,none⟩ x).frozen? ⟨A.Q,i',none⟩=w.frozen? ⟨A.Q,i',none⟩:=fun i'=>World.frozen?_of_block hQ
 have hbC:∀ k t,isC w k t->t≠90->(w.setCell ⟨A.G,i*4+j,none⟩ x).heap[k]?=w.heap[k]?:=fun k t hk ht=>hb k (hk.ne h.gt ht)
 have hbM:∀ k,isM w k->(w.setCell ⟨A.G,i*4+j,none⟩ x).heap[k]?=w.heap[k]?:=fun k hk=>hb k (hk.ne h.gt)
 have hD:zzb (w.setCell ⟨A.G,i*4+j,none⟩ x) A.Q s.rs s.fails s.left:=zzb.cells h.disk (fun i _ _=>eQ i) fQ
 have hfoot:∀ v,s.sv=some v->∀ k,foot w A.a k->k≠A.a.q->(w.setCell ⟨A.G,i*4+j,none⟩ x).heap[k]?=w.heap[k]?:=fun v hv k hk hq=>by
  have u:=h.up v hv
  rcases u.sv.kind hk with f|f|f|f|f|f|f
  ·exact(hq f).elim
  ·exact hbM k (by rw[f];exact zcw u.sv.tab.own)
  ·exact hbC k _ f (by decide)
  ·exact hbC k _ f (by decide)
  ·exact hbC k _ f (by decide)
  ·exact hbC k _ f (by decide)
  ·exact hbC k _ f (by decide)
 have hN:NetIs (w.setCell ⟨A.G,i*4+j,none⟩ x) (A.Q+1) A.Q (s.net.map encN):=NetIs.kept h.net (by omega) (eQ _) (eQ _) fQ fun v g hv hg=>by
  obtain⟨v',hv',hr⟩:=h.net.row
  rw[hv] at hv'
  injection hv' with hv'
  subst hv'
  exact hbC g _ (zah hr hg).2 (by decide)
 refine⟨⟨(h.core.cells (h.core.typ.same hQ) (fun i _ _=>eQ i) fQ).of rfl rfl rfl rfl rfl rfl rfl,hD,hN,h.evs.imp fun v hv=>⟨(eQ _).trans hv.1,zab hv.2 fun g hg=>hbC g _ (zah hv.2 hg).2 (by decide)⟩,Wal.zai h.gt,fun i=>by rw[World.frozen?_setCell];exact h.gf i,fun l hl=>?_,fun l hl=>?_,h.ap,fun v hv=>?_,h.n1,h.n4⟩,
  ⟨rfl,rfl,rfl,by omega,fun k hk hf' _=>hb k (fun e=>hf' (.G e)),fun k hk f=>?_,rfl⟩⟩
 ·show SeatIs _ A.G l (A.c l) (zy9 s.seat i st l)
  unfold zy9
  split
  ·rename_i e
   subst e
   exact hS
  ·rename_i e
   have q:=h.seats l hl
   have e':∀ p,p<4->(w.setCell ⟨A.G,i*4+j,none⟩ x).cell? ⟨A.G,l*4+p,none⟩=w.cell? ⟨A.G,l*4+p,none⟩:=fun p hp=>World.cell?_setCell_other _ _ _ _ (by intro q;injection q with _ q;omega)
   exact⟨(e' 0 (by omega)).trans q.c0,(e' 1 (by omega)).trans q.c1,(e' 2 (by omega)).trans q.c2,(e' 3 (by omega)).trans q.c3⟩
 ·show zza _ _ _ (zy9 s.seat i st l).k
  have key:(zy9 s.seat i st l).k=(s.seat l).k:=by
   unfold zy9
   split
   ·rename_i e
    subst e
    exact hk
   ·rfl
  rw[key]
  exact(h.cli l hl).blocks (hbC _ _ (h.cli l hl).isC (by decide)) (hbM _ (h.cli l hl).isM)
 ·have u:=h.up v hv
  exact⟨u.sv.feet (by omega) (by rw[u.q,u.rs,u.fails,u.left];exact hD) (hfoot v hv),u.q,u.rs,u.fails,u.left,u.ne,u.to,u.tv⟩
 ·rcases f with f|f|⟨v,f1,f2⟩|⟨i',hi',f⟩|⟨i',hi',f⟩|⟨f1,f2⟩
  ·exact .Q f
  ·exact .G f
  ·exact .ev v ((eQ _).symm.trans f1) f2
  ·exact .c i' hi' f
  ·exact .m i' hi' f
  ·obtain⟨v,hv⟩:=Option.isSome_iff_exists.1 f1
   have u:=h.up v hv
   have hl:=u.sv.lts
   exact .sv f1 ((za4 (hfoot v hv _ (.inr (.inr (.inr (.inl rfl)))) (by omega)) (hfoot v hv _ (.inr (.inr (.inl rfl))) (by omega)) k).1 f2)
theorem WdIs.setCall{w:World}{A:Wa}{s:Wd}(h:WdIs w A s){i:Nat}(hi:i<s.n)(x:Int):WdIs (w.setCell ⟨A.G,i*4+3,none⟩ (.int .i64 x)) A { s with seat:=zy9 s.seat i { s.seat i with call:=x } }/\Fz A s w A { s with seat:=zy9 s.seat i { s.seat i with call:=x } } (w.setCell ⟨A.G,i*4+3,none⟩ (.int .i64 x)):=by
 have q:=h.seats i hi
 have e:∀ p,p<3->(w.setCell ⟨A.G,i*4+3,none⟩ (.int .i64 x)).cell? ⟨A.G,i*4+p,none⟩=w.cell? ⟨A.G,i*4+p,none⟩:=fun p hp=>World.cell?_setCell_other _ _ _ _ (by intro q;injection q with _ q;omega)
 exact h.seatSet hi (by omega) rfl ⟨(e 0 (by omega)).trans q.c0,(e 1 (by omega)).trans q.c1,(e 2 (by omega)).trans q.c2,World.cell?_setCell_same _ _ _ q.c3⟩
theorem WdIs.setSeatClock{w:World}{A:Wa}{s:Wd}(h:WdIs w A s){i:Nat}(hi:i<s.n)(x:Int):WdIs (w.setCell ⟨A.G,i*4+1,none⟩ (.int .i64 x)) A { s with seat:=zy9 s.seat i { s.seat i with clock:=x } }/\Fz A s w A { s with seat:=zy9 s.seat i { s.seat i with clock:=x } } (w.setCell ⟨A.G,i*4+1,none⟩ (.int .i64 x)):=by
 have q:=h.seats i hi
 have e:∀ p,p≠1->p<4->(w.setCell ⟨A.G,i*4+1,none⟩ (.int .i64 x)).cell? ⟨A.G,i*4+p,none⟩=w.cell? ⟨A.G,i*4+p,none⟩:=fun p h1 hp=>World.cell?_setCell_other _ _ _ _ (by intro q;injection q with _ q;omega)
 exact h.seatSet hi (by omega) rfl ⟨(e 0 (by omega) (by omega)).trans q.c0,World.cell?_setCell_same _ _ _ q.c1,(e 2 (by omega) (by omega)).trans q.c2,(e 3 (by omega) (by omega)).trans q.c3⟩
theorem zcp(e:Ev):(ecell e).length=10:=rfl
theorem zbo(l:List Ev):(ecells l).length=l.length*10:=by
 induction l with
 | nil=>rfl
 | cons e l ih=>
  have:ecells (e :: l)=ecell e++ecells l:=rfl
  rw[this,List.length_append,ih,zcp,List.length_cons]
  omega
theorem zh3(l:List Ev)(e:Ev):ecells (l++[e])=ecells l++ecell e:=by simp[ecells]
theorem zbl:∀ (l:List Ev) (i j:Nat) (h:i<l.length),j<10->(ecells l)[i*10+j]?=(ecell l[i])[j]?
 | e :: l,0,j,_,hj=>by
  have:ecells (e :: l)=ecell e++ecells l:=rfl
  rw[this,Nat.zero_mul,Nat.zero_add,List.getElem?_append_left (by rw[zcp];exact hj)]
  rfl
 | e :: l,i+1,j,h,hj=>by
  have:ecells (e :: l)=ecell e++ecells l:=rfl
  rw[this,List.getElem?_append_right (by rw[zcp];omega),zcp,show (i+1)*10+j-10=i*10+j by omega]
  exact zbl l i j (by simpa using h) hj
theorem zgf{l:List Ev}{i:Nat}{e:Ev}{xs:List Value}(hi:i<l.length)(hl:xs.length=l.length*10)(h1:∀ j,j<10->xs[i*10+j]?=(ecell e)[j]?)(h2:∀ p,p / 10≠i->xs[p]?=(ecells l)[p]?):xs=ecells (l.set i e):=by
 apply List.ext_getElem?
 intro p
 by_cases hp:p<l.length*10
 ·obtain⟨a,b,hb,rfl⟩:∃ a b,b<10/\p=a*10+b:=⟨p / 10,p % 10,by omega,by omega⟩
  have ha:a<l.length:=by omega
  rw[zbl (l.set i e) a b (by simpa using ha) hb]
  by_cases hai:a=i
  ·subst hai
   rw[h1 b hb,List.getElem_set_self]
  ·rw[h2 _ (by omega),zbl l a b ha hb,List.getElem_set_ne (by omega)]
 ·rw[List.getElem?_eq_none (by omega),List.getElem?_eq_none (by rw[zbo,List.length_set];omega)]
end Wld
end
end Go.Proofs.YtbebfliimjjohabGreatDoor
