/- Parts of the proof. -/
import Derived.Test.YtbebfliimjjohabGreatDoorLd28
import Derived.Maps.RangeWalk
set_option maxRecDepth 100000
set_option maxHeartbeats 8000000
namespace Go.Proofs.YtbebfliimjjohabGreatDoor
section
namespace Wld
open Go.RowKit Go.Maps
open Lease (Ob I64 upd TabIs hol dels objB HasI map_block map_ne mx)
open Cache (tp row_kept row_below)
open Wal (R WalIs DiskIs Oq Fw rcells)
open Num (M okB strOf ints)
open Net (NetIs Only pcells)
theorem info_event:(Tryz.prog.info? 45).map (fun i=>(i.zero,i.size,i.bytes))=some (some (.agg #[.int .i64 0,.int .i64 0,.int .i64 0,.string ⟨#[]⟩,.int .i64 0,.bool false,.bool false,.int .i64 0,.int .i64 0,.int .i64 0]),10,80):=by kernel_rfl
theorem ecell_one(e:Ev):∀ u∈ecell e,u.oneCell'=true:=by
 intro u hu
 unfold ecell at hu
 simp only[List.mem_cons,List.not_mem_nil,or_false] at hu
 rcases hu with rfl|rfl|rfl|rfl|rfl|rfl|rfl|rfl|rfl|rfl<;>rfl
theorem fill_ev(e:Ev):Instr.fill (fun i=>some (i*10,10)) ((Array.range (1*10)).map ((Value.agg #[.int .i64 0,.int .i64 0,.int .i64 0,.string ⟨#[]⟩,.int .i64 0,.bool false,.bool false,.int .i64 0,.int .i64 0,.int .i64 0]).cells[· % (Value.agg #[.int .i64 0,.int .i64 0,.int .i64 0,.string ⟨#[]⟩,.int .i64 0,.bool false,.bool false,.int .i64 0,.int .i64 0,.int .i64 0]).cells.size]!)) [(0,.agg (ecell e).toArray)]=some (ecell e).toArray:=by
 have h0:Array.range 0 = #[]:=rfl
 simp[Instr.fill,ecell,Value.cells,Array.range_succ,h0]
theorem wp_oneEv{o:Oper}{a:Act}{w:World}{K:Act→World→Prop}{Q:Exit→Act→World→Prop}(t:Nat)(ho:o.op = .buildSlice 38 1 #[(0,.tmp t)])(e:Ev)(ht:a.eval (.tmp t) = .agg (ecell e).toArray)
  (h:K (a.put o.dst (.slice (some ⟨w.heap.size,0,none⟩) 1 1)) (w.alloc (.cells (ecell e).toArray 45))):o.wp Tryz.prog a w K Q:=by
 obtain⟨i0,hi,hy0,hy1,hy2⟩:=info_parts info_event
 refine wp_buildSlice 38 45 1 _ ho _ i0 _ Tryz.underlying38 hi hy0 (by rw[hy1];decide) (by rw[hy1];decide) ?_ h
 rw[hy1]
 simp only[List.map_toArray,List.map_cons,List.map_nil,ht]
 exact fill_ev e
theorem ev_made(w:World)(e:Ev):∀ j u,(ecell e)[j]?=some u→(w.alloc (.cells (ecell e).toArray 45)).cell? ((⟨w.heap.size,0,none⟩:Addr).add j)=some u:=by
 intro j u hu
 rw[Net.add_off,cell_of_row _ _ _ _ _ _ (heap_alloc_new w _),Nat.zero_add,List.getElem?_toArray]
 exact hu
theorem updN_twice{X:Type}(f:Nat→X)(k:Nat)(a b:X):updN (updN f k a) k b=updN f k b:=by
 funext j
 unfold updN
 split<;>rfl
theorem beginR_any(A:Wa)(s:Wd)(k C:Nat)(p:Nat)(o:Int)(w:World)(h:WdIs w A s)(hk:k<s.n)(hB:WdB s C)(hC:C≤10000000000)(hKB:KB ((s.seat k).k.readK o (s.seat k).clock) (C+2))
  (hcl:Calls Tryz.prog 41 #[.pointer (some ⟨A.G,k*4,none⟩),tp p] w fun e w'=>e = .returned (eV ((s.seat k).k.freeE o))∧Begun w w' A s k ((s.seat k).k.readK o (s.seat k).clock)) :
  Calls Tryz.prog 40 #[tp A.Q,.int .i64 k,.func (.func 41) #[] #[tp p]] w fun e w'=>e = .returned (eV ((s.seat k).k.freeE o))∧WdIs w' A (if (s.seat k).k.freeE o=0 then s.begin k ((s.seat k).k.readK o (s.seat k).clock) else s)∧Fz A s w A (if (s.seat k).k.freeE o=0 then s.begin k ((s.seat k).k.readK o (s.seat k).clock) else s) w':=by
 have hh:=hasW_any A s k w h
 have hhk:s.has k=true:=by
  unfold Wd.has
  exact decide_eq_true ⟨by omega,by omega⟩
 rw[hhk] at hh
 have sts:=h.core.sts
 have hk0:(0:Int)≤(k:Int):=by omega
 have hkn:(k:Int)<(s.n:Int):=by omega
 have n4:=h.n4
 obtain⟨c,hc⟩:∃ c,(s.seat k).k.readK o (s.seat k).clock=c:=⟨_,rfl⟩
 obtain⟨er,her⟩:∃ er,(s.seat k).k.freeE o=er:=⟨_,rfl⟩
 rw[hc] at hKB
 simp only[hc,her] at hcl ⊢
 have HC:Hid (er≠0→c=(s.seat k).k):=fun q=>by
  subst hc her
  exact if_neg q
 clear hc her hhk
 by_cases he:er=0
 ·subst he
  rw[if_pos rfl]
  rw[show eV 0 = .nilIface from rfl] at hcl ⊢
  have hwr:IntKind.i64.wrap (s.step+1)=s.step+1:=wrapI (by have:=hB.s0;omega) (by have:=hB.s1;omega)
  go_enter Tryz.func40,Tryz.ntmps40
  go_wp2_with fail
  refine hh.mono ?_
  rintro e w2 ⟨rfl,rfl⟩
  go_wp2_with fail
  refine hcl.mono ?_
  rintro e w3 ⟨rfl,B3⟩
  obtain⟨x1,x2⟩:=B3
  have stp:=x1.core.stp
  have fst:=x1.core.free 12411
  obtain⟨y1,y2⟩:=x1.setStep (s.step+1)
  have stpe:(s.setK k c).step=s.step:=rfl
  rw[stpe] at stp
  clear hcl hh h
  go_upto_region 8 with fail
  generalize w3.setCell ⟨A.Q,12411,none⟩ (.int .i64 (s.step+1))=w4 at *
  obtain⟨v,hv,hrow⟩:=y1.evs
  obtain⟨ao,cp,hao,hcp,hcn⟩:=Net.row_shape hrow
  subst hao
  have d3:=(y1.seats k hk).c3
  have fG:=y1.gf (k*4+3)
  obtain⟨z1,z2⟩:=y1.setCall hk s.events.length
  have eve:({ s.setK k c with step:=s.step+1 }:Wd).events=s.events:=rfl
  rw[eve] at hv hrow
  clear hcp hcn stp fst sts
  go_upto_region 9 with fail
  generalize w4.setCell ⟨A.G,k*4+3,none⟩ (.int .i64 (s.events.length:Nat))=w5 at *
  obtain⟨v5,hv5,hrow5⟩:=z1.evs
  have stp5:=z1.core.stp
  have d2:=(z1.seats k hk).c2
  dsimp only at hv5 hrow5 stp5 d2
  rw[updN_same] at d2
  dsimp only at d2
  obtain⟨i0,hi,hy0,hy1,hy2⟩:=info_parts info_event
  obtain⟨a5,c5,ha5,hc5,_⟩:=Net.row_shape hrow5
  subst ha5
  have hev:=hB.ev
  have hlf:((s.setK k c).seat k).life=(s.seat k).life:=by unfold Wd.setK;dsimp only;rw[updN_same]
  rw[hlf] at d2
  obtain⟨ne,hne⟩:∃ ne:Ev,ne=⟨k,0,0,⟨#[]⟩,0,false,false,s.step+1,0,(s.seat k).life⟩:=⟨_,rfl⟩
  have hQl:=z1.lt
  have hGl:=z1.gt.lt
  have hrgQ:∀ g,(Value.slice a5 s.events.length c5).ownBlock=some g→g≠A.Q∧g≠A.G:=fun g hg=>⟨by have:=(row_isC hrow5 hg).1;omega,(row_isC hrow5 hg).2.ne z1.gt (by decide)⟩
  have eveL:(s.setK k c).events=s.events:=rfl
  refine Gen.start (S:=fun w'=>w'.cell? ⟨A.Q,12410,none⟩=some (.slice a5 s.events.length c5)∧w'.cell? ⟨A.Q,12411,none⟩=some (.int .i64 (s.step+1))∧w'.cell? ⟨A.G,k*4+2,none⟩=some (.int .i64 (s.seat k).life)) (by kernel_rfl) ⟨hv5,stp5,d2⟩ (fun hHeld=>?_)
  refine Gen.tk 0 17 ?_ rfl rfl (Or.inl ⟨by rfl,?_⟩) hHeld ?_;rotate_left
  ·rintro w' ⟨s0,s1,s2⟩;go_simp;try with_reducible rfl
  go_frame
  refine Gen.tk 1 2 ?_ rfl rfl (Or.inl ⟨by rfl,?_⟩) hHeld ?_;rotate_left
  ·rintro w' ⟨s0,s1,s2⟩;go_simp;try with_reducible rfl
  go_frame
  refine Gen.tk 2 3 ?_ rfl rfl (Or.inl ⟨by rfl,?_⟩) hHeld ?_;rotate_left
  ·rintro w' ⟨s0,s1,s2⟩;go_simp;try with_reducible rfl
  go_frame
  refine Gen.tk 3 4 ?_ rfl rfl (Or.inl ⟨by rfl,?_⟩) hHeld ?_;rotate_left
  ·rintro w' ⟨s0,s1,s2⟩;go_simp;try with_reducible rfl
  go_frame
  refine Gen.tk 4 16 ?_ rfl rfl (Or.inl ⟨by rfl,?_⟩) hHeld ?_;rotate_left
  ·rintro w' ⟨s0,s1,s2⟩;go_simp;try with_reducible rfl
  go_frame
  refine Gen.tk 5 14 ?_ rfl rfl (Or.inl ⟨by rfl,?_⟩) hHeld ?_;rotate_left
  ·rintro w' ⟨s0,s1,s2⟩;go_simp;try with_reducible rfl
  go_frame
  refine Gen.tk 6 7 ?_ rfl rfl (Or.inl ⟨by rfl,?_⟩) hHeld ?_;rotate_left
  ·rintro w' ⟨s0,s1,s2⟩;go_simp;try with_reducible rfl
  go_frame
  refine Gen.tk 7 8 ?_ rfl rfl (Or.inl ⟨by rfl,?_⟩) hHeld ?_;rotate_left
  ·rintro w' ⟨s0,s1,s2⟩;go_simp;try with_reducible rfl
  go_frame
  refine Gen.tk 8 9 ?_ rfl rfl (Or.inl ⟨by rfl,?_⟩) hHeld ?_;rotate_left
  ·rintro w' ⟨s0,s1,s2⟩;go_simp;try with_reducible rfl
  go_frame
  refine Gen.tk 9 14 ?_ rfl rfl (Or.inl ⟨by rfl,?_⟩) hHeld ?_;rotate_left
  ·rintro w' ⟨s0,s1,s2⟩;go_simp;try with_reducible rfl
  go_frame
  refine Gen.tk 10 11 ?_ rfl rfl (Or.inl ⟨by rfl,?_⟩) hHeld ?_;rotate_left
  ·rintro w' ⟨s0,s1,s2⟩;go_simp;try with_reducible rfl
  go_frame
  refine Gen.tk 11 12 ?_ rfl rfl (Or.inl ⟨by rfl,?_⟩) hHeld ?_;rotate_left
  ·rintro w' ⟨s0,s1,s2⟩;go_simp;try with_reducible rfl
  go_frame
  refine Gen.tk 12 13 ?_ rfl rfl (Or.inl ⟨by rfl,?_⟩) hHeld ?_;rotate_left
  ·rintro w' ⟨s0,s1,s2⟩;go_simp;try with_reducible rfl
  go_frame
  refine Gen.tk 13 14 ?_ rfl rfl (Or.inl ⟨by rfl,?_⟩) hHeld ?_;rotate_left
  ·rintro w' ⟨s0,s1,s2⟩;go_simp;try with_reducible rfl
  go_frame
  refine Gen.tk 14 15 ?_ rfl rfl (Or.inl ⟨by rfl,?_⟩) hHeld ?_;rotate_left
  ·rintro w' ⟨s0,s1,s2⟩;go_simp;try with_reducible rfl
  go_frame
  refine Gen.one (i:=15) (by kernel_rfl) rfl rfl (fun K hK=>?_)
  refine wp_oneEv 55 rfl ne (by rw[hne];rfl) ?_
  have b6:Below w5.heap.size w5 (w5.drew.alloc (.cells (ecell ne).toArray 45)):=by
   have:=((Below.refl w5.drew.heap.size w5.drew).alloc (Nat.le_refl _) (.cells (ecell ne).toArray 45))
   exact⟨this.os,this.tape,this.output,this.size,this.block⟩
  have q1:=(b6.cell (p:=⟨A.Q,12410,none⟩) hQl).trans hv5
  have q2:=(b6.cell (p:=⟨A.Q,12411,none⟩) hQl).trans stp5
  have q3:=(b6.cell (p:=⟨A.G,k*4+2,none⟩) hGl).trans d2
  refine hK.out _ _ ⟨q1,q2,q3⟩ (fun hHeld=>?_)
  clear hK K
  try go_frame
  refine Gen.one (i:=16) (by kernel_rfl) rfl rfl (fun K hK=>?_)
  refine App.wp_append_at _ _ _ 38 rfl (A.Q+1) 45 i0 (.agg #[.int .i64 0,.int .i64 0,.int .i64 0,.string ⟨#[]⟩,.int .i64 0,.bool false,.bool false,.int .i64 0,.int .i64 0,.int .i64 0]) 10 80 Tryz.underlying38 hi hy0 hy1 hy2 rfl (by decide) _ _ _ rfl (World.ownsRow.alloc hrow5.drew _) ⟨w5.heap.size,0,none⟩ 1 1 (ecell ne) rfl rfl (ev_made w5.drew ne) (ecell_one ne) (by rw[eveL];unfold maxLen;omega) (by rw[eveL];omega) (by have:w5.drew.heap.size=w5.heap.size:=rfl;simp;omega) ?_
  intro v7 w7 hown7 hg7 hat7
  obtain⟨a7,c7,ha7,_,_⟩:=Net.row_shape hown7
  have hz7:=hg7.size
  have hz5:(w5.drew.alloc (.cells (ecell ne).toArray 45)).heap.size=w5.heap.size+1:=by simp
  have blk:∀ y,y<w5.heap.size→(Value.slice a5 s.events.length c5).ownBlock≠some y→w7.heap[y]?=w5.heap[y]?:=fun y hy hn=>(hg7.block y (by omega) (fun e=>hn e.symm)).trans (Below.heap_alloc w5.drew _ y hy)
  have blkQ:=blk A.Q hQl (fun e=>(hrgQ _ e).1 rfl)
  have blkG:=blk A.G hGl (fun e=>(hrgQ _ e).2 rfl)
  have r1:=(World.cell?_of_block (a:=⟨A.Q,12410,none⟩) blkQ).trans hv5
  have r2:=(World.cell?_of_block (a:=⟨A.Q,12411,none⟩) blkQ).trans stp5
  have r3:=(World.cell?_of_block (a:=⟨A.G,k*4+2,none⟩) blkG).trans d2
  have fQ7:w7.frozen? ⟨A.Q,12410,none⟩=false:=(World.frozen?_of_block (a:=⟨A.Q,12410,none⟩) blkQ).trans (z1.core.free 12410)
  have HX:Hid (WdIs (w7.setCell ⟨A.Q,12410,none⟩ v7) A (s.opens k c)∧Fz A s w2 A (s.opens k c) (w7.setCell ⟨A.Q,12410,none⟩ v7)):=by
   have o8:∀ y,y≠A.Q→(w7.setCell ⟨A.Q,12410,none⟩ v7).heap[y]?=w7.heap[y]?:=fun y hy=>Below.heap_setCell w7 ⟨A.Q,12410,none⟩ v7 y hy
   have e1:∀ y,y<w5.heap.size→y≠A.Q→(∀ v,w5.cell? ⟨A.Q,12410,none⟩=some v→v.ownBlock≠some y)→(w7.setCell ⟨A.Q,12410,none⟩ v7).heap[y]?=w5.heap[y]?:=fun y hy hyQ hyv=>(o8 y hyQ).trans (blk y hy (hyv _ hv5))
   have e2:∀ i,i≠12410→(w7.setCell ⟨A.Q,12410,none⟩ v7).cell? ⟨A.Q,i,none⟩=w5.cell? ⟨A.Q,i,none⟩:=fun i hi=>(World.cell?_setCell_other _ _ _ _ (by intro q;injection q with _ q;exact hi q.symm)).trans (World.cell?_of_block blkQ)
   have e3:∀ i,(w7.setCell ⟨A.Q,12410,none⟩ v7).frozen? ⟨A.Q,i,none⟩=w5.frozen? ⟨A.Q,i,none⟩:=fun i=>(World.frozen?_setCell _ _ _ _).trans (World.frozen?_of_block blkQ)
   have e4:isC (w7.setCell ⟨A.Q,12410,none⟩ v7) A.Q 81:=Wal.typ_setCell (z1.core.typ.same blkQ)
   have e5:(w7.setCell ⟨A.Q,12410,none⟩ v7).cell? ⟨A.Q,12410,none⟩=some v7:=World.cell?_setCell_same _ _ _ r1
   have hgQ7:∀ g,v7.ownBlock=some g→g≠A.Q:=fun g hg e=>by
    rcases hat7 g hg with q|q
    ·exact(hrgQ g q).1 e
    ·omega
   have e6:(w7.setCell ⟨A.Q,12410,none⟩ v7).ownsRow (A.Q+1) 45 10 v7 (s.events++[ne]).length (ecells (s.events++[ne])):=by
    rw[List.length_append,ecells_snoc]
    exact row_kept hown7 fun g hg=>o8 g (hgQ7 g hg)
   have e7:∀ g,v7.ownBlock=some g→g<w5.heap.size→∃ v,w5.cell? ⟨A.Q,12410,none⟩=some v∧v.ownBlock=some g:=fun g hg hlt=>by
    rcases hat7 g hg with q|q
    ·exact⟨_,hv5,q⟩
    ·omega
   have e8:w5.heap.size≤(w7.setCell ⟨A.Q,12410,none⟩ v7).heap.size:=by
    have:(w7.setCell ⟨A.Q,12410,none⟩ v7).heap.size=w7.heap.size:=by simp
    omega
   obtain⟨p1,p2⟩:=WdIs.evented z1 (w':=w7.setCell ⟨A.Q,12410,none⟩ v7) hg7.os hg7.tape hg7.output e8 e1 e2 e3 e4 e5 e6 e7
   have heq:s.opens k c = { ({ ({ s.setK k c with step:=s.step+1 }:Wd) with seat:=updN (s.setK k c).seat k { (s.setK k c).seat k with call:=(s.events.length:Nat) } }:Wd) with events:=s.events++[ne] }:=by
    unfold Wd.opens Wd.setK
    dsimp only
    rw[updN_twice,updN_same,hne]
   rw[heq]
   exact⟨p1,((x2.trans y2).trans z2).trans p2⟩
  refine hK.out _ _ ⟨r1,r2,r3⟩ (fun hHeld=>?_)
  clear hK K hown7 hg7 hat7
  subst ha7
  try go_frame
  refine Gen.tk 17 18 ?_ rfl rfl (Or.inl ⟨by rfl,?_⟩) hHeld ?_;rotate_left
  ·rintro w' ⟨s0,s1,s2⟩;go_simp;try with_reducible rfl
  go_frame
  refine Gen.tk 18 19 ?_ rfl rfl (Or.inl ⟨by rfl,?_⟩) hHeld ?_;rotate_left
  ·rintro w' ⟨s0,s1,s2⟩;go_simp;try with_reducible rfl
  go_frame
  refine Gen.last (i:=19) (by kernel_rfl) rfl rfl (by kernel_rfl) (by kernel_rfl) (fun K hK=>?_)
  go_simp
  refine hK.out _ _ ?_
  clear hK K hHeld
  have HF8:Hid (WdIs (w7.setCell ⟨A.Q,12410,none⟩ (.slice a7 (s.events.length+1) c7)) A (s.opens k c)∧Fz A s w2 A (s.opens k c) (w7.setCell ⟨A.Q,12410,none⟩ (.slice a7 (s.events.length+1) c7))):=HX.out
  clear HX
  clear y1 y2 z1 z2 x1 x2 hv hrow hv5 hrow5 stp5 d2 d3 fG blk blkQ blkG r1 r2 r3 fQ7 b6 q1 q2 q3 hrgQ hc5
  generalize w7.setCell ⟨A.Q,12410,none⟩ (.slice a7 (s.events.length+1) c7)=w8 at *
  have hBo:WdB (s.opens k c) (C+2):=hB.opens hKB
  have hno:=note_any A (s.opens k c) k w8 HF8.out.1 hk (hBo.st k hk).a1
  go_wp2_with fail
  refine hno.mono ?_
  rintro e w9 ⟨rfl,p1,p2⟩
  have hBn:WdB ((s.opens k c).note k) (C+2):=hBo.note k
  have hnn:((s.opens k c).note k).n=s.n:=by unfold Wd.note;split<;>rfl
  have hk9:k<((s.opens k c).note k).n:=by rw[hnn];exact hk
  have f3:=(p1.seats k hk9).c3
  have p3:=HF8.out.2.trans p2
  clear hno HF8 p2
  by_cases hlt:(((s.opens k c).note k).seat k).call<0
  ·have g0:decide (0≤(((s.opens k c).note k).seat k).call)=false:=decide_eq_false (by omega)
   have HF:Hid (WdIs w9 A (s.begin k c)∧Fz A s w2 A (s.begin k c) w9):=by
    unfold Wd.begin Wd.asked
    rw[if_pos hlt]
    exact⟨p1,p3⟩
   clear p1 p3 hlt hBn hBo
   go_wp2_with fail
   go_ret
   exact⟨rfl,HF.out⟩
  ·have g0:decide (0≤(((s.opens k c).note k).seat k).call)=true:=decide_eq_true (by omega)
   have hask:=ask_any A ((s.opens k c).note k) k (C+2) w9 p1 hk9 hBn (by omega)
   have HE:Hid (s.begin k c=((s.opens k c).note k).ask k):=by
    unfold Hid Wd.begin Wd.asked
    rw[if_neg hlt]
   clear p1 hlt hBn hBo
   go_wp2_with fail
   refine hask.mono ?_
   rintro e w10 ⟨rfl,q1,q2⟩
   have HF:Hid (WdIs w10 A (s.begin k c)∧Fz A s w2 A (s.begin k c) w10):=by
    rw[HE.out]
    exact⟨q1,p3.trans q2⟩
   clear q1 q2 p3 hask
   go_wp2_with fail
   go_ret
   exact⟨rfl,HF.out⟩
 ·rw[if_neg he]
  rw[eV_neq he] at hcl ⊢
  have hcs:=HC.out he
  rw[hcs] at hcl
  go_enter Tryz.func40,Tryz.ntmps40
  go_wp2_with fail
  refine hh.mono ?_
  rintro e w2 ⟨rfl,rfl⟩
  go_wp2_with fail
  refine hcl.mono ?_
  rintro e w3 ⟨rfl,B3⟩
  obtain⟨x1,x2⟩:=B3
  rw[setK_same] at x1 x2
  have HF:Hid (WdIs w3 A s∧Fz A s w2 A s w3):=⟨x1,x2⟩
  clear hcl hh x1 x2 h
  go_wp2_with fail
  go_ret
  exact⟨rfl,HF.out⟩
theorem beginW_any(A:Wa)(s:Wd)(k C:Nat)(p q:Nat)(o:Int)(d:ByteArray)(w:World)(h:WdIs w A s)(hk:k<s.n)(hB:WdB s C)(hC:C≤10000000000)(hKB:KB ((s.seat k).k.writeK o d (s.seat k).clock) (C+2))
  (hcl:Calls Tryz.prog 59 #[.pointer (some ⟨A.G,k*4,none⟩),tp p,tp q] w fun e w'=>e = .returned (eV ((s.seat k).k.writeE o d))∧Begun w w' A s k ((s.seat k).k.writeK o d (s.seat k).clock)) :
  Calls Tryz.prog 40 #[tp A.Q,.int .i64 k,.func (.func 59) #[] #[tp p,tp q]] w fun e w'=>e = .returned (eV ((s.seat k).k.writeE o d))∧WdIs w' A (if (s.seat k).k.writeE o d=0 then s.begin k ((s.seat k).k.writeK o d (s.seat k).clock) else s)∧Fz A s w A (if (s.seat k).k.writeE o d=0 then s.begin k ((s.seat k).k.writeK o d (s.seat k).clock) else s) w':=by
 have hh:=hasW_any A s k w h
 have hhk:s.has k=true:=by
  unfold Wd.has
  exact decide_eq_true ⟨by omega,by omega⟩
 rw[hhk] at hh
 have sts:=h.core.sts
 have hk0:(0:Int)≤(k:Int):=by omega
 have hkn:(k:Int)<(s.n:Int):=by omega
 have n4:=h.n4
 obtain⟨c,hc⟩:∃ c,(s.seat k).k.writeK o d (s.seat k).clock=c:=⟨_,rfl⟩
 obtain⟨er,her⟩:∃ er,(s.seat k).k.writeE o d=er:=⟨_,rfl⟩
 rw[hc] at hKB
 simp only[hc,her] at hcl ⊢
 have HC:Hid (er≠0→c=(s.seat k).k):=fun q=>by
  subst hc her
  exact if_neg q
 clear hc her hhk
 by_cases he:er=0
 ·subst he
  rw[if_pos rfl]
  rw[show eV 0 = .nilIface from rfl] at hcl ⊢
  have hwr:IntKind.i64.wrap (s.step+1)=s.step+1:=wrapI (by have:=hB.s0;omega) (by have:=hB.s1;omega)
  go_enter Tryz.func40,Tryz.ntmps40
  go_wp2_with fail
  refine hh.mono ?_
  rintro e w2 ⟨rfl,rfl⟩
  go_wp2_with fail
  refine hcl.mono ?_
  rintro e w3 ⟨rfl,B3⟩
  obtain⟨x1,x2⟩:=B3
  have stp:=x1.core.stp
  have fst:=x1.core.free 12411
  obtain⟨y1,y2⟩:=x1.setStep (s.step+1)
  have stpe:(s.setK k c).step=s.step:=rfl
  rw[stpe] at stp
  clear hcl hh h
  go_upto_region 8 with fail
  generalize w3.setCell ⟨A.Q,12411,none⟩ (.int .i64 (s.step+1))=w4 at *
  obtain⟨v,hv,hrow⟩:=y1.evs
  obtain⟨ao,cp,hao,hcp,hcn⟩:=Net.row_shape hrow
  subst hao
  have d3:=(y1.seats k hk).c3
  have fG:=y1.gf (k*4+3)
  obtain⟨z1,z2⟩:=y1.setCall hk s.events.length
  have eve:({ s.setK k c with step:=s.step+1 }:Wd).events=s.events:=rfl
  rw[eve] at hv hrow
  clear hcp hcn stp fst sts
  go_upto_region 9 with fail
  generalize w4.setCell ⟨A.G,k*4+3,none⟩ (.int .i64 (s.events.length:Nat))=w5 at *
  obtain⟨v5,hv5,hrow5⟩:=z1.evs
  have stp5:=z1.core.stp
  have d2:=(z1.seats k hk).c2
  dsimp only at hv5 hrow5 stp5 d2
  rw[updN_same] at d2
  dsimp only at d2
  obtain⟨i0,hi,hy0,hy1,hy2⟩:=info_parts info_event
  obtain⟨a5,c5,ha5,hc5,_⟩:=Net.row_shape hrow5
  subst ha5
  have hev:=hB.ev
  have hlf:((s.setK k c).seat k).life=(s.seat k).life:=by unfold Wd.setK;dsimp only;rw[updN_same]
  rw[hlf] at d2
  obtain⟨ne,hne⟩:∃ ne:Ev,ne=⟨k,0,0,⟨#[]⟩,0,false,false,s.step+1,0,(s.seat k).life⟩:=⟨_,rfl⟩
  have hQl:=z1.lt
  have hGl:=z1.gt.lt
  have hrgQ:∀ g,(Value.slice a5 s.events.length c5).ownBlock=some g→g≠A.Q∧g≠A.G:=fun g hg=>⟨by have:=(row_isC hrow5 hg).1;omega,(row_isC hrow5 hg).2.ne z1.gt (by decide)⟩
  have eveL:(s.setK k c).events=s.events:=rfl
  refine Gen.start (S:=fun w'=>w'.cell? ⟨A.Q,12410,none⟩=some (.slice a5 s.events.length c5)∧w'.cell? ⟨A.Q,12411,none⟩=some (.int .i64 (s.step+1))∧w'.cell? ⟨A.G,k*4+2,none⟩=some (.int .i64 (s.seat k).life)) (by kernel_rfl) ⟨hv5,stp5,d2⟩ (fun hHeld=>?_)
  refine Gen.tk 0 17 ?_ rfl rfl (Or.inl ⟨by rfl,?_⟩) hHeld ?_;rotate_left
  ·rintro w' ⟨s0,s1,s2⟩;go_simp;try with_reducible rfl
  go_frame
  refine Gen.tk 1 2 ?_ rfl rfl (Or.inl ⟨by rfl,?_⟩) hHeld ?_;rotate_left
  ·rintro w' ⟨s0,s1,s2⟩;go_simp;try with_reducible rfl
  go_frame
  refine Gen.tk 2 3 ?_ rfl rfl (Or.inl ⟨by rfl,?_⟩) hHeld ?_;rotate_left
  ·rintro w' ⟨s0,s1,s2⟩;go_simp;try with_reducible rfl
  go_frame
  refine Gen.tk 3 4 ?_ rfl rfl (Or.inl ⟨by rfl,?_⟩) hHeld ?_;rotate_left
  ·rintro w' ⟨s0,s1,s2⟩;go_simp;try with_reducible rfl
  go_frame
  refine Gen.tk 4 16 ?_ rfl rfl (Or.inl ⟨by rfl,?_⟩) hHeld ?_;rotate_left
  ·rintro w' ⟨s0,s1,s2⟩;go_simp;try with_reducible rfl
  go_frame
  refine Gen.tk 5 14 ?_ rfl rfl (Or.inl ⟨by rfl,?_⟩) hHeld ?_;rotate_left
  ·rintro w' ⟨s0,s1,s2⟩;go_simp;try with_reducible rfl
  go_frame
  refine Gen.tk 6 7 ?_ rfl rfl (Or.inl ⟨by rfl,?_⟩) hHeld ?_;rotate_left
  ·rintro w' ⟨s0,s1,s2⟩;go_simp;try with_reducible rfl
  go_frame
  refine Gen.tk 7 8 ?_ rfl rfl (Or.inl ⟨by rfl,?_⟩) hHeld ?_;rotate_left
  ·rintro w' ⟨s0,s1,s2⟩;go_simp;try with_reducible rfl
  go_frame
  refine Gen.tk 8 9 ?_ rfl rfl (Or.inl ⟨by rfl,?_⟩) hHeld ?_;rotate_left
  ·rintro w' ⟨s0,s1,s2⟩;go_simp;try with_reducible rfl
  go_frame
  refine Gen.tk 9 14 ?_ rfl rfl (Or.inl ⟨by rfl,?_⟩) hHeld ?_;rotate_left
  ·rintro w' ⟨s0,s1,s2⟩;go_simp;try with_reducible rfl
  go_frame
  refine Gen.tk 10 11 ?_ rfl rfl (Or.inl ⟨by rfl,?_⟩) hHeld ?_;rotate_left
  ·rintro w' ⟨s0,s1,s2⟩;go_simp;try with_reducible rfl
  go_frame
  refine Gen.tk 11 12 ?_ rfl rfl (Or.inl ⟨by rfl,?_⟩) hHeld ?_;rotate_left
  ·rintro w' ⟨s0,s1,s2⟩;go_simp;try with_reducible rfl
  go_frame
  refine Gen.tk 12 13 ?_ rfl rfl (Or.inl ⟨by rfl,?_⟩) hHeld ?_;rotate_left
  ·rintro w' ⟨s0,s1,s2⟩;go_simp;try with_reducible rfl
  go_frame
  refine Gen.tk 13 14 ?_ rfl rfl (Or.inl ⟨by rfl,?_⟩) hHeld ?_;rotate_left
  ·rintro w' ⟨s0,s1,s2⟩;go_simp;try with_reducible rfl
  go_frame
  refine Gen.tk 14 15 ?_ rfl rfl (Or.inl ⟨by rfl,?_⟩) hHeld ?_;rotate_left
  ·rintro w' ⟨s0,s1,s2⟩;go_simp;try with_reducible rfl
  go_frame
  refine Gen.one (i:=15) (by kernel_rfl) rfl rfl (fun K hK=>?_)
  refine wp_oneEv 55 rfl ne (by rw[hne];rfl) ?_
  have b6:Below w5.heap.size w5 (w5.drew.alloc (.cells (ecell ne).toArray 45)):=by
   have:=((Below.refl w5.drew.heap.size w5.drew).alloc (Nat.le_refl _) (.cells (ecell ne).toArray 45))
   exact⟨this.os,this.tape,this.output,this.size,this.block⟩
  have q1:=(b6.cell (p:=⟨A.Q,12410,none⟩) hQl).trans hv5
  have q2:=(b6.cell (p:=⟨A.Q,12411,none⟩) hQl).trans stp5
  have q3:=(b6.cell (p:=⟨A.G,k*4+2,none⟩) hGl).trans d2
  refine hK.out _ _ ⟨q1,q2,q3⟩ (fun hHeld=>?_)
  clear hK K
  try go_frame
  refine Gen.one (i:=16) (by kernel_rfl) rfl rfl (fun K hK=>?_)
  refine App.wp_append_at _ _ _ 38 rfl (A.Q+1) 45 i0 (.agg #[.int .i64 0,.int .i64 0,.int .i64 0,.string ⟨#[]⟩,.int .i64 0,.bool false,.bool false,.int .i64 0,.int .i64 0,.int .i64 0]) 10 80 Tryz.underlying38 hi hy0 hy1 hy2 rfl (by decide) _ _ _ rfl (World.ownsRow.alloc hrow5.drew _) ⟨w5.heap.size,0,none⟩ 1 1 (ecell ne) rfl rfl (ev_made w5.drew ne) (ecell_one ne) (by rw[eveL];unfold maxLen;omega) (by rw[eveL];omega) (by have:w5.drew.heap.size=w5.heap.size:=rfl;simp;omega) ?_
  intro v7 w7 hown7 hg7 hat7
  obtain⟨a7,c7,ha7,_,_⟩:=Net.row_shape hown7
  have hz7:=hg7.size
  have hz5:(w5.drew.alloc (.cells (ecell ne).toArray 45)).heap.size=w5.heap.size+1:=by simp
  have blk:∀ y,y<w5.heap.size→(Value.slice a5 s.events.length c5).ownBlock≠some y→w7.heap[y]?=w5.heap[y]?:=fun y hy hn=>(hg7.block y (by omega) (fun e=>hn e.symm)).trans (Below.heap_alloc w5.drew _ y hy)
  have blkQ:=blk A.Q hQl (fun e=>(hrgQ _ e).1 rfl)
  have blkG:=blk A.G hGl (fun e=>(hrgQ _ e).2 rfl)
  have r1:=(World.cell?_of_block (a:=⟨A.Q,12410,none⟩) blkQ).trans hv5
  have r2:=(World.cell?_of_block (a:=⟨A.Q,12411,none⟩) blkQ).trans stp5
  have r3:=(World.cell?_of_block (a:=⟨A.G,k*4+2,none⟩) blkG).trans d2
  have fQ7:w7.frozen? ⟨A.Q,12410,none⟩=false:=(World.frozen?_of_block (a:=⟨A.Q,12410,none⟩) blkQ).trans (z1.core.free 12410)
  have HX:Hid (WdIs (w7.setCell ⟨A.Q,12410,none⟩ v7) A (s.opens k c)∧Fz A s w2 A (s.opens k c) (w7.setCell ⟨A.Q,12410,none⟩ v7)):=by
   have o8:∀ y,y≠A.Q→(w7.setCell ⟨A.Q,12410,none⟩ v7).heap[y]?=w7.heap[y]?:=fun y hy=>Below.heap_setCell w7 ⟨A.Q,12410,none⟩ v7 y hy
   have e1:∀ y,y<w5.heap.size→y≠A.Q→(∀ v,w5.cell? ⟨A.Q,12410,none⟩=some v→v.ownBlock≠some y)→(w7.setCell ⟨A.Q,12410,none⟩ v7).heap[y]?=w5.heap[y]?:=fun y hy hyQ hyv=>(o8 y hyQ).trans (blk y hy (hyv _ hv5))
   have e2:∀ i,i≠12410→(w7.setCell ⟨A.Q,12410,none⟩ v7).cell? ⟨A.Q,i,none⟩=w5.cell? ⟨A.Q,i,none⟩:=fun i hi=>(World.cell?_setCell_other _ _ _ _ (by intro q;injection q with _ q;exact hi q.symm)).trans (World.cell?_of_block blkQ)
   have e3:∀ i,(w7.setCell ⟨A.Q,12410,none⟩ v7).frozen? ⟨A.Q,i,none⟩=w5.frozen? ⟨A.Q,i,none⟩:=fun i=>(World.frozen?_setCell _ _ _ _).trans (World.frozen?_of_block blkQ)
   have e4:isC (w7.setCell ⟨A.Q,12410,none⟩ v7) A.Q 81:=Wal.typ_setCell (z1.core.typ.same blkQ)
   have e5:(w7.setCell ⟨A.Q,12410,none⟩ v7).cell? ⟨A.Q,12410,none⟩=some v7:=World.cell?_setCell_same _ _ _ r1
   have hgQ7:∀ g,v7.ownBlock=some g→g≠A.Q:=fun g hg e=>by
    rcases hat7 g hg with q|q
    ·exact(hrgQ g q).1 e
    ·omega
   have e6:(w7.setCell ⟨A.Q,12410,none⟩ v7).ownsRow (A.Q+1) 45 10 v7 (s.events++[ne]).length (ecells (s.events++[ne])):=by
    rw[List.length_append,ecells_snoc]
    exact row_kept hown7 fun g hg=>o8 g (hgQ7 g hg)
   have e7:∀ g,v7.ownBlock=some g→g<w5.heap.size→∃ v,w5.cell? ⟨A.Q,12410,none⟩=some v∧v.ownBlock=some g:=fun g hg hlt=>by
    rcases hat7 g hg with q|q
    ·exact⟨_,hv5,q⟩
    ·omega
   have e8:w5.heap.size≤(w7.setCell ⟨A.Q,12410,none⟩ v7).heap.size:=by
    have:(w7.setCell ⟨A.Q,12410,none⟩ v7).heap.size=w7.heap.size:=by simp
    omega
   obtain⟨p1,p2⟩:=WdIs.evented z1 (w':=w7.setCell ⟨A.Q,12410,none⟩ v7) hg7.os hg7.tape hg7.output e8 e1 e2 e3 e4 e5 e6 e7
   have heq:s.opens k c = { ({ ({ s.setK k c with step:=s.step+1 }:Wd) with seat:=updN (s.setK k c).seat k { (s.setK k c).seat k with call:=(s.events.length:Nat) } }:Wd) with events:=s.events++[ne] }:=by
    unfold Wd.opens Wd.setK
    dsimp only
    rw[updN_twice,updN_same,hne]
   rw[heq]
   exact⟨p1,((x2.trans y2).trans z2).trans p2⟩
  refine hK.out _ _ ⟨r1,r2,r3⟩ (fun hHeld=>?_)
  clear hK K hown7 hg7 hat7
  subst ha7
  try go_frame
  refine Gen.tk 17 18 ?_ rfl rfl (Or.inl ⟨by rfl,?_⟩) hHeld ?_;rotate_left
  ·rintro w' ⟨s0,s1,s2⟩;go_simp;try with_reducible rfl
  go_frame
  refine Gen.tk 18 19 ?_ rfl rfl (Or.inl ⟨by rfl,?_⟩) hHeld ?_;rotate_left
  ·rintro w' ⟨s0,s1,s2⟩;go_simp;try with_reducible rfl
  go_frame
  refine Gen.last (i:=19) (by kernel_rfl) rfl rfl (by kernel_rfl) (by kernel_rfl) (fun K hK=>?_)
  go_simp
  refine hK.out _ _ ?_
  clear hK K hHeld
  have HF8:Hid (WdIs (w7.setCell ⟨A.Q,12410,none⟩ (.slice a7 (s.events.length+1) c7)) A (s.opens k c)∧Fz A s w2 A (s.opens k c) (w7.setCell ⟨A.Q,12410,none⟩ (.slice a7 (s.events.length+1) c7))):=HX.out
  clear HX
  clear y1 y2 z1 z2 x1 x2 hv hrow hv5 hrow5 stp5 d2 d3 fG blk blkQ blkG r1 r2 r3 fQ7 b6 q1 q2 q3 hrgQ hc5
  generalize w7.setCell ⟨A.Q,12410,none⟩ (.slice a7 (s.events.length+1) c7)=w8 at *
  have hBo:WdB (s.opens k c) (C+2):=hB.opens hKB
  have hno:=note_any A (s.opens k c) k w8 HF8.out.1 hk (hBo.st k hk).a1
  go_wp2_with fail
  refine hno.mono ?_
  rintro e w9 ⟨rfl,p1,p2⟩
  have hBn:WdB ((s.opens k c).note k) (C+2):=hBo.note k
  have hnn:((s.opens k c).note k).n=s.n:=by unfold Wd.note;split<;>rfl
  have hk9:k<((s.opens k c).note k).n:=by rw[hnn];exact hk
  have f3:=(p1.seats k hk9).c3
  have p3:=HF8.out.2.trans p2
  clear hno HF8 p2
  by_cases hlt:(((s.opens k c).note k).seat k).call<0
  ·have g0:decide (0≤(((s.opens k c).note k).seat k).call)=false:=decide_eq_false (by omega)
   have HF:Hid (WdIs w9 A (s.begin k c)∧Fz A s w2 A (s.begin k c) w9):=by
    unfold Wd.begin Wd.asked
    rw[if_pos hlt]
    exact⟨p1,p3⟩
   clear p1 p3 hlt hBn hBo
   go_wp2_with fail
   go_ret
   exact⟨rfl,HF.out⟩
  ·have g0:decide (0≤(((s.opens k c).note k).seat k).call)=true:=decide_eq_true (by omega)
   have hask:=ask_any A ((s.opens k c).note k) k (C+2) w9 p1 hk9 hBn (by omega)
   have HE:Hid (s.begin k c=((s.opens k c).note k).ask k):=by
    unfold Hid Wd.begin Wd.asked
    rw[if_neg hlt]
   clear p1 hlt hBn hBo
   go_wp2_with fail
   refine hask.mono ?_
   rintro e w10 ⟨rfl,q1,q2⟩
   have HF:Hid (WdIs w10 A (s.begin k c)∧Fz A s w2 A (s.begin k c) w10):=by
    rw[HE.out]
    exact⟨q1,p3.trans q2⟩
   clear q1 q2 p3 hask
   go_wp2_with fail
   go_ret
   exact⟨rfl,HF.out⟩
 ·rw[if_neg he]
  rw[eV_neq he] at hcl ⊢
  have hcs:=HC.out he
  rw[hcs] at hcl
  go_enter Tryz.func40,Tryz.ntmps40
  go_wp2_with fail
  refine hh.mono ?_
  rintro e w2 ⟨rfl,rfl⟩
  go_wp2_with fail
  refine hcl.mono ?_
  rintro e w3 ⟨rfl,B3⟩
  obtain⟨x1,x2⟩:=B3
  rw[setK_same] at x1 x2
  have HF:Hid (WdIs w3 A s∧Fz A s w2 A s w3):=⟨x1,x2⟩
  clear hcl hh x1 x2 h
  go_wp2_with fail
  go_ret
  exact⟨rfl,HF.out⟩
theorem readK_KB{k:K}{C:Nat}(h:KB k C)(o:Int){now:Int}(h0:0≤now)(h1:now≤549755813888):KB (k.readK o now) (C+2):=by
 unfold K.readK
 split
 ·rename_i he
  obtain⟨a,b⟩:=freeE_range he
  exact h.reads a b h0 h1
 ·exact h.mono (by omega)
theorem writeE_range{k:K}{o:Int}{d:ByteArray}(h:k.writeE o d=0):0≤o∧o≤7∧d.size≤20:=by
 unfold K.writeE at h
 split at h
 ·rename_i q;exact(q h).elim
 ·rename_i q
  have q':k.freeE o=0:=by simpa using q
  split at h
  ·cases h
  ·have:=freeE_range q'
   omega
theorem writeK_KB{k:K}{C:Nat}(h:KB k C)(o:Int)(d:ByteArray){now:Int}(h0:0≤now)(h1:now≤549755813888):KB (k.writeK o d now) (C+2):=by
 unfold K.writeK
 split
 ·rename_i he
  obtain⟨a,b,c⟩:=writeE_range he
  exact(h.begin 2 c 0 false false a b h0 h1).mono (by omega)
 ·exact h.mono (by omega)
theorem readW_any(A:Wa)(s:Wd)(k C:Nat)(o:Int)(w:World)(h:WdIs w A s)(hk:k<s.n)(hB:WdB s C)(hC:C≤10000000000) :
  Calls Tryz.prog 16 #[tp A.Q,.int .i64 k,.int .i64 o] w fun e w'=>e = .returned (eV ((s.seat k).k.freeE o))∧WdIs w' A (if (s.seat k).k.freeE o=0 then s.read k o else s)∧Fz A s w A (if (s.seat k).k.freeE o=0 then s.read k o else s) w':=by
 have hlc:=(h.cli k hk).lt
 obtain⟨x1,x2⟩:=h.below (show Below w.heap.size w (w.alloc (.cells #[.int .i64 o] 3)) from(Below.refl _ _).alloc (Nat.le_refl _) _)
 have hp:(w.alloc (.cells #[.int .i64 o] 3)).cell? ⟨w.heap.size,0,none⟩=some (.int .i64 o):=cell_of_row _ _ _ _ _ _ (heap_alloc_new w _)
 have hSB:=hB.st k hk
 have hcl:=readC_any A s k w.heap.size C o _ x1 hk hB (by omega) hp ⟨by omega,by omega⟩
 have hbe:=beginR_any A s k C w.heap.size o _ x1 hk hB hC (readK_KB hSB.k o hSB.c0 hSB.c1) hcl
 have heq:(if (s.seat k).k.freeE o=0 then s.begin k ((s.seat k).k.readK o (s.seat k).clock) else s)=if (s.seat k).k.freeE o=0 then s.read k o else s:=by
  split
  ·rename_i he
   unfold K.readK Wd.read
   rw[if_pos he]
  ·rfl
 rw[heq] at hbe
 generalize (if (s.seat k).k.freeE o=0 then s.read k o else s)=s' at *
 have HX:Hid (Fz A s w A s (w.alloc (.cells #[.int .i64 o] 3))):=x2
 clear hcl heq x1 x2 h hB hSB hp
 go_enter Tryz.func16,Tryz.ntmps16
 go_wp2_with fail
 refine hbe.mono ?_
 rintro e w3 ⟨rfl,q1,q2⟩
 have HF:Hid (WdIs w3 A s'∧Fz A s w A s' w3):=⟨q1,HX.out.trans q2⟩
 clear hbe q1 q2 HX
 go_wp2_with fail
 go_ret
 exact⟨rfl,HF.out⟩
theorem writeW_any(A:Wa)(s:Wd)(k C:Nat)(o:Int)(d:ByteArray)(w:World)(h:WdIs w A s)(hk:k<s.n)(hB:WdB s C)(hC:C≤10000000000)(hd:d.size≤1000000) :
  Calls Tryz.prog 23 #[tp A.Q,.int .i64 k,.int .i64 o,.string d] w fun e w'=>e = .returned (eV ((s.seat k).k.writeE o d))∧WdIs w' A (if (s.seat k).k.writeE o d=0 then s.write k o d else s)∧Fz A s w A (if (s.seat k).k.writeE o d=0 then s.write k o d else s) w':=by
 have hlc:=(h.cli k hk).lt
 have hb2:Below w.heap.size w ((w.alloc (.cells #[.int .i64 o] 3)).alloc (.cells #[.string d] 9)):=((Below.refl _ _).alloc (Nat.le_refl _) _).alloc (by simp) _
 obtain⟨x1,x2⟩:=h.below hb2
 have hp:((w.alloc (.cells #[.int .i64 o] 3)).alloc (.cells #[.string d] 9)).cell? ⟨w.heap.size,0,none⟩=some (.int .i64 o):=by simp
 have hq:((w.alloc (.cells #[.int .i64 o] 3)).alloc (.cells #[.string d] 9)).cell? ⟨w.heap.size+1,0,none⟩=some (.string d):=by simp
 have hSB:=hB.st k hk
 have hcl:=writeC_any A s k w.heap.size (w.heap.size+1) C o d _ x1 hk hB (by omega) hp hq hd ⟨by omega,by omega⟩ ⟨by omega,by omega⟩
 have hbe:=beginW_any A s k C w.heap.size (w.heap.size+1) o d _ x1 hk hB hC (writeK_KB hSB.k o d hSB.c0 hSB.c1) hcl
 have heq:(if (s.seat k).k.writeE o d=0 then s.begin k ((s.seat k).k.writeK o d (s.seat k).clock) else s)=if (s.seat k).k.writeE o d=0 then s.write k o d else s:=by
  split
  ·rename_i he
   unfold K.writeK Wd.write
   rw[if_pos he]
  ·rfl
 rw[heq] at hbe
 generalize (if (s.seat k).k.writeE o d=0 then s.write k o d else s)=s' at *
 have HX:Hid (Fz A s w A s ((w.alloc (.cells #[.int .i64 o] 3)).alloc (.cells #[.string d] 9))):=x2
 clear hcl heq x1 x2 h hB hSB hp hq hb2
 go_enter Tryz.func23,Tryz.ntmps23
 go_wp2_with fail
 refine hbe.mono ?_
 rintro e w3 ⟨rfl,q1,q2⟩
 have HF:Hid (WdIs w3 A s'∧Fz A s w A s' w3):=⟨q1,HX.out.trans q2⟩
 clear hbe q1 q2 HX
 go_wp2_with fail
 go_ret
 exact⟨rfl,HF.out⟩
end Wld
end
section
namespace Wld
open Go.RowKit Go.Maps
open Lease (Ob I64 upd TabIs hol dels objB HasI map_block map_ne mx)
open Cache (tp row_kept row_below)
open Num (M okB)
theorem goesP_any(n:Int)(w:World)(h0:0≤n)(h1:n≤137438953472):Calls Tryz.prog 70 #[.int .i64 n] w fun e w'=>e = .returned (.bool false)∧w'=w:=by
 have g0:decide (n<0)=false:=decide_eq_false (by omega)
 have g1:decide ((137438953472:Int)<n)=false:=decide_eq_false (by omega)
 go_enter Tryz.func70,Tryz.ntmps70
 go_wp2
 go_ret
 exact⟨rfl,rfl⟩
theorem indexG_any(B:Nat)(v:Value)(l:List Int)(w:World)(h:HasI w B v l)(hl:l.length≤100)(hok:∀ x∈l,0≤x∧x≤137438953472) :
  Calls Tryz.prog 136 #[v,.func (.func 70) #[] #[]] w fun e w'=>e = .returned (.int .i64 (-1))∧w'=w:=by
 obtain⟨ao,c,rfl,hv⟩:=h.shape
 clear h
 go_enter Tryz.func136,Tryz.ntmps136
 go_wp2
 go_loopw [8] (fun i wr=>∃ k:Nat,k≤l.length∧i = .int .i64 k∧wr=w) (fun i _=>l.length-(intOf i).toNat)
 case atStart=>exact⟨0,by omega,rfl,rfl⟩
 case round=>
  obtain⟨k,hk,rfl,rfl⟩:=hrel
  by_cases hlt:k<l.length
  ·obtain⟨g,rfl,hcell⟩:=hv (by omega)
   have hltz:(k:Int)<(l.length:Int):=by omega
   have hc:=hcell k hlt
   obtain⟨o0,o1⟩:=hok l[k] (List.getElem_mem hlt)
   have hcall:=fun w=>goesP_any l[k] w o0 o1
   obtain⟨y,hy⟩:∃ y,l[k]=y:=⟨_,rfl⟩
   rw[hy] at hc hcall
   clear hcell hv hy o0 o1
   go_wp2_with fail
   refine(hcall _).mono ?_
   rintro e w' ⟨rfl,hw'⟩
   rw[hw']
   clear hcall hc hw'
   go_wp2_with fail
   go_roundw
   case rel=>exact⟨k+1,by omega,by go_num,by first|trivial|rfl⟩
   case measure=>simp[intOf];omega
  ·obtain rfl:k=l.length:=by omega
   have hltz:¬ (l.length:Int)<(l.length:Int):=by omega
   clear hv
   go_wp2
   go_ret
   exact⟨rfl,rfl⟩
theorem containsG_any(B:Nat)(v:Value)(l:List Int)(w:World)(h:HasI w B v l)(hl:l.length≤100)(hok:∀ x∈l,0≤x∧x≤137438953472) :
  Calls Tryz.prog 69 #[v,.func (.func 70) #[] #[]] w fun e w'=>e = .returned (.bool false)∧w'=w:=by
 have hi:=indexG_any B v l w h hl hok
 clear h
 go_enter Tryz.func69,Tryz.ntmps69
 go_wp2_with fail
 refine hi.mono ?_
 rintro e w' ⟨rfl,rfl⟩
 go_wp2_with fail
 go_ret
 exact⟨rfl,rfl⟩
end Wld
end
end Go.Proofs.YtbebfliimjjohabGreatDoor
