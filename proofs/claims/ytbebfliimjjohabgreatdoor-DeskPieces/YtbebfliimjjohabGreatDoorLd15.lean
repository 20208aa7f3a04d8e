/- Parts of the proof. -/
import Derived.Test.YtbebfliimjjohabGreatDoorLd14
import Derived.Maps.RangeWalk
import Derived.Test.YtbebfliimjjohabGreatDoorLd07
import Derived.Deep.RegionLaw
set_option maxRecDepth 100000
set_option maxHeartbeats 8000000
namespace Go.Proofs.YtbebfliimjjohabGreatDoor
section
namespace Wld
open Go.RowKit Go.Maps
open Lease (Ob I64 upd upd_same upd_other mx TabIs hol dels objB HasI)
open Cache (tp row_kept row_below)
open Wal (R WalIs DiskIs Oq Fw rcells)
open Num (M)
def hasN(x:Int)(l:List Int):Bool:=l.any fun y=>x == y
def FoundI(x:Int)(l:List Int)(i:Int):Prop:=(i = -1∧hasN x l=false)∨(0≤i∧hasN x l=true)
theorem indexI_any(x:Int)(B:Nat)(v:Value)(l:List Int)(w:World)(h:HasI w B v l)(hl:l.length≤100) :
  Calls Tryz.prog 283 #[v,.int .i64 x] w fun e w'=>∃ i:Int,e = .returned (.int .i64 i)∧FoundI x l i∧w'=w:=by
 obtain⟨ao,c,rfl,hv⟩:=h.shape
 clear h
 go_enter Tryz.func283,Tryz.ntmps283
 go_wp2
 go_loop [8] (fun i=>∃ k:Nat,k≤l.length∧i = .int .i64 k∧Hid (hasN x (l.take k)=false)) (fun i=>l.length-(intOf i).toNat)
 case atStart=>exact⟨0,by omega,rfl,(rfl:hasN x (l.take 0)=false)⟩
 case round=>
  obtain⟨k,hk,rfl,hA⟩:=hrel
  by_cases hlt:k<l.length
  ·obtain⟨g,rfl,hcell⟩:=hv (by omega)
   have hltz:(k:Int)<(l.length:Int):=by omega
   have c0:=hcell k hlt
   have hT:hasN x (l.take (k+1))=(hasN x (l.take k)||(x == l[k])):=by unfold hasN;rw[List.take_succ_eq_append_getElem hlt,List.any_append];simp
   have hU:(x == l[k])=true→hasN x l=true:=fun e=>by
    exact List.any_eq_true.2 ⟨l[k],List.getElem_mem hlt,e⟩
   obtain⟨y,hy⟩:∃ y,l[k]=y:=⟨_,rfl⟩
   rw[hy] at c0 hT hU
   obtain⟨p,hp⟩:∃ p,(x == y)=p:=⟨_,rfl⟩
   rw[hp] at hT hU
   have HT:Hid (hasN x (l.take (k+1))=(hasN x (l.take k)||p)):=hT
   have HU:Hid (p=true→hasN x l=true):=hU
   clear hy hT hU hcell hv
   cases p with
   | true=>
    go_wp2_with fail
    go_ret
    exact⟨_,rfl,.inr ⟨by omega,HU.out (by first|rfl|trivial)⟩,rfl⟩
   | false=>
    go_wp2_with fail
    go_round
    case rel=>exact⟨k+1,by omega,by go_num,(by rw[HT.out,hA.out];rfl:hasN x (l.take (k+1))=false)⟩
    case measure=>simp[intOf];omega
  ·obtain rfl:k=l.length:=by omega
   have hltz:¬ (l.length:Int)<(l.length:Int):=by omega
   have HK:Hid (hasN x l=false):=by have:=hA.out;rw[List.take_length] at this;exact this
   clear hA hv
   go_wp2
   go_ret
   exact⟨_,rfl,.inl ⟨rfl,HK.out⟩,rfl⟩
theorem containsI_any(x:Int)(B:Nat)(v:Value)(l:List Int)(w:World)(h:HasI w B v l)(hl:l.length≤100) :
  Calls Tryz.prog 260 #[v,.int .i64 x] w fun e w'=>e = .returned (.bool (hasN x l))∧w'=w:=by
 have hi:=indexI_any x B v l w h hl
 clear h
 obtain⟨b,hb⟩:∃ b,hasN x l=b:=⟨_,rfl⟩
 have HB:Hid (hasN x l=b):=hb
 rw[hb]
 clear hb
 go_enter Tryz.func260,Tryz.ntmps260
 go_wp2_with fail
 refine hi.mono ?_
 rintro e w' ⟨i,rfl,hF,rfl⟩
 rcases hF with ⟨rfl,hF⟩|⟨h0,hF⟩
 ·go_wp2_with fail
  go_ret
  exact⟨by rw[← HB.out,hF];rfl,rfl⟩
 ·have g0:decide (0≤i)=true:=decide_eq_true h0
  go_wp2_with fail
  go_ret
  exact⟨by rw[← HB.out,hF];first|rfl|simp[h0],rfl⟩
theorem SvIs.rowed{y z:World}{a:Ad}{s:Sv}(h:SvIs y a s){o:Nat}(ho:o<8){v v1:Value}{l:List M}(hv:y.cell? ⟨a.S,48+o,none⟩=some v)(hg:y.grownBy z v.ownBlock)(hM:HasM z (a.S+1) v1 l)(hl:l.length≤10)(hat:∀ g,v1.ownBlock=some g→v.ownBlock=some g∨y.heap.size≤g) :
  SvIs (z.setCell ⟨a.S,48+o,none⟩ v1) a { s with waits:=updN s.waits o l }∧Fs a y (z.setCell ⟨a.S,48+o,none⟩ v1):=by
 have hls:=h.lts
 have h1:=h.qU
 have h2:=h.Um
 have h3:=h.mT
 have h4:=h.TS
 have hsz:=hg.size
 have n:∀ k,k≤a.S→v.ownBlock≠some k:=fun k hk q=>by have:=(h.rowS ho hv q).1;omega
 have ez:∀ k,k<y.heap.size→v.ownBlock≠some k→z.heap[k]?=y.heap[k]?:=fun k hk hn=>hg.block k hk (fun q=>hn q.symm)
 have eb:∀ k,k<y.heap.size→k≠a.S→v.ownBlock≠some k→(z.setCell ⟨a.S,48+o,none⟩ v1).heap[k]?=y.heap[k]?:=fun k hk hS hn=>(Below.heap_setCell z ⟨a.S,48+o,none⟩ v1 k hS).trans (ez k hk hn)
 have eS:=ez a.S (by omega) (n _ (by omega))
 have ec:∀ i,i≠48+o→(z.setCell ⟨a.S,48+o,none⟩ v1).cell? ⟨a.S,i,none⟩=y.cell? ⟨a.S,i,none⟩:=fun i hi=>(World.cell?_setCell_other _ _ _ _ (by intro q;injection q with _ q;omega)).trans (World.cell?_of_block eS)
 have n0:(z.setCell ⟨a.S,48+o,none⟩ v1).cell? ⟨a.S,48+o,none⟩=some v1:=World.cell?_setCell_same _ _ _ ((World.cell?_of_block (a:=⟨a.S,48+o,none⟩) eS).trans hv)
 have nr:∀ u g,y.cell? ⟨a.U,1,none⟩=some u→u.ownBlock=some g→v.ownBlock≠some g:=fun u g hu hg' q=>by
  obtain⟨_,c1,f1,k1⟩:=h.rowU hu hg'
  obtain⟨_,c2,f2,k2⟩:=h.rowS ho hv q
  exact typ_ne k1 k2 (by decide) rfl
 have hU:=eb a.U (by omega) (by omega) (n _ (by omega))
 have hq:=eb a.q (by omega) (by omega) (n _ (by omega))
 have hT:=eb a.T (by omega) (by omega) (n _ (by omega))
 have hm:=eb a.m (by omega) (by omega) (n _ (by omega))
 have hsz2:y.heap.size≤(z.setCell ⟨a.S,48+o,none⟩ v1).heap.size:=by simpa using hsz
 refine⟨⟨Wal.typ_setCell (by rw[eS];exact h.typ),fun i=>by rw[World.frozen?_setCell];exact(World.frozen?_of_block (a:=⟨a.S,i,none⟩) eS).trans (h.free i),(ec 0 (by omega)).trans h.c0,(ec 1 (by omega)).trans h.c1,(ec 2 (by omega)).trans h.c2,(ec 3 (by omega)).trans h.c3,(ec 4 (by omega)).trans h.c4,(ec 5 (by omega)).trans h.c5,(ec 6 (by omega)).trans h.c6,
  fun i hi=>(ec _ (by omega)).trans (h.vd i hi),fun i hi=>(ec _ (by omega)).trans (h.vv i hi),fun i hi j u hu=>(ec _ (by have:=(List.getElem?_eq_some_iff.1 hu).1;rw[Wal.R.cells_length] at this;omega)).trans (h.la i hi j u hu),(ec 47 (by omega)).trans h.c47,fun i hi=>?_,fun i j u x hi hj hn hu hx=>?_,
  WalIs.keep2 h.log hsz2 hU (fun u g hu hg'=>eb g (h.footLt (.inr (.inr (.inr (.inr (.inr (.inl ⟨u,hu,hg'⟩))))))) (by have:=(h.rowU hu hg');obtain⟨_,c1,f1,k1⟩:=this;obtain⟨c2,f2,k2⟩:=h.typ;exact typ_ne k1 k2 (by decide)) (nr u g hu hg')),DiskIs.keep h.disk hq,h.tab.blocks hT hm,by rw[hT];exact h.tt,h.qU,h.Um,h.mT,h.TS,fun i hi=>?_⟩,
  ⟨hg.os,hg.tape,hg.output,hsz2,fun k hk hf=>eb k hk (fun q=>hf (.inr (.inr (.inl q)))) (fun q=>hf (.inr (.inr (.inr (.inr (.inr (.inr ⟨o,v,ho,hv,q⟩))))))),fun k hk f=>?_,fun i _=>World.cell?_of_block hq,fun i=>World.frozen?_of_block hq,fun t ht=>by rw[hq];exact ht⟩⟩
 ·dsimp only
  by_cases q:i=o
  ·subst q
   rw[updN_same]
   exact⟨v1,n0,hM.setBelow⟩
  ·rw[updN_other _ _ q]
   obtain⟨u,hu,hmu⟩:=h.wait i hi
   refine⟨u,(ec _ (by omega)).trans hu,HasM.setBelow (row_kept hmu fun g hg'=>ez g (World.ownsRow.lt hmu g hg').2 (fun q'=>h.apart i o u v hi ho q hu hv g hg' q'))⟩
 ·by_cases q:i=o
  ·subst q
   rw[n0] at hu
   injection hu with hu
   subst hu
   have hx':=(ec _ (by omega)).symm.trans hx
   intro g hg' hxg
   rcases hat g hg' with k|k
   ·exact h.apart i j v x hi hj hn hv hx' g k hxg
   ·have:=h.footLt (.inr (.inr (.inr (.inr (.inr (.inr ⟨j,x,hj,hx',hxg⟩))))))
    omega
  ·have hu':=(ec _ (by omega)).symm.trans hu
   by_cases q':j=o
   ·subst q'
    rw[n0] at hx
    injection hx with hx
    subst hx
    intro g hg' hxg
    rcases hat g hxg with k|k
    ·exact h.apart i j u v hi hj hn hu' hv g hg' k
    ·have:=h.footLt (.inr (.inr (.inr (.inr (.inr (.inr ⟨i,u,hi,hu',hg'⟩))))))
     omega
   ·exact h.apart i j u x hi hj hn hu' ((ec _ (by omega)).symm.trans hx)
 ·dsimp only
  by_cases q:i=o
  ·subst q
   rw[updN_same]
   exact hl
  ·rw[updN_other _ _ q]
   exact h.len i hi
 ·rcases f with f|f|f|f|f|⟨u,k1,k2⟩|⟨i,u,hi,k1,k2⟩
  ·exact .inl f
  ·exact .inr (.inl f)
  ·exact .inr (.inr (.inl f))
  ·exact .inr (.inr (.inr (.inl f)))
  ·exact .inr (.inr (.inr (.inr (.inl f))))
  ·exact .inr (.inr (.inr (.inr (.inr (.inl ⟨u,(World.cell?_of_block (a:=⟨a.U,1,none⟩) hU).symm.trans k1,k2⟩)))))
  ·by_cases q:i=o
   ·subst q
    rw[n0] at k1
    injection k1 with k1
    subst k1
    rcases hat k k2 with q|q
    ·exact .inr (.inr (.inr (.inr (.inr (.inr ⟨i,v,hi,hv,q⟩)))))
    ·omega
   ·exact .inr (.inr (.inr (.inr (.inr (.inr ⟨i,u,hi,(ec _ (by omega)).symm.trans k1,k2⟩)))))
def Sv.enq(s:Sv)(m:M)(o:Nat):Sv×Bool:=
 if (s.waits o).any (sameW m.c m.n)=true then (s,true) else if 10≤(s.waits o).length then (s,false) else ({ s with waits:=updN s.waits o (s.waits o++[m]) },true)
theorem enqueue_any(a:Ad)(s:Sv)(mk mc mn me ms mv:Int)(o:Nat)(ml:Bool)(md:ByteArray)(w:World)(h:SvIs w a s)(ho:o<8)(x:Sv×Bool)(hx:Hid (s.enq ⟨mk,mc,mn,me,ms,o,mv,ml,md⟩ o=x)) :
  Calls Tryz.prog 225 #[tp a.S,Wire.M.agg ⟨mk,mc,mn,me,ms,o,mv,ml,md⟩] w fun e w'=>e = .returned (.bool x.2)∧SvIs w' a x.1∧Fs a w w':=by
 have hlt:=h.lt
 have hB:MB (mbox w mk mc mn me ms o mv ml md) w.heap.size ⟨mk,mc,mn,me,ms,o,mv,ml,md⟩:=mbox_is w _ _ _ _ _ _ _ _ _
 have F:SvIs (mbox w mk mc mn me ms o mv ml md) a s:=h.alloc _
 have hb0:Below w.heap.size w (mbox w mk mc mn me ms o mv ml md):=(Below.refl _ _).alloc (Nat.le_refl _) _
 have hsz:(mbox w mk mc mn me ms o mv ml md).heap.size=w.heap.size+1:=by simp
 have hF:=Fs.of_below h hb0
 have hfr:¬ foot (mbox w mk mc mn me ms o mv ml md) a w.heap.size:=h.fresh hb0 (Nat.le_refl _)
 have ho0:(0:Int)≤(o:Int):=by omega
 have ho8:(o:Int)<8:=by omega
 unfold mbox at *
 unfold Wire.M.agg
 dsimp only
 clear h
 go_enter Tryz.func225,Tryz.ntmps225
 go_wp2_with fail
 generalize w.alloc (.cells #[.int .i64 mk,.int .i64 mc,.int .i64 mn,.int .i64 me,.int .i64 ms,.int .i64 o,.int .i64 mv,.bool ml,.string md] 129)=w1 at *
 have b5:=hB.c5
 dsimp only at b5
 obtain⟨v,hv,hm⟩:=F.wait o ho
 have hlen:=F.len o ho
 obtain⟨ao,cc,rfl,hnc,_⟩:=Net.row_shape hm
 have hnf:(Value.slice ao (s.waits o).length cc).ownBlock≠some w.heap.size:=fun q=>hfr (.inr (.inr (.inr (.inr (.inr (.inr ⟨o,_,ho,hv,q⟩))))))
 have HNF:Hid ((Value.slice ao (s.waits o).length cc).ownBlock≠some w.heap.size):=hnf
 clear hnf
 go_quiet (fail)
 go_wp2_with fail
 generalize hW:w1.drewN _=W
 have F2:SvIs W a s:=by rw[← hW];exact F.drewN _
 have hF2:Fs a w W:=by rw[← hW];exact hF.drewN _
 have hB2:MB W w.heap.size ⟨mk,mc,mn,me,ms,o,mv,ml,md⟩:=by rw[← hW];exact⟨hB.c0,hB.c1,hB.c2,hB.c3,hB.c4,hB.c5,hB.c6,hB.c7,hB.c8⟩
 have hv2:W.cell? ⟨a.S,48+o,none⟩=some (.slice ao (s.waits o).length cc):=by rw[← hW];exact hv
 have hm2:HasM W (a.S+1) (.slice ao (s.waits o).length cc) (s.waits o):=by rw[← hW];exact hm
 have hs2:W.heap.size=w.heap.size+1:=by rw[← hW];exact hsz
 clear hW F hF hB hv hm hsz b5 hfr hb0
 have hcon:=containsM_any mc mn w.heap.size (a.S+1) _ (s.waits o) W hm2 (by omega) hB2.c1 hB2.c2
 obtain⟨b,hb⟩:∃ b,(s.waits o).any (sameW mc mn)=b:=⟨_,rfl⟩
 have hx2:Hid ((if b=true then (s,true) else if 10≤(s.waits o).length then (s,false) else ({ s with waits:=updN s.waits o (s.waits o++[⟨mk,mc,mn,me,ms,o,mv,ml,md⟩]) },true))=x):=by rw[← hb];exact hx.out
 rw[hb] at hcon
 clear hx hb
 refine hcon.mono ?_
 rintro e w2 ⟨rfl,hb2⟩
 have F3:=F2.below hb2
 have hF3:=hF2.below F2 hb2
 have hB3:=hB2.below hb2 (by omega)
 have hv3:=(hb2.cell (p:=⟨a.S,48+o,none⟩) (by dsimp only;omega)).trans hv2
 have hm3:=hm2.below hb2
 have hs3:=hb2.size
 clear hcon F2 hF2 hB2 hv2 hm2 hb2
 cases b with
 | true=>
  have e:x=(s,true):=hx2.out.symm
  go_wp2_with fail
  go_ret
  rw[e]
  exact⟨rfl,F3,hF3⟩
 | false=>
  by_cases h10:10≤(s.waits o).length
  ·have e:x=(s,false):=hx2.out.symm.trans (if_pos h10)
   have h10':(10:Int)≤((s.waits o).length:Int):=by omega
   go_wp2_with fail
   go_ret
   rw[e]
   exact⟨rfl,F3,hF3⟩
  ·have e:Hid (x=({ s with waits:=updN s.waits o (s.waits o++[⟨mk,mc,mn,me,ms,o,mv,ml,md⟩]) },true)):=hx2.out.symm.trans (if_neg h10)
   have h10':¬ (10:Int)≤((s.waits o).length:Int):=by omega
   clear hx2
   go_wp2_with fail
   obtain⟨i0,hi,hy0,hy1,hy2⟩:=info_parts info_msg
   refine Gen.start (S:=fun w'=>MB w' w.heap.size ⟨mk,mc,mn,me,ms,o,mv,ml,md⟩) (by kernel_rfl) ⟨hB3.c0,hB3.c1,hB3.c2,hB3.c3,hB3.c4,hB3.c5,hB3.c6,hB3.c7,hB3.c8⟩ (fun hHeld=>?_)
   refine Gen.tk 0 7 ?_ rfl rfl (Or.inl ⟨by rfl,?_⟩) hHeld ?_
   rotate_left
   ·intro w' hSw
    obtain⟨s0,s1,s2,s3,s4,s5,s6,s7,s8⟩:=hSw
    dsimp only at s0 s1 s2 s3 s4 s5 s6 s7 s8
    go_simp
    try with_reducible rfl
   go_frame
   refine Gen.tk 1 2 ?_ rfl rfl (Or.inl ⟨by rfl,?_⟩) hHeld ?_
   rotate_left
   ·intro w' hSw
    obtain⟨s0,s1,s2,s3,s4,s5,s6,s7,s8⟩:=hSw
    dsimp only at s0 s1 s2 s3 s4 s5 s6 s7 s8
    go_simp
    try with_reducible rfl
   go_frame
   refine Gen.tk 2 9 ?_ rfl rfl (Or.inl ⟨by rfl,?_⟩) hHeld ?_
   rotate_left
   ·intro w' hSw
    obtain⟨s0,s1,s2,s3,s4,s5,s6,s7,s8⟩:=hSw
    dsimp only at s0 s1 s2 s3 s4 s5 s6 s7 s8
    go_simp
    try with_reducible rfl
   go_frame
   refine Gen.tk 3 6 ?_ rfl rfl (Or.inl ⟨by rfl,?_⟩) hHeld ?_
   rotate_left
   ·intro w' hSw
    obtain⟨s0,s1,s2,s3,s4,s5,s6,s7,s8⟩:=hSw
    dsimp only at s0 s1 s2 s3 s4 s5 s6 s7 s8
    go_simp
    try with_reducible rfl
   go_frame
   refine Gen.tk 4 5 ?_ rfl rfl (Or.inl ⟨by rfl,?_⟩) hHeld ?_
   rotate_left
   ·intro w' hSw
    obtain⟨s0,s1,s2,s3,s4,s5,s6,s7,s8⟩:=hSw
    dsimp only at s0 s1 s2 s3 s4 s5 s6 s7 s8
    go_simp
    try with_reducible rfl
   go_frame
   refine Gen.tk 7 8 ?_ rfl rfl (Or.inl ⟨by rfl,?_⟩) hHeld ?_
   rotate_left
   ·intro w' hSw
    obtain⟨s0,s1,s2,s3,s4,s5,s6,s7,s8⟩:=hSw
    dsimp only at s0 s1 s2 s3 s4 s5 s6 s7 s8
    go_simp
    try with_reducible rfl
   go_frame
   refine Gen.tk 8 9 ?_ rfl rfl (Or.inl ⟨by rfl,?_⟩) hHeld ?_
   rotate_left
   ·intro w' hSw
    obtain⟨s0,s1,s2,s3,s4,s5,s6,s7,s8⟩:=hSw
    dsimp only at s0 s1 s2 s3 s4 s5 s6 s7 s8
    go_simp
    try with_reducible rfl
   go_frame
   refine Gen.one (i:=5) (by kernel_rfl) rfl rfl (fun K hK=>?_)
   go_simp
   have hbA:Below w2.heap.size w2 (w2.alloc (.cells #[.int .i64 mk,.int .i64 mc,.int .i64 mn,.int .i64 me,.int .i64 ms,.int .i64 o,.int .i64 mv,.bool ml,.string md] 129)).drew:=((Below.refl _ _).alloc (Nat.le_refl _) _).drew
   have F4:=F3.below hbA
   have hF4:=hF3.below F3 hbA
   have hm4:=hm3.below hbA
   have hv4:=(hbA.cell (p:=⟨a.S,48+o,none⟩) (by dsimp only;omega)).trans hv3
   have hB4:=hB3.below hbA (by omega)
   have hmade:=msg_made w2 ⟨mk,mc,mn,me,ms,o,mv,ml,md⟩
   have hs4:(w2.alloc (.cells #[.int .i64 mk,.int .i64 mc,.int .i64 mn,.int .i64 me,.int .i64 ms,.int .i64 o,.int .i64 mv,.bool ml,.string md] 129)).drew.heap.size=w2.heap.size+1:=by show (World.alloc _ _).heap.size=_;simp
   refine hK.out _ _ hB4 (fun hHeld=>?_)
   clear hK K
   try go_frame
   refine Gen.one (i:=6) (by kernel_rfl) rfl rfl (fun K hK=>?_)
   refine App.wp_append_at _ (.tmp 22) (.tmp 24) 141 rfl (a.S+1) 129 i0 (.agg #[.int .i64 0,.int .i64 0,.int .i64 0,.int .i64 0,.int .i64 0,.int .i64 0,.int .i64 0,.bool false,.string ⟨#[]⟩]) 9 80 Tryz.underlying141 hi hy0 hy1 hy2 rfl (by decide) _ _ _ (by rfl) hm4 ⟨w2.heap.size,0,none⟩ 1 1 (mcell ⟨mk,mc,mn,me,ms,o,mv,ml,md⟩) (by rfl) rfl hmade (mcell_one _) (by unfold maxLen;omega) (by omega) (by omega) ?_
   intro v1 w3 hown1 hg1 hat
   have hM5:HasM w3 (a.S+1) v1 (s.waits o++[⟨mk,mc,mn,me,ms,o,mv,ml,md⟩]):=HasM.app hown1
   obtain⟨R1,R2⟩:=F4.rowed ho hv4 hg1 hM5 (by simp;omega) hat
   have hF5:=hF4.trans R2
   have hB5:MB w3 w.heap.size ⟨mk,mc,mn,me,ms,o,mv,ml,md⟩:=by
    have e:∀ j,w3.cell? ⟨w.heap.size,j,none⟩=_:=fun j=>World.cell?_of_block (hg1.block w.heap.size (by omega) (fun q=>HNF.out q.symm))
    exact⟨(e _).trans hB4.c0,(e _).trans hB4.c1,(e _).trans hB4.c2,(e _).trans hB4.c3,(e _).trans hB4.c4,(e _).trans hB4.c5,(e _).trans hB4.c6,(e _).trans hB4.c7,(e _).trans hB4.c8⟩
   refine hK.out _ _ hB5 (fun hHeld=>?_)
   clear hK K
   try go_frame
   refine Gen.tk 9 10 ?_ rfl rfl (Or.inl ⟨by rfl,?_⟩) hHeld ?_
   rotate_left
   ·intro w' hSw
    clear hSw
    go_simp
    try with_reducible rfl
   go_frame
   refine Gen.last (i:=10) (by kernel_rfl) rfl rfl (by kernel_rfl) (by kernel_rfl) (fun K hK=>?_)
   have hl5:=F4.lts
   have eS5:w3.heap[a.S]?=_:=hg1.block a.S (by omega) (fun q=>by have:=(F4.rowS ho hv4 q.symm).1;omega)
   have hc5:=(World.cell?_of_block (a:=⟨a.S,48+o,none⟩) eS5).trans hv4
   have hf5:w3.frozen? ⟨a.S,48+o,none⟩=false:=(World.frozen?_of_block (a:=⟨a.S,48+o,none⟩) eS5).trans (F4.free _)
   obtain⟨a1,cc1,rfl,_,_⟩:=Net.row_shape hown1
   go_simp
   refine hK.out _ _ ?_
   clear hK K hHeld
   generalize w3.setCell ⟨a.S,48+o,none⟩ _=w5 at *
   go_wp2_with fail
   go_ret
   rw[e.out]
   exact⟨rfl,R1,hF5⟩
end Wld
end
section
namespace Net
open Go.RowKit
open Wire (Has bcell Sees conv_sees)
open Num (strOf)
def put(ps:List (Int×ByteArray))(p:Int×ByteArray):List (Int×ByteArray):=if ps.length<200 then ps++[p] else ps
theorem add_any(B q:Nat)(ps:List (Int×ByteArray))(to:Int)(s:ByteArray)(w:World)(h:NetIs w B q ps) :
  Calls Tryz.prog 133 #[.pointer (some ⟨q,12405,none⟩),.agg #[.int .i64 to,.string s]] w fun e w'=>e = .returned (.tuple #[])∧NetIs w' B q (put ps (to,s))∧Only B 201 q w w':=by
 by_cases hl:ps.length<200
 ·have e:put ps (to,s)=ps++[(to,s)]:=by simp[put,hl]
  rw[e]
  exact add_room B q ps to s w h hl
 ·have e:put ps (to,s)=ps:=by simp[put,hl]
  rw[e]
  exact add_full B q ps to s w h (by have:=h.len;omega)
theorem NetIs.other{w w':World}{B q:Nat}{ps:List (Int×ByteArray)}(h:NetIs w B q ps)(hb:Below w.heap.size w w'):NetIs w' B q ps:=by
 obtain⟨⟨v,hv,hrow⟩,⟨lost,hlost⟩,hfr,hlt,hle,hlen⟩:=h
 obtain⟨hc,hf⟩:=bcell hb
 have hqs:q<w.heap.size:=by omega
 refine⟨⟨v,(hc _ _ hqs).trans hv,hrow.1,?_⟩,⟨lost,(hc _ _ hqs).trans hlost⟩,fun i=>(hf _ _ hqs).trans (hfr i),hlt,by have:=hb.size;omega,hlen⟩
 rcases hrow.2 with h|⟨g,cap,cur,h1,h2,h3,h4⟩
 ·exact .inl h
 ·exact .inr ⟨g,cap,cur,h1,h2,(hb.block g (Array.getElem?_eq_some_iff.1 h3).1).trans h3,h4⟩
theorem send_any(B q C:Nat)(ps:List (Int×ByteArray))(to:Int)(sv:Value)(bs:List Int)(w:World)(h:NetIs w B q ps)(hs:Sees w C sv bs)(hC:C≤w.heap.size) :
  Calls Tryz.prog 177 #[.pointer (some ⟨q,12405,none⟩),.agg #[.int .i64 to,sv]] w fun e w'=>e = .returned (.tuple #[])∧NetIs w' B q (put ps (to,strOf bs))∧Only B 201 q w w':=by
 have hcv:=fun o=>conv_sees (hs.below ((Below.refl _ _).alloc hC o) (Nat.le_refl _))
 have hN:=fun o=>h.other ((Below.refl _ _).alloc (Nat.le_refl _) o)
 obtain⟨ao,c,rfl,_⟩:=hs
 go_enter Tryz.func177,Tryz.ntmps177
 go_wp2_with fail
 refine(add_any B q ps to _ _ (hN _)).mono ?_
 rintro e w' ⟨rfl,hn,ho⟩
 go_wp2
 go_end0
 exact⟨rfl,hn,((Only.refl _ _ _ _).alloc _).trans ho⟩
theorem many_any(B q:Nat)(ps:List (Int×ByteArray))(w:World)(h:NetIs w B q ps) :
  Calls Tryz.prog 43 #[.pointer (some ⟨q,12405,none⟩)] w fun e w'=>e = .returned (.int .i64 ps.length)∧w'=w:=by
 obtain⟨⟨v,hv,hrow⟩,_,_,_,_,hlen⟩:=h
 obtain⟨ao,c,rfl,_,_⟩:=row_shape hrow
 go_enter Tryz.func43,Tryz.ntmps43
 go_wp2
 go_ret
 exact⟨rfl,rfl⟩
theorem NetIs.at{w:World}{B q:Nat}{ps:List (Int×ByteArray)}(h:NetIs w B q ps)(k:Nat)(hk:k<ps.length) :
  ∃ g c,w.cell? ⟨q,12405,none⟩=some (.slice (some ⟨g,0,none⟩) ps.length c)∧w.ownsRow B 201 2 (.slice (some ⟨g,0,none⟩) ps.length c) ps.length (pcells ps)∧ps.length≤c∧B≤g∧g<w.heap.size ∧
   w.cell? ⟨g,k*2,none⟩=some (.int .i64 ps[k].1)∧w.cell? ⟨g,k*2+1,none⟩=some (.string ps[k].2):=by
 obtain⟨⟨v,hv,hrow⟩,_,_,_,_,_⟩:=h
 have hlt:=hrow.lt
 rcases hrow.2 with ⟨_,h0⟩|⟨g,cap,cur,rfl,hB,hh,hn,_⟩
 ·omega
 ·have hp:=pcells_get ps k hk
  refine⟨g,cap,hv,hrow,hn,hB,(hlt g rfl).2,?_,?_⟩
  ·rw[hrow.cellAt _ (by omega)];exact hp.1
  ·rw[hrow.cellAt _ (by omega)];exact hp.2
theorem twice_no(B q:Nat)(ps:List (Int×ByteArray))(k:Int)(w:World)(h:NetIs w B q ps)(hk:hasB k ps.length=false) :
  Calls Tryz.prog 67 #[.pointer (some ⟨q,12405,none⟩),.int .i64 k] w fun e w'=>e = .returned (.iface 59 (.int .i64 2))∧w'=w:=by
 obtain⟨⟨v,hv,hrow⟩,_,_,_,_,hlen⟩:=h
 obtain⟨ao,c,rfl,_,_⟩:=row_shape hrow
 go_enter Tryz.func67,Tryz.ntmps67
 go_wp2_with (go_at_call 126;refine(has_any q ao ps.length c k _ hlen hv).mono ?_;rintro e w' ⟨rfl,rfl⟩)
 go_ret
 exact⟨rfl,rfl⟩
theorem twice_yes(B q:Nat)(ps:List (Int×ByteArray))(k:Nat)(w:World)(h:NetIs w B q ps)(hk:k<ps.length) :
  Calls Tryz.prog 67 #[.pointer (some ⟨q,12405,none⟩),.int .i64 k] w fun e w'=>e = .returned .nilIface∧NetIs w' B q (put ps ps[k])∧Only B 201 q w w':=by
 have hlen:=h.len
 obtain⟨g,c,hv,hrow,hnc,hgB,hgs,hc0,hc1⟩:=h.at k hk
 have hhas:hasB (k:Int) ps.length=true:=hasB_true (by omega) (by omega)
 have hkI:(k:Int)<(ps.length:Int):=by omega
 generalize hp:ps[k]=p at *
 obtain⟨to,s⟩:=p
 dsimp only at hc0 hc1
 clear hp
 go_enter Tryz.func67,Tryz.ntmps67
 go_wp2_with (first|(go_at_call 126;refine(has_any q _ ps.length c k _ hlen hv).mono ?_;rintro e w' ⟨rfl,rfl⟩)|(go_at_call 133;refine(add_any B q ps to s _ h).mono ?_;rintro e w' ⟨rfl,hn,ho⟩))
 go_ret
 exact⟨rfl,hn,ho⟩
end Net
end
section
namespace Net
open Go.RowKit
theorem heap_setCell{w:World}{g i:Nat}{cur:Array Value}{e:TypeId}{f:Nat×Nat}{u:Value}(h:w.heap[g]?=some (.cells cur e f)):(w.setCell ⟨g,i,none⟩ u).heap[g]?=some (.cells (cur.setIfInBounds i u) e f):=by
 unfold World.setCell
 rw[Array.getElem?_modify,if_pos rfl,h]
 rfl
theorem heap_setCells{g:Nat}{e:TypeId}{f:Nat×Nat}:∀ (vs:List Value) (o:Nat) (w:World) (cur:Array Value),w.heap[g]?=some (.cells cur e f)→o+vs.length≤cur.size →
  ∃ cur',(w.setCells g o vs).heap[g]?=some (.cells cur' e f)∧cur'.size=cur.size∧∀ i,cur'[i]?=if o≤i∧i<o+vs.length then vs[i-o]? else cur[i]?
 | [],o,w,cur,h,_=>⟨cur,h,rfl,fun i=>by rw[if_neg (by simp)]⟩
 | v :: vs,o,w,cur,h,hl=>by
  rw[List.length_cons] at hl
  obtain⟨cur',h1,h2,h3⟩:=heap_setCells vs (o+1) _ _ (heap_setCell (i:=o) (u:=v) h) (by simp;omega)
  refine⟨cur',h1,by simpa using h2,fun i=>?_⟩
  rw[h3 i,List.length_cons]
  by_cases c1:o+1≤i∧i<o+1+vs.length
  ·rw[if_pos c1,if_pos (by omega),show i-o=(i-(o+1))+1 by omega,List.getElem?_cons_succ]
  ·rw[if_neg c1]
   by_cases c2:i=o
   ·subst c2
    rw[if_pos (by omega),Nat.sub_self,List.getElem?_cons_zero,Array.getElem?_setIfInBounds_self_of_lt (by omega)]
   ·rw[if_neg (by omega),Array.getElem?_setIfInBounds_ne (by omega)]
theorem add_off(g o j:Nat):(⟨g,o,none⟩:Addr).add j=⟨g,o+j,none⟩:=by unfold Addr.add;split<;>simp_all
theorem del_news{w:World}{B g c k m:Nat}{ps:List (Int×ByteArray)}(_hm:ps.length=k+m+1)(hrow:w.ownsRow B 201 2 (.slice (some ⟨g,0,none⟩) ps.length c) ps.length (pcells ps)) :
  ∀ j u,((pcells ps).drop ((k+1)*2))[j]?=some u→w.drew.cell? ((⟨g,(k+1)*2,none⟩:Addr).add j)=some u:=by
 intro j u hj
 rw[List.getElem?_drop] at hj
 have hlt:=(List.getElem?_eq_some_iff.1 hj).1
 rw[pcells_length] at hlt
 rw[add_off]
 show w.cell? ⟨g,(k+1)*2+j,none⟩=some u
 rw[hrow.cellAt _ (by omega)]
 exact hj
theorem del_spare{w:World}{B g c k m:Nat}{ps:List (Int×ByteArray)}(hm:ps.length=k+m+1)(hrow:w.ownsRow B 201 2 (.slice (some ⟨g,0,none⟩) ps.length c) ps.length (pcells ps)) :
  ∀ j,j<m*2→(w.drew.cell? ⟨g,0+k*2+j,none⟩).isSome=true∧w.drew.frozen? ⟨g,0+k*2+j,none⟩=false:=by
 intro j hj
 refine⟨?_,hrow.frozenAt _⟩
 show (w.cell? ⟨g,0+k*2+j,none⟩).isSome=true
 rw[hrow.cellAt _ (by omega),List.getElem?_eq_getElem (by rw[pcells_length];omega)]
 rfl
theorem setCells_some{g:Nat}:∀ (vs:List Value) (o:Nat) (w:World) (x:Addr),(w.cell? x).isSome=true→((w.setCells g o vs).cell? x).isSome=true
 | [],_,_,_,h=>h
 | v :: vs,o,w,x,h=>by
  rw[World.setCells]
  refine setCells_some vs (o+1) _ x ?_
  obtain⟨u,hu⟩:=Option.isSome_iff_exists.1 h
  obtain⟨u',hu'⟩:=cell?_setCell_some (p:=⟨g,o,none⟩) (x:=v) hu
  rw[hu']
  rfl
theorem del_there{w:World}{B g c k m:Nat}{ps:List (Int×ByteArray)}{news:List Value}(hm:ps.length=k+m+1)(hrow:w.ownsRow B 201 2 (.slice (some ⟨g,0,none⟩) ps.length c) ps.length (pcells ps)) :
  ∀ j,j<2→((w.drew.setCells g (k*2) news).cell? ⟨g,(k+m)*2+j,none⟩).isSome=true:=by
 intro j hj
 refine setCells_some _ _ _ _ ?_
 show (w.cell? ⟨g,(k+m)*2+j,none⟩).isSome=true
 rw[hrow.cellAt _ (by omega),List.getElem?_eq_getElem (by rw[pcells_length];omega)]
 rfl
theorem clear_one(W:World)(g o c:Nat)(hc:∀ j,j<2→(W.cell? ⟨g,o+j,none⟩).isSome=true)(hf:∀ j,j<2→W.frozen? ⟨g,o+j,none⟩=false) :
  (Builtin.clear_ #[75] 0 #[.slice (some ⟨g,o,none⟩) 1 c]).run Tryz.prog W = .ok (.tuple #[]) (W.setCells g o [.int .i64 0,.string ⟨#[]⟩]):=by
 have hst:=run_storeCells_cells (P:=Tryz.prog) g o [.int .i64 0,.string ⟨#[]⟩] 0 W (by simpa using hc) (by simpa using hf) (by intro v hv;simp at hv;rcases hv with rfl|rfl<;>rfl)
 simp only[Nat.add_zero] at hst
 have hz:(Builtin.zeroCells #[Value.int .i64 0,Value.string ⟨#[]⟩] 1).toList = [.int .i64 0,.string ⟨#[]⟩]:=by kernel_rfl
 simp[Builtin.clear_,run_underlying Tryz.underlying75,Value.cells,hz,hst]
theorem pcells_erase:∀ (ps:List (Int×ByteArray)) (k:Nat),k<ps.length→pcells (ps.eraseIdx k)=(pcells ps).take (k*2)++(pcells ps).drop ((k+1)*2)
 | p :: ps,0,_=>by simp[pcells]
 | p :: ps,k+1,h=>by
  have ih:=pcells_erase ps k (by simpa using h)
  have e:∀ qs,pcells (p :: qs) = .int .i64 p.1 :: .string p.2 :: pcells qs:=fun qs=>by simp[pcells]
  rw[List.eraseIdx_cons_succ,e,e,ih]
  rw[show (k+1)*2=k*2+1+1 by omega,show (k+1+1)*2=(k+1)*2+1+1 by omega]
  simp
  rw[show k*2+1+1=(k+1)*2 by omega]
theorem grown_setCells{g:Nat}:∀ (vs:List Value) (o:Nat) (a w:World),a.grownBy w (some g)→a.grownBy (w.setCells g o vs) (some g)
 | [],_,_,_,h=>h
 | v :: vs,o,a,w,h=>by
  rw[World.setCells]
  refine grown_setCells vs (o+1) a _ ⟨h.os,h.tape,h.output,by simpa using h.size,fun k hk hne=>?_⟩
  rw[Below.heap_setCell w ⟨g,o,none⟩ v k (fun e=>hne (by rw[e]))]
  exact h.block k hk hne
theorem del_fin{w:World}{B g c k m:Nat}{ps:List (Int×ByteArray)}{news:List Value}{z0 z1:Value}(hm:ps.length=k+m+1)(hk:k<ps.length)(hrow:w.ownsRow B 201 2 (.slice (some ⟨g,0,none⟩) ps.length c) ps.length (pcells ps))(hnw:(pcells ps).drop ((k+1)*2)=news)(hnl:news.length=m*2) :
  ((w.drew.setCells g (k*2) news).setCells g ((k+m)*2) [z0,z1]).ownsRow B 201 2 (.slice (some ⟨g,0,none⟩) (k+m) c) (k+m) (pcells (ps.eraseIdx k))∧w.grownBy ((w.drew.setCells g (k*2) news).setCells g ((k+m)*2) [z0,z1]) (some g):=by
 refine⟨?_,grown_setCells _ _ _ _ (grown_setCells _ _ _ _ ⟨rfl,rfl,rfl,Nat.le_refl _,fun _ _ _=>rfl⟩)⟩
 have hlen:(pcells ps).length=(k+m+1)*2:=by rw[pcells_length,hm]
 have hel:(pcells (ps.eraseIdx k)).length=(k+m)*2:=by rw[pcells_length,List.length_eraseIdx_of_lt hk];omega
 refine⟨hel,.inr ?_⟩
 rcases hrow.2 with ⟨h,_⟩|⟨g',cap,cur,he,hB,hh,hn,hcm,hcs,htake⟩
 ·cases h
 ·injection he with e1 e2 e3
  injection e1 with e1
  injection e1 with e1
  subst e1 e3
  rw[hm] at hn htake
  obtain⟨c1,h1,s1,g1⟩:=heap_setCells news (k*2) w.drew cur hh (by rw[hnl,hcs];omega)
  obtain⟨c2,h2,s2,g2⟩:=heap_setCells [z0,z1] ((k+m)*2) _ c1 h1 (by rw[s1,hcs];simp;omega)
  refine⟨g,c,c2,rfl,hB,h2,by omega,hcm,by rw[s2,s1,hcs],?_⟩
  rw[pcells_erase ps k hk]
  apply List.ext_getElem?
  intro i
  rw[List.getElem?_take]
  by_cases hi:i<(k+m)*2
  ·rw[if_pos hi,Array.getElem?_toList,g2 i,if_neg (by simp;omega),g1 i]
   have hcur:∀ j,j<(k+m+1)*2→cur[j]?=(pcells ps)[j]?:=fun j hj=>by
    rw[← htake,List.getElem?_take,if_pos hj,Array.getElem?_toList]
   by_cases hi2:i<k*2
   ·rw[if_neg (by omega),hcur i (by omega),List.getElem?_append_left (by rw[List.length_take];omega),List.getElem?_take,if_pos hi2]
   ·rw[if_pos (by omega),List.getElem?_append_right (by rw[List.length_take];omega),List.length_take,← hnw,show min (k*2) (pcells ps).length=k*2 by omega]
  ·rw[if_neg hi,List.getElem?_eq_none]
   rw[List.length_append,List.length_take,List.length_drop]
   omega
theorem del_any(B g c:Nat)(ps:List (Int×ByteArray))(k:Nat)(w:World)(hk:k<ps.length)(hl:ps.length≤200)(hnc:ps.length≤c)(hcm:c≤9223372036854775807)(hrow:w.ownsRow B 201 2 (.slice (some ⟨g,0,none⟩) ps.length c) ps.length (pcells ps)) :
  Calls Tryz.prog 127 #[.slice (some ⟨g,0,none⟩) ps.length c,.int .i64 k,.int .i64 ((k:Int)+1)] w fun e w'=>e = .returned (.slice (some ⟨g,0,none⟩) (ps.length-1) c)∧w'.ownsRow B 201 2 (.slice (some ⟨g,0,none⟩) (ps.length-1) c) (ps.length-1) (pcells (ps.eraseIdx k))∧w.grownBy w' (some g):=by
 obtain⟨i0,hi,hz0,hz1,hz2⟩:=info_parts info_packet
 obtain⟨m,hm⟩:∃ m,ps.length=k+m+1:=⟨ps.length-(k+1),by omega⟩
 have hnews:=del_news hm hrow
 have hspare:=del_spare hm hrow
 obtain⟨news,hnw⟩:∃ news,(pcells ps).drop ((k+1)*2)=news:=⟨_,rfl⟩
 have hnl:news.length=m*2:=by rw[← hnw,List.length_drop,pcells_length,hm];omega
 have hn1:∀ u∈news,u.oneCell'=true:=fun u hu=>pcells_one ps u (by rw[← hnw] at hu;exact List.mem_of_mem_drop hu)
 rw[hnw] at hnews
 rw[hm] at hnc hl ⊢
 have hne:((k:Int) == (k:Int)+1)=false:=by simp;omega
 have hkc:k≤c:=by omega
 have hp0:(0:Int)≤(k:Int)+1:=by omega
 have hp1:(k:Int)+1≤(k:Int)+(m:Int)+1:=by omega
 have hp2:((k:Int)+1).toNat=k+1:=by omega
 have HNE:Hid (∀ j u,news[j]?=some u→w.drew.cell? ((⟨g,(k+1)*2,none⟩:Addr).add j)=some u):=hnews
 have HSP:Hid (∀ j,j<m*2→(w.drew.cell? ⟨g,0+k*2+j,none⟩).isSome=true∧w.drew.frozen? ⟨g,0+k*2+j,none⟩=false):=hspare
 have HNL:Hid (news.length=m*2):=hnl
 have HN1:Hid (∀ u∈news,u.oneCell'=true):=hn1
 clear hnews hspare hnl hn1
 by_cases hc1:c=k+1
 ·obtain rfl:m=0:=by omega
  have hnil:news = []:=List.eq_nil_of_length_eq_zero (by have:=HNL.out;omega)
  subst hnil
  subst hc1
  have hii:(k:Int)≤(k:Int)+1:=by omega
  go_enter Tryz.func127,Tryz.ntmps127
  go_wp2_with fail
  go_region_law (refine step_append_room rfl (.tmp 22) (.tmp 25) 75 rfl 201 i0 2 Tryz.underlying75 hi hz1 g 0 k (k+1) (by simp[Act.eval,Act.put]) ⟨g,0,none⟩ 0 0 [] (by simp[Act.eval,Act.put]) rfl (fun j u hj=>by simp at hj) (fun u hu=>by simp at hu) (by omega) (fun j hj=>by simp at hj) ?_)
  have hclr:=clear_one (w.drew.setCells g (k*2) []) g (k*2) 1 (del_there (m:=0) (news:=[]) hm hrow) (fun j _=>hrow.frozenAt _)
  all_goals go_wp2_with fail
  all_goals go_ret
  exact⟨rfl,del_fin hm hk hrow hnw HNL.out⟩
 ·go_enter Tryz.func127,Tryz.ntmps127
  go_wp2_with fail
  go_region_law (refine step_append_room rfl (.tmp 22) (.tmp 25) 75 rfl 201 i0 2 Tryz.underlying75 hi hz1 g 0 k c (by simp[Act.eval,Act.put]) ⟨g,(k+1)*2,none⟩ m (c-(k+1)) news (by simp[Act.eval,Act.put]) HNL.out HNE.out HN1.out (by omega) (fun j hj=>HSP.out j (by rw[← HNL.out];exact hj)) ?_)
  have hclr:=clear_one (w.drew.setCells g (k*2) news) g ((k+m)*2) (c-(k+m)) (del_there hm hrow) (fun j _=>by rw[World.frozen?_setCells];exact hrow.frozenAt _)
  all_goals go_wp2_with fail
  all_goals go_ret
  exact⟨rfl,del_fin hm hk hrow hnw HNL.out⟩
end Net
end
end Go.Proofs.YtbebfliimjjohabGreatDoor
