/- Parts of the proof. -/
import Derived.Test.YtbebfliimjjohabGreatDoorLd22
import Derived.Test.YtbebfliimjjohabGreatDoorLd18
import Derived.Maps.RangeWalk
set_option maxRecDepth 100000
set_option maxHeartbeats 8000000
namespace Go.Proofs.YtbebfliimjjohabGreatDoor
section
namespace Wld
open Go.RowKit Go.Maps
open Lease (Ob I64 upd TabIs hol dels objB HasI kk mx)
open Cache (tp row_kept row_below)
open Wal (R mayB timeB WalIs DiskIs rcells Oq)
open Num (M)
abbrev svz (tob tv td:Int) (U T:Nat):Array Value:=#[.int .i64 tob,.int .i64 tv,.int .i64 td,tp U,.int .i64 0,.int .i64 0,.int .i64 0,.string ⟨#[]⟩,.int .i64 0,.string ⟨#[]⟩,.int .i64 0,.string ⟨#[]⟩,.int .i64 0,.string ⟨#[]⟩,.int .i64 0,.string ⟨#[]⟩,.int .i64 0,.string ⟨#[]⟩,.int .i64 0,.string ⟨#[]⟩,.int .i64 0,.string ⟨#[]⟩,.int .i64 0,.int .i64 0,.int .i64 0,.int .i64 0,.int .i64 0,.string ⟨#[]⟩,.int .i64 0,.int .i64 0,.int .i64 0,.int .i64 0,.int .i64 0,.string ⟨#[]⟩,.int .i64 0,.int .i64 0,.int .i64 0,.int .i64 0,.int .i64 0,.string ⟨#[]⟩,.int .i64 0,.int .i64 0,.int .i64 0,.int .i64 0,.int .i64 0,.string ⟨#[]⟩,.int .i64 0,tp T,.slice none 0 0,.slice none 0 0,.slice none 0 0,.slice none 0 0,.slice none 0 0,.slice none 0 0,.slice none 0 0,.slice none 0 0]
theorem lt8{P:Nat→Prop}(h0:P 0)(h1:P 1)(h2:P 2)(h3:P 3)(h4:P 4)(h5:P 5)(h6:P 6)(h7:P 7):∀ i,i<8→P i:=fun i hi=>by
 match i,hi with
 | 0,_=>exact h0
 | 1,_=>exact h1
 | 2,_=>exact h2
 | 3,_=>exact h3
 | 4,_=>exact h4
 | 5,_=>exact h5
 | 6,_=>exact h6
 | 7,_=>exact h7
theorem SvIs.made{w:World}{q U m T:Nat}{tob tv td:Int}{rs:List R}(hL:WalIs w U q rs false)(hD:DiskIs w q rs false 0)(hT:TabIs w T m (.map []) (fun _=>0) (fun _=>0) 0)(h1:q<U)(h2:U<m)(h3:m<T):SvIs (w.alloc (.cells (svz tob tv td U T) 144)) ⟨q,w.heap.size,U,T,m⟩ (Sv.zero tob tv td rs false 0):=by
 have hlt:=hT.lt
 have hb:Below w.heap.size w (w.alloc (.cells (svz tob tv td U T) 144)):=(Below.refl _ _).alloc (Nat.le_refl _) _
 have hn:(w.alloc (.cells (svz tob tv td U T) 144)).heap[w.heap.size]?=some (.cells (svz tob tv td U T) 144):=heap_alloc_new w _
 have c:∀ i,(w.alloc (.cells (svz tob tv td U T) 144)).cell? ⟨w.heap.size,i,none⟩=(svz tob tv td U T)[i]?:=fun i=>cell_of_row _ _ _ _ _ _ hn
 have hTt:=hT.typ
 refine⟨⟨_,_,hn⟩,fun i=>by simp,c 0,c 1,c 2,c 3,c 4,c 5,c 6,lt8 (c 7) (c 9) (c 11) (c 13) (c 15) (c 17) (c 19) (c 21),lt8 (c 8) (c 10) (c 12) (c 14) (c 16) (c 18) (c 20) (c 22),fun i hi j u hu=>?_,c 47,?_,?_,hL.below hb,hD.below hb (by omega),hT.below hb,hTt.imp fun _ k=>k.imp fun _ k=>(hb.block T hlt.1).trans k,h1,h2,h3,by dsimp only;omega,fun i _=>by simp[Sv.zero]⟩
 ·have hj:j<6:=by
   have:=(List.getElem?_eq_some_iff.1 hu).1
   simpa[Wal.R.cells] using this
  rw[← hu]
  show (w.alloc _).cell? ⟨w.heap.size,23+i*6+j,none⟩=_
  rw[c]
  match i,hi,j,hj with
  | 0,_,0,_=>rfl
  | 0,_,1,_=>rfl
  | 0,_,2,_=>rfl
  | 0,_,3,_=>rfl
  | 0,_,4,_=>rfl
  | 0,_,5,_=>rfl
  | 1,_,0,_=>rfl
  | 1,_,1,_=>rfl
  | 1,_,2,_=>rfl
  | 1,_,3,_=>rfl
  | 1,_,4,_=>rfl
  | 1,_,5,_=>rfl
  | 2,_,0,_=>rfl
  | 2,_,1,_=>rfl
  | 2,_,2,_=>rfl
  | 2,_,3,_=>rfl
  | 2,_,4,_=>rfl
  | 2,_,5,_=>rfl
  | 3,_,0,_=>rfl
  | 3,_,1,_=>rfl
  | 3,_,2,_=>rfl
  | 3,_,3,_=>rfl
  | 3,_,4,_=>rfl
  | 3,_,5,_=>rfl
 ·exact lt8 ⟨_,c 48,HasM.nil _ _⟩ ⟨_,c 49,HasM.nil _ _⟩ ⟨_,c 50,HasM.nil _ _⟩ ⟨_,c 51,HasM.nil _ _⟩ ⟨_,c 52,HasM.nil _ _⟩ ⟨_,c 53,HasM.nil _ _⟩ ⟨_,c 54,HasM.nil _ _⟩ ⟨_,c 55,HasM.nil _ _⟩
 ·intro i j u v hi hj hn' hu hv g hg
  have:(svz tob tv td U T)[48+i]?=some (.slice none 0 0):=lt8 (P:=fun i=>(svz tob tv td U T)[48+i]?=some (.slice none 0 0)) rfl rfl rfl rfl rfl rfl rfl rfl i hi
  have hu':(w.alloc (.cells (svz tob tv td U T) 144)).cell? ⟨w.heap.size,48+i,none⟩=some u:=hu
  rw[c,this] at hu'
  injection hu' with hu'
  subst hu'
  simp[Value.ownBlock] at hg
theorem rcells_get:∀ (l:List R) (i j:Nat) (h:i<l.length),j<6→(rcells l)[i*6+j]?=(l[i].cells)[j]?
 | [],_,_,h,_=>by simp at h
 | r :: l,0,j,_,hj=>by
  have e:rcells (r :: l)=r.cells++rcells l:=by simp[Wal.rcells]
  rw[e,List.getElem?_append_left (by simp[Wal.R.cells];omega)]
  simp
 | r :: l,i+1,j,h,hj=>by
  have e:rcells (r :: l)=r.cells++rcells l:=by simp[Wal.rcells]
  have hl:r.cells.length=6:=by simp[Wal.R.cells]
  rw[e,List.getElem?_append_right (by omega),hl,show (i+1)*6+j-6=i*6+j by omega]
  exact rcells_get l i j (by simpa using h) hj
theorem applied_terms(s:Sv)(r:R):(s.applied r).to=s.to∧(s.applied r).tv=s.tv∧(s.applied r).td=s.td∧(s.applied r).down=s.down∧(s.applied r).fails=s.fails∧(s.applied r).left=s.left∧(s.applied r).waits=s.waits∧(s.applied r).ready=s.ready∧(s.applied r).torn=s.torn∧(s.applied r).D=s.D∧(s.applied r).vol=s.vol∧(s.applied r).ses=s.ses∧(s.applied r).n=s.n:=by
 unfold Sv.applied
 split
 ·simp
 ·split<;>simp
theorem applied_all:∀ (l:List R) (s:Sv),(l.foldl Sv.applied s).to=s.to∧(l.foldl Sv.applied s).tv=s.tv∧(l.foldl Sv.applied s).td=s.td∧(l.foldl Sv.applied s).down=s.down∧(l.foldl Sv.applied s).fails=s.fails∧(l.foldl Sv.applied s).left=s.left∧(l.foldl Sv.applied s).waits=s.waits∧(l.foldl Sv.applied s).ready=s.ready∧(l.foldl Sv.applied s).torn=s.torn∧(l.foldl Sv.applied s).D=s.D∧(l.foldl Sv.applied s).vol=s.vol∧(l.foldl Sv.applied s).ses=s.ses∧(l.foldl Sv.applied s).n=s.n∧(l.foldl Sv.applied s).rs=s.rs
 | [],s=>by simp
 | r :: l,s=>by
  obtain⟨h1,h2,h3,h4,h5,h6,h7,h8,h9,h10,h11,h12,h13,h14⟩:=applied_all l (s.applied r)
  obtain⟨k1,k2,k3,k4,k5,k6,k7,k8,k9,k10,k11,k12,k13⟩:=applied_terms s r
  rw[List.foldl_cons]
  exact⟨h1.trans k1,h2.trans k2,h3.trans k3,h4.trans k4,h5.trans k5,h6.trans k6,h7.trans k7,h8.trans k8,h9.trans k9,h10.trans k10,h11.trans k11,h12.trans k12,h13.trans k13,h14.trans (applied_rs s r)⟩
structure Nw(w5 wr:World)(a:Ad)(z:Sv)(rs:List R)(B:Nat)(v:Value)(k:Nat):Prop where
 sv:SvIs wr a ((rs.take k).foldl Sv.applied z)
 fs:Fs a w5 wr
 row:wr.ownsRow B 138 6 v rs.length (rcells rs)
 sep:∀ g,v.ownBlock=some g→¬ foot wr a g
theorem newS_any(q:Nat)(tob tv td now:Int)(rs:List R)(w:World)(hD:DiskIs w q rs false 0)(hq:q<w.heap.size)(hlen:rs.length<200)(hbd:∀ r∈rs,0≤r.c∧r.o<8)(hep:0≤(Sv.opened tob tv td rs false 0).epoch)(hep1:(Sv.opened tob tv td rs false 0).epoch≤1000)(hn0:0≤now)(hn1:now≤549755813888)(hv0:0≤tv)(hv1:tv≤274877906944) :
  Calls Tryz.prog 123 #[.pointer (some ⟨q,3,none⟩),.agg #[.int .i64 tob,.int .i64 tv,.int .i64 td],.int .i64 now] w fun e w'=>∃ a:Ad,a.q=q∧e = .returned (.tuple #[tp a.S,.nilIface])∧SvIs w' a (Sv.new tob tv td rs false 0 now)∧Oq q w w'∧∀ k,foot w' a k→k=q∨w.heap.size≤k:=by
 go_enter Tryz.func123,Tryz.ntmps123
 go_upto_region 1 with fail
 generalize hW:w.alloc (.cells #[.int .i64 tob,.int .i64 tv,.int .i64 td] 29)=w1
 have hb1:Below w.heap.size w w1:=by rw[← hW];exact(Below.refl _ _).alloc (Nat.le_refl _) _
 have hs1:w1.heap.size=w.heap.size+1:=by rw[← hW];simp
 have t0:w1.cell? ⟨w.heap.size,0,none⟩=some (.int .i64 tob):=by rw[← hW];exact cell_of_row _ _ _ _ _ _ (heap_alloc_new w _)
 have t1:w1.cell? ⟨w.heap.size,1,none⟩=some (.int .i64 tv):=by rw[← hW];exact cell_of_row _ _ _ _ _ _ (heap_alloc_new w _)
 have t2:w1.cell? ⟨w.heap.size,2,none⟩=some (.int .i64 td):=by rw[← hW];exact cell_of_row _ _ _ _ _ _ (heap_alloc_new w _)
 clear hW
 have hD1:=hD.below hb1 hq
 have hop:=Wal.open_any q rs false 0 w1 hD1 (by omega)
 go_wp2_with fail
 refine hop.mono ?_
 rintro e w2 ⟨U,rfl,hL2,hU,hb2⟩
 have hD2:=hD1.below hb2 (by omega)
 have hs2:=hb2.size
 have hU2:=hL2.lt
 have s0:=(hb2.cell (p:=⟨w.heap.size,0,none⟩) (by dsimp only;omega)).trans t0
 have s1:=(hb2.cell (p:=⟨w.heap.size,1,none⟩) (by dsimp only;omega)).trans t1
 have s2:=(hb2.cell (p:=⟨w.heap.size,2,none⟩) (by dsimp only;omega)).trans t2
 clear hop t0 t1 t2
 go_upto_region 4 with fail
 have hln:=Lease.new_any w2.drew
 rw[show w2.drew.heap.size=w2.heap.size from rfl] at hln
 refine Gen.start (S:=fun w'=>w'.cell? ⟨w.heap.size,0,none⟩=some (.int .i64 tob)∧w'.cell? ⟨w.heap.size,1,none⟩=some (.int .i64 tv)∧w'.cell? ⟨w.heap.size,2,none⟩=some (.int .i64 td)) (by kernel_rfl) ⟨s0,s1,s2⟩ (fun hHeld=>?_)
 refine Gen.tk 0 3 ?_ rfl rfl (Or.inl ⟨by rfl,?_⟩) hHeld ?_;rotate_left
 ·rintro w' ⟨s0,s1,s2⟩;go_simp;try with_reducible rfl
 go_frame
 refine Gen.tk 1 3 ?_ rfl rfl (Or.inl ⟨by rfl,?_⟩) hHeld ?_;rotate_left
 ·rintro w' ⟨s0,s1,s2⟩;go_simp;try with_reducible rfl
 go_frame
 refine Gen.one (i:=2) (by kernel_rfl) rfl rfl (fun K hK=>?_)
 go_simp
 refine hln.mono ?_
 rintro e w3 ⟨rfl,hT3,hb3,hs3⟩
 dsimp only
 have r0:=(hb3.cell (p:=⟨w.heap.size,0,none⟩) (by dsimp only;omega)).trans s0
 have r1:=(hb3.cell (p:=⟨w.heap.size,1,none⟩) (by dsimp only;omega)).trans s1
 have r2:=(hb3.cell (p:=⟨w.heap.size,2,none⟩) (by dsimp only;omega)).trans s2
 refine hK.out _ _ ⟨r0,r1,r2⟩ (fun hHeld=>?_)
 clear hK K
 try go_frame
 refine Gen.tk 3 4 ?_ rfl rfl (Or.inl ⟨by rfl,?_⟩) hHeld ?_;rotate_left
 ·rintro w' ⟨s0,s1,s2⟩;go_simp;try with_reducible rfl
 go_frame
 refine Gen.one (i:=4) (by kernel_rfl) rfl rfl (fun K hK=>?_)
 go_simp
 have hb3':Below w2.heap.size w2 w3:=⟨hb3.os,hb3.tape,hb3.output,hb3.size,hb3.block⟩
 have F:=SvIs.made (tob:=tob) (tv:=tv) (td:=td) (hL2.below hb3') (hD2.below hb3' (by omega)) hT3 (by omega) hU2 (by omega)
 rw[hs3] at F
 change K _ (w3.alloc (.cells (svz tob tv td U (w2.heap.size+1)) 144))
 generalize hW:w3.alloc (.cells (svz tob tv td U (w2.heap.size+1)) 144)=w4
 rw[hW] at F
 have hb4:Below w3.heap.size w3 w4:=by rw[← hW];exact(Below.refl _ _).alloc (Nat.le_refl _) _
 have hs4:w4.heap.size=w3.heap.size+1:=by rw[← hW];simp
 have hbw:Below w.heap.size w w4:=(hb1.trans (hb2.mono (by omega))).trans ((hb3'.mono (by omega)).trans (hb4.mono (by omega)))
 have r0':=(hb4.cell (p:=⟨w.heap.size,0,none⟩) (by dsimp only;omega)).trans r0
 have r1':=(hb4.cell (p:=⟨w.heap.size,1,none⟩) (by dsimp only;omega)).trans r1
 have r2':=(hb4.cell (p:=⟨w.heap.size,2,none⟩) (by dsimp only;omega)).trans r2
 have hft:∀ k,foot w4 ⟨q,w2.heap.size+2,U,w2.heap.size+1,w2.heap.size⟩ k→k=q∨w.heap.size<k:=fun k f=>by
  rcases f with f|f|f|f|f|⟨v,f1,f2⟩|⟨i,v,hi,f1,f2⟩
  ·exact .inl f
  ·exact .inr (by dsimp only at f;omega)
  ·exact .inr (by dsimp only at f;omega)
  ·exact .inr (by dsimp only at f;omega)
  ·exact .inr (by dsimp only at f;omega)
  ·have:=(F.rowU f1 f2).1
   exact .inr (by dsimp only at this;omega)
  ·have:=(F.rowS hi f1 f2).1
   exact .inr (by dsimp only at this;omega)
 clear hW hL2 hD2 hT3 hb3 hb3' hb4 hD hD1 r0 r1 r2 s0 s1 s2 hln
 refine hK.out _ _ ⟨r0',r1',r2'⟩ (fun hHeld=>?_)
 clear hK K
 try go_frame
 refine Gen.last (i:=5) (by kernel_rfl) rfl rfl (by kernel_rfl) (by kernel_rfl) (fun K hK=>?_)
 go_simp
 refine hK.out _ _ ?_
 clear hK K hHeld
 obtain⟨a,ha⟩:∃ a:Ad,a=⟨q,w2.heap.size+2,U,w2.heap.size+1,w2.heap.size⟩:=⟨_,rfl⟩
 have hrec:=Wal.records_any U q rs false w4 (by have:=F.log;exact this) (by omega)
 rw[← ha] at F hft
 have aS:a.S=w2.heap.size+2:=by rw[ha]
 have aq:a.q=q:=by rw[ha]
 have aU:a.U=U:=by rw[ha]
 rw[← aS]
 have aSl:w.heap.size≤a.S:=by omega
 clear ha aS
 subst aU
 subst aq
 go_wp2_with fail
 refine hrec.mono ?_
 rintro e w5 ⟨v5,rfl,hrow5,hb5⟩
 have F5:=F.below hb5
 have hfr5:∀ g,v5.ownBlock=some g→¬ foot w5 a g:=fun g hg=>F.fresh hb5 (World.ownsRow.lt hrow5 g hg).1
 have hs5:=hb5.size
 have hq5:=hbw.trans (hb5.mono (by omega))
 have hft5:∀ k,foot w5 a k→k=a.q∨w.heap.size<k:=fun k f=>hft k (foot_same (World.cell?_of_block (hb5.block a.U F.lts.2.1)) (fun i _=>World.cell?_of_block (hb5.block a.S F.lts.2.2.2.2.1)) f)
 obtain⟨av,cv,hav,hcv,hcn⟩:=Net.row_shape hrow5
 subst hav
 have HN:Hid (Nw w5 w5 a (Sv.zero tob tv td rs false 0) rs w4.heap.size (.slice av rs.length cv) 0):=⟨F5,Fs.refl _ _,hrow5,hfr5⟩
 clear hrow5 hfr5 F5 hrec F hcv
 go_wp2_with fail
 go_loopw [29] (fun i wr=>∃ k:Nat,k≤rs.length∧i = .int .i64 k∧Nw w5 wr a (Sv.zero tob tv td rs false 0) rs w4.heap.size (.slice av rs.length cv) k) (fun i _=>rs.length-(intOf i).toNat)
 case atStart=>exact⟨0,by omega,rfl,HN.out⟩
 case round=>
  obtain⟨k,hk,rfl,A⟩:=hrel
  by_cases hlt:k<rs.length
  ·obtain⟨g,rfl⟩:∃ g,av=some ⟨g,0,none⟩:=by
    rcases A.row.2 with ⟨e,h0⟩|⟨g,cap,cur,e,_⟩
    ·omega
    ·injection e with e
     exact⟨g,e⟩
   have hcell:∀ j u,(rs[k].cells)[j]?=some u→wr.cell? ⟨g,k*6+j,none⟩=some u:=fun j u hu=>by
    have hj:j<6:=by
     have:=(List.getElem?_eq_some_iff.1 hu).1
     simpa[Wal.R.cells] using this
    have:=World.ownsRow.cellAt A.row (k*6+j) (by omega)
    rw[this,rcells_get rs k j hlt hj]
    exact hu
   obtain⟨hc0,ho8⟩:=hbd rs[k] (List.getElem_mem hlt)
   have HTK:Hid ((rs.take (k+1)).foldl Sv.applied (Sv.zero tob tv td rs false 0)=((rs.take k).foldl Sv.applied (Sv.zero tob tv td rs false 0)).applied rs[k]):=by
    unfold Hid
    rw[List.take_succ_eq_append_getElem hlt,List.foldl_append]
    rfl
   obtain⟨r,hr⟩:∃ r,rs[k]=r:=⟨_,rfl⟩
   rw[hr] at hcell hc0 ho8 HTK
   have q0:wr.cell? ⟨g,k*6,none⟩=some (.int .i64 r.c):=hcell 0 _ rfl
   have q1:=hcell 1 _ rfl
   have q2:=hcell 2 _ rfl
   have q3:=hcell 3 _ rfl
   have q4:=hcell 4 _ rfl
   have q5:=hcell 5 _ rfl
   have hkI:(k:Int)<(rs.length:Int):=by omega
   have hkI0:(0:Int)≤(k:Int):=by omega
   have hap:=apply_any a ((rs.take k).foldl Sv.applied (Sv.zero tob tv td rs false 0)) r _ (A.sv.alloc (.cells #[.int .i64 r.c,.int .i64 r.n,.int .i64 r.o,.int .i64 r.v,.string r.d,.int .i64 r.e] 138)) hc0 ho8
   unfold Wal.R.agg at hap
   have HA:Hid (Nw w5 wr a (Sv.zero tob tv td rs false 0) rs w4.heap.size (.slice (some ⟨g,0,none⟩) rs.length cv) k):=A
   have hwr:=A.sv
   clear A hcell hr
   go_wp2_with fail
   generalize hW:wr.alloc (.cells #[.int .i64 r.c,.int .i64 r.n,.int .i64 r.o,.int .i64 r.v,.string r.d,.int .i64 r.e] 138)=w6 at *
   have hb6:Below wr.heap.size wr w6:=by rw[← hW];exact(Below.refl _ _).alloc (Nat.le_refl _) _
   refine hap.mono ?_
   rintro e w7 ⟨rfl,F7,hF67⟩
   have hF6:=HA.out.fs.below hwr hb6
   have HN7:Hid (Nw w5 w7 a (Sv.zero tob tv td rs false 0) rs w4.heap.size (.slice (some ⟨g,0,none⟩) rs.length cv) (k+1)):=by
    have hr6:=row_below HA.out.row hb6
    have hsep6:∀ x,(Value.slice (some ⟨g,0,none⟩) rs.length cv).ownBlock=some x→¬ foot w6 a x:=fun x hx f=>HA.out.sep x hx (foot_same (World.cell?_of_block (hb6.block a.U hwr.lts.2.1)) (fun i _=>World.cell?_of_block (hb6.block a.S hwr.lts.2.2.2.2.1)) f)
    exact⟨by rw[HTK.out];exact F7,hF6.trans hF67,row_kept hr6 fun x hx=>hF67.block x (World.ownsRow.lt hr6 x hx).2 (hsep6 x hx),fun x hx f=>hsep6 x hx (hF67.grows x (World.ownsRow.lt hr6 x hx).2 f)⟩
   clear hap F7 hF67 hF6 hb6 hW HA hwr q0 q1 q2 q3 q4 q5
   go_wp2_with fail
   go_roundw
   case rel=>exact⟨k+1,by omega,by go_num,HN7.out⟩
   case measure=>simp[intOf];omega
  ·obtain rfl:k=rs.length:=by omega
   have F:=A.sv
   have hF:=A.fs
   rw[List.take_length] at F
   obtain⟨so,hso⟩:∃ so,Sv.opened tob tv td rs false 0=so:=⟨_,rfl⟩
   have HSO:Hid (Sv.opened tob tv td rs false 0=so):=hso
   have F':SvIs wr a so:=by rw[← hso];exact F
   rw[hso] at hep hep1
   have hall:=applied_all rs (Sv.zero tob tv td rs false 0)
   have htv:so.tv=tv:=by rw[← hso];exact hall.2.1
   have hdn:so.down=false:=by rw[← hso];exact hall.2.2.2.1
   have hfl:so.fails=false:=by rw[← hso];exact hall.2.2.2.2.1
   have hlf:so.left=0:=by rw[← hso];exact hall.2.2.2.2.2.1
   have hrs:so.rs=rs:=by rw[← hso];exact hall.2.2.2.2.2.2.2.2.2.2.2.2.2
   have hbx:wr.heap[w.heap.size]?=w5.heap[w.heap.size]?:=hF.block _ (by omega) (fun f=>by
    rcases hft5 _ f with q|q
    ·have:=F'.lts.1;omega
    ·omega)
   have v1:=(World.cell?_of_block (a:=⟨w.heap.size,1,none⟩) hbx).trans ((hb5.cell (p:=⟨w.heap.size,1,none⟩) (by dsimp only;omega)).trans r1')
   have c5:=F'.c5
   have c6:=F'.c6
   have f5:=F'.free 5
   have f6:=F'.free 6
   clear A F hso hall hbx HN
   have hw1:IntKind.i64.wrap (now+tv)=now+tv:=wrapI (by omega) (by omega)
   have hw2:IntKind.i64.wrap (so.epoch+1)=so.epoch+1:=wrapI (by omega) (by omega)
   obtain⟨rd,hrd⟩:∃ rd,(if 0<so.epoch then now+so.tv else so.ready)=rd:=⟨_,rfl⟩
   have HRD:Hid ((if 0<so.epoch then now+so.tv else so.ready)=rd):=hrd
   clear hrd
   go_upto_if 41 with fail
   go_cut[] from 42 to 48 (fun wx=>SvIs wx a { so with ready:=rd }∧Fs a wr wx)
   case first=>
    by_cases h0:0<so.epoch
    ·have HF6:Hid (SvIs (wr.setCell ⟨a.S,6,none⟩ (.int .i64 (now+tv))) a { so with ready:=rd }∧Fs a wr (wr.setCell ⟨a.S,6,none⟩ (.int .i64 (now+tv)))):=⟨by rw[show rd=now+tv by rw[← HRD.out,if_pos h0,htv]];exact F'.set6 (now+tv),(Fs.refl _ _).setS F' (by omega)⟩
     clear F' htv
     go_wp2_with fail
     all_goals first|omega|(go_meet;exact HF6.out)
    ·have HF6:Hid (SvIs wr a { so with ready:=rd }∧Fs a wr wr):=⟨by rw[show rd=so.ready by rw[← HRD.out,if_neg h0]];exact F',Fs.refl _ _⟩
     clear F' htv
     go_wp2_with fail
     all_goals first|omega|(go_meet;exact HF6.out)
   case rest=>
    obtain⟨F6,hF6⟩:=hcut
    have hF56:=hF.trans hF6
    have d5:=F6.c5
    have e5:=F6.free 5
    dsimp only at d5
    have F7:SvIs (wc.setCell ⟨a.S,5,none⟩ (.int .i64 (so.epoch+1))) a (so.readied now):=by
     unfold Sv.readied
     rw[HRD.out]
     exact F6.set5 (so.epoch+1)
    have hF7:Fs a w5 (wc.setCell ⟨a.S,5,none⟩ (.int .i64 (so.epoch+1))):=hF56.setS F6 (by omega)
    go_upto_region 13 with fail
    generalize wc.setCell ⟨a.S,5,none⟩ (.int .i64 (so.epoch+1))=w8 at *
    have hadd:=add_any a (so.readied now) 0 (epochR (so.epoch+1)) w8 F7 (by
     have ht:timeB (so.epoch+1)=true:=Num.inB_true (by omega) (by omega)
     show (timeB (so.epoch+1)&&_)=true
     rw[ht]
     rfl) (by show 0≤so.left;omega) (by show so.left≤_;omega)
    have hz:(so.readied now).add (epochR (so.epoch+1))=({ so.readied now with rs:=rs++[epochR (so.epoch+1)],left:=(so.readied now).left },0):=by
     unfold Sv.add
     have k1:(so.readied now).down=false:=hdn
     have k2:(so.readied now).rs=rs:=hrs
     have k3:(so.readied now).fails=false:=hfl
     rw[if_neg (by rw[k1];decide),if_neg (by rw[k2];omega),if_neg (by rw[k3];simp),k2]
     simp[k3]
    have HZ:Hid (Sv.new tob tv td rs false 0 now=((so.readied now).add (epochR (so.epoch+1))).1):=by
     unfold Hid Sv.new
     rw[HSO.out]
     rfl
    have HZ2:Hid (((so.readied now).add (epochR (so.epoch+1))).2=0):=by unfold Hid;rw[hz]
    rw[HZ2.out] at hadd
    have d5':=F7.c5
    have hde:(so.readied now).epoch=so.epoch+1:=rfl
    rw[hde] at d5'
    unfold epochR Wal.R.agg at hadd
    dsimp only at hadd
    have HF57:Hid (Fs a w5 w8):=hF7
    clear hz F7 F6 hF6 hF56 d5 e5 hF c5 c6 f5 f6 v1 hde
    go_wp2_with fail
    refine hadd.mono ?_
    rintro e w9 ⟨rfl,F9,hF9⟩
    rw[show eV 0 = .nilIface from rfl]
    have hall:Fs a w5 w9:=HF57.out.trans hF9
    have HP:Hid (∃ a':Ad,a'.q=a.q∧tp a.S=tp a'.S∧SvIs w9 a' (Sv.new tob tv td rs false 0 now)∧Oq a.q w w9∧∀ k,foot w9 a' k→k=a.q∨w.heap.size≤k):=by
     refine⟨a,rfl,rfl,by rw[HZ.out];exact F9,?_,fun k f=>?_⟩
     ·refine⟨hall.os.trans hq5.os,hall.tape.trans hq5.tape,hall.output.trans hq5.output,Nat.le_trans hq5.size hall.size,fun k hk hkq=>?_,fun i _ hi=>?_,fun i _=>?_,fun t ht=>?_⟩
      ·have hk5:k<w5.heap.size:=by omega
       rw[hall.block k hk5 (fun f=>by
        rcases hft5 k f with q|q
        ·exact hkq q
        ·omega)]
       exact hq5.block k hk
      ·rw[hall.cell i hi]
       exact hq5.cell (p:=⟨a.q,i,none⟩) hq
      ·rw[hall.fro i]
       exact hq5.frozen (p:=⟨a.q,i,none⟩) hq
      ·exact hall.typ t (by rw[hq5.block a.q hq];exact ht)
     ·by_cases hk:k<w5.heap.size
      ·rcases hft5 k (hall.grows k hk f) with q|q
       ·exact .inl q
       ·exact .inr (by omega)
      ·exact .inr (by omega)
    clear hadd F9 hF9 hall
    go_wp2_with fail
    obtain⟨a',p1,p2,p3,p4,p5⟩:=HP.out
    exact bodyPost_ret (v:=.tuple #[tp a.S,.nilIface]) (by simp[results,Tryz.results123,go_sem]) rfl ⟨a',p1,by rw[← p2],p3,p4,p5⟩
end Wld
end
section
namespace Wld
open Go.RowKit Go.Maps
open Lease (upd hol dels mx kk objB I64)
open Cache (E putL era)
open Wal (R mayB timeB)
open Num (M okB)
structure KB(k:K)(C:Nat):Prop where
 cob0:0≤k.cob
 cob7:k.cob≤7
 n:k.n≤C
 num0:0≤k.num
 num:k.num≤C
 ren0:0≤k.renewal
 ren:k.renewal≤C
 obj0:0≤k.obj
 obj:k.obj≤1099511627776
 vol0:0≤k.vol
 vol:k.vol≤1099511627776
 sent0:0≤k.sent
 sent:k.sent≤549755813888
 ask0:0≤k.asked
 ask:k.asked≤549755813888
 kv:∀ x∈k.kept,I64 x.v∧x.d.size≤20
 dd:k.d.size≤20
theorem KB.mono{k:K}{C D:Nat}(h:KB k C)(hC:C≤D):KB k D:=⟨h.cob0,h.cob7,Nat.le_trans h.n hC,h.num0,by have:=h.num;omega,h.ren0,by have:=h.ren;omega,h.obj0,h.obj,h.vol0,h.vol,h.sent0,h.sent,h.ask0,h.ask,h.kv,h.dd⟩
theorem KB.ok{k:K}{C:Nat}(h:KB k C)(hC:C≤100000000000):KOk k:=⟨h.cob0,h.cob7,by have:=h.n;omega,h.num0,by have:=h.num;omega,h.ren0,by have:=h.ren;omega,h.obj0,h.obj,h.vol0,h.vol,h.sent0,by have:=h.sent;omega,h.ask0,by have:=h.ask;omega⟩
theorem mem_era{o:Int}{L:List E}{x:E}(h:x∈era o L):x∈L:=(List.mem_filter.1 h).1
theorem mem_putL{L:List E}{e x:E}(h:x∈putL L e):x=e∨x∈L:=by
 unfold putL at h
 rcases List.mem_append.1 h with q|q
 ·right
  split at q
  ·exact mem_era (List.mem_of_mem_eraseIdx q)
  ·exact mem_era q
 ·exact .inl (List.mem_singleton.1 q)
theorem KB.overWith{k:K}{C:Nat}(h:KB k C){d:ByteArray}(hd:d.size≤20)(v:Int):KB (k.overWith d v) (C+1):=
 ⟨h.cob0,h.cob7,by have:=h.n;show k.n+1≤_;omega,h.num0,by have:=h.num;show k.num≤_;omega,h.ren0,by have:=h.ren;show k.renewal≤_;omega,h.obj0,h.obj,h.vol0,h.vol,h.sent0,h.sent,h.ask0,h.ask,h.kv,hd⟩
theorem KB.hear{k:K}{C:Nat}(h:KB k C)(m:M)(hm:I64 m.v∧m.d.size≤20):KB (k.hear m).1 (C+1)∧(k.hear m).2.length≤1:=by
 have h':=h.mono (Nat.le_succ C)
 unfold K.hear
 split
 ·refine⟨?_,by simp⟩
  unfold K.forget
  split
  ·exact⟨h'.cob0,h'.cob7,h'.n,h'.num0,h'.num,h'.ren0,h'.ren,h'.obj0,h'.obj,h'.vol0,h'.vol,h'.sent0,h'.sent,h'.ask0,h'.ask,fun x hx=>h.kv x (mem_era hx),h.dd⟩
  ·exact⟨h'.cob0,h'.cob7,h'.n,h'.num0,h'.num,h'.ren0,h'.ren,h'.obj0,h'.obj,h'.vol0,h'.vol,h'.sent0,h'.sent,h'.ask0,h'.ask,fun x hx=>h.kv x (mem_era hx),h.dd⟩
 ·split
  ·exact⟨h',by simp⟩
  ·split
   ·refine⟨?_,by simp⟩
    unfold K.granted
    split
    ·exact⟨h'.cob0,h'.cob7,h'.n,h'.num0,h'.num,h'.ren0,h'.ren,h'.obj0,h'.obj,h'.vol0,h'.vol,h'.sent0,h'.sent,h'.ask0,h'.ask,h'.kv,h'.dd⟩
    ·exact h'
   ·split
    ·refine⟨?_,by simp⟩
     unfold K.flush
     split
     ·exact h'
     ·exact⟨h'.cob0,h'.cob7,h'.n,h'.num0,h'.num,h'.ren0,h'.ren,h'.obj0,h'.obj,h'.vol0,h'.vol,h'.sent0,h'.sent,h'.ask0,h'.ask,fun x hx=>(by simp at hx),h.dd⟩
    ·split
     ·refine⟨?_,by simp⟩
      unfold K.read
      split
      ·exact h'
      ·refine KB.overWith ?_ hm.2 _
       split
       ·exact⟨h.cob0,h.cob7,h.n,h.num0,h.num,h.ren0,h.ren,h.obj0,h.obj,h.vol0,h.vol,h.sent0,h.sent,h.ask0,h.ask,fun x hx=>by
         rcases mem_putL hx with q|q
         ·rw[q];exact hm
         ·exact h.kv x q,h.dd⟩
       ·exact h
     ·split
      ·exact⟨h.overWith h.dd _,by simp⟩
      ·exact⟨h',by simp⟩
theorem KB.again{k:K}{C:Nat}(h:KB k C){now:Int}(h0:0≤now)(h1:now≤549755813888):KB (k.again now) (C+1)∧(k.againL now).length≤2:=by
 have h':=h.mono (Nat.le_succ C)
 refine⟨?_,?_⟩
 ·unfold K.again
  split
  ·exact⟨h'.cob0,h'.cob7,h'.n,h'.num0,h'.num,by have:=h.ren0;show 0≤k.renewal+1;omega,by have:=h.ren;show k.renewal+1≤_;omega,h'.obj0,h'.obj,h'.vol0,h'.vol,h'.sent0,h'.sent,h0,h1,h'.kv,h'.dd⟩
  ·exact h'
 ·unfold K.againL
  rw[List.length_append]
  split<;>split<;>simp
theorem KB.begin{k:K}{C:Nat}(h:KB k C){o now:Int}(kd:Int){d:ByteArray}(hd:d.size≤20)(v:Int)(ov ht:Bool)(ho0:0≤o)(ho7:o≤7)(h0:0≤now)(h1:now≤549755813888):KB (k.begin kd o d v ov ht now) (C+1):=by
 have h':=h.mono (Nat.le_succ C)
 exact⟨ho0,ho7,h'.n,by have:=h.num0;show 0≤k.num+1;omega,by have:=h.num;show k.num+1≤_;omega,h'.ren0,h'.ren,h'.obj0,h'.obj,h'.vol0,h'.vol,h0,h1,h'.ask0,h'.ask,h'.kv,hd⟩
theorem KB.looked{k:K}{C:Nat}(h:KB k C)(o:Int):KB (k.looked o) C:=by
 unfold K.looked
 split
 ·exact h
 ·rename_i x hx
  exact⟨h.cob0,h.cob7,h.n,h.num0,h.num,h.ren0,h.ren,h.obj0,h.obj,h.vol0,h.vol,h.sent0,h.sent,h.ask0,h.ask,fun y hy=>by
   rcases mem_putL hy with q|q
   ·rw[q];exact h.kv x (List.mem_of_find?_eq_some hx)
   ·exact h.kv y q,h.dd⟩
theorem KB.reads{k:K}{C:Nat}(h:KB k C){o now:Int}(ho0:0≤o)(ho7:o≤7)(h0:0≤now)(h1:now≤549755813888):KB (k.reads o now) (C+2):=by
 have hb:=h.begin 1 (d:=⟨#[]⟩) (by decide) 0 false false ho0 ho7 h0 h1
 unfold K.reads
 split
 ·exact(hb.looked o).mono (by omega)
 ·rename_i x hx
  have hl:=hb.looked o
  have hxk:x∈(k.begin 1 o ⟨#[]⟩ 0 false false now).kept:=by
   unfold K.has at hx
   split at hx
   ·cases hx
   ·rename_i y hy
    split at hx
    ·cases hx
    ·injection hx with hx
     subst hx
     exact List.mem_of_find?_eq_some hy
  exact KB.overWith (k:={ (k.begin 1 o ⟨#[]⟩ 0 false false now).looked o with hit:=true }) ⟨hl.cob0,hl.cob7,hl.n,hl.num0,hl.num,hl.ren0,hl.ren,hl.obj0,hl.obj,hl.vol0,hl.vol,hl.sent0,hl.sent,hl.ask0,hl.ask,hl.kv,hl.dd⟩ (hb.kv x hxk).2 _
structure SB(s:St)(C:Nat)(n:Nat):Prop where
 k:KB s.k C
 c0:0≤s.clock
 c1:s.clock≤549755813888
 l0:0≤s.life
 l1:s.life≤C
 a0:-1≤s.call
 a1:s.call<n
theorem SB.mono{s:St}{C D n m:Nat}(h:SB s C n)(hC:C≤D)(hn:n≤m):SB s D m:=⟨h.k.mono hC,h.c0,h.c1,h.l0,by have:=h.l1;omega,h.a0,by have:=h.a1;omega⟩
structure WdB(w:Wd)(C:Nat):Prop where
 to0:0≤w.to
 to1:w.to≤274877906944
 tv0:0≤w.tv
 tv1:w.tv≤274877906944
 td0:0≤w.td
 td1:w.td≤500
 c0:0≤w.clock
 c1:w.clock≤549755813888
 st:∀ i,i<w.n→SB (w.seat i) C w.events.length
 s0:0≤w.step
 s1:w.step≤C
 ev:w.events.length≤C
 net:∀ p∈w.net,okB p.2=true
 netl:w.net.length≤200
 sv:∀ v,w.sv=some v→SvB v (400*C)∧v.to=w.to∧v.tv=w.tv∧v.rs=w.rs∧v.fails=w.fails∧v.left=w.left
 recs:∀ r∈w.rs,0≤r.v∧r.v≤w.rs.length∧0≤r.e∧r.e≤w.rs.length∧r.d.size≤20
 len:w.rs.length≤200
 left0:0≤w.left
 left1:w.left≤9223372036854775807
theorem WdB.mono{w:Wd}{C D:Nat}(h:WdB w C)(hC:C≤D):WdB w D:=⟨h.to0,h.to1,h.tv0,h.tv1,h.td0,h.td1,h.c0,h.c1,fun i hi=>(h.st i hi).mono hC (Nat.le_refl _),h.s0,by have:=h.s1;omega,Nat.le_trans h.ev hC,h.net,h.netl,fun v hv=>⟨(h.sv v hv).1.mono (by omega),(h.sv v hv).2⟩,h.recs,h.len,h.left0,h.left1⟩
theorem WdB.hearOk{w:Wd}{C:Nat}(h:WdB w C)(hC:C≤100000000000){v:Sv}(hv:w.sv=some v):HearOk v w.clock (400*C):=by
 obtain⟨h1,h2,h3,_⟩:=h.sv v hv
 exact⟨h1,by omega,h.c0,h.c1,by rw[h2];exact h.to0,by rw[h2];exact h.to1,by rw[h3];exact h.tv0,by rw[h3];exact h.tv1⟩
theorem okB_m{m:M}(h:okB m=true):okM m∧I64 m.v:=by
 simp only[okB,Bool.and_eq_true] at h
 obtain⟨h1,h2⟩:=h
 simp[Num.M.nums,Num.numB,Num.inB] at h2
 have hd:m.d.size≤20:=by
  simp[Num.inB] at h1
  omega
 exact⟨⟨by simp[timeB,Num.inB];omega,by simp[timeB,Num.inB];omega,hd⟩,⟨by omega,by omega⟩⟩
theorem WdB.put{w:Wd}{C:Nat}(h:WdB w C)(t:Int)(m:M):WdB (w.put t m) C:=by
 unfold Wd.put
 split
 ·rename_i hk
  exact⟨h.to0,h.to1,h.tv0,h.tv1,h.td0,h.td1,h.c0,h.c1,h.st,h.s0,h.s1,h.ev,fun p hp=>by
   rcases List.mem_append.1 hp with q|q
   ·exact h.net p q
   ·rw[List.mem_singleton.1 q];exact hk.1,by simp;omega,h.sv,h.recs,h.len,h.left0,h.left1⟩
 ·exact h
theorem WdB.send{C:Nat}(t:Int):∀ (l:List M) {w:Wd},WdB w C→WdB (w.send t l) C
 | [],_,h=>h
 | m :: l,w,h=>by
  unfold Wd.send
  rw[List.foldl_cons]
  exact WdB.send t l (h.put t m)
theorem WdB.tells{C:Nat}:∀ (l:List M) {w:Wd},WdB w C→WdB (w.tells l) C
 | [],_,h=>h
 | m :: l,w,h=>by
  unfold Wd.tells
  rw[List.foldl_cons]
  exact WdB.tells l (h.put _ m)
theorem WdB.served{w:Wd}{C:Nat}(h:WdB w C){v:Sv}(hv:SvB v (400*C))(h1:v.to=w.to)(h2:v.tv=w.tv):WdB (w.served v) C:=
 ⟨h.to0,h.to1,h.tv0,h.tv1,h.td0,h.td1,h.c0,h.c1,h.st,h.s0,h.s1,h.ev,h.net,h.netl,fun x hx=>by
  have hx':some v=some x:=hx
  injection hx' with hx'
  subst hx'
  exact⟨hv,h1,h2,rfl,rfl,rfl⟩,hv.recs,hv.len,hv.left0,hv.left1⟩
theorem WdB.fallen{w:Wd}{C:Nat}(h:WdB w C):WdB w.fallen C:=by
 unfold Wd.fallen
 split
 ·exact h
 ·split
  ·exact⟨h.to0,h.to1,h.tv0,h.tv1,h.td0,h.td1,h.c0,h.c1,h.st,h.s0,h.s1,h.ev,h.net,h.netl,fun x hx=>by simp at hx,h.recs,h.len,h.left0,h.left1⟩
  ·exact h
end Wld
end
end Go.Proofs.YtbebfliimjjohabGreatDoor
