/- Parts of the proof. -/
import Derived.Test.YtbebfliimjjohabGreatDoorLd31
import Derived.Test.YtbebfliimjjohabGreatDoorLd19
import Derived.Maps.RangeWalk
import Derived.Test.YtbebfliimjjohabGreatDoorLd23
import Derived.Test.YtbebfliimjjohabGreatDoorLd01
set_option maxRecDepth 100000
set_option maxHeartbeats 8000000
namespace Go.Proofs.YtbebfliimjjohabGreatDoor
section
namespace Wld
open Go.RowKit Go.Maps
open Lease (Ob I64 upd TabIs hol dels objB HasI map_block map_ne mx)
open Cache (tp row_kept row_below)
open Wal (R WalIs DiskIs Oq Fw rcells)
open Num (M okB strOf ints)
open Net (NetIs Only pcells hasB)
def zseats:Nat→List Value
 | 0=>[]
 | n+1=>[.pointer none,.int .i64 0,.int .i64 0,.int .i64 0]++zseats n
theorem zseats_at:∀ (n i:Nat),i<n→(zseats n)[i*4]?=some (.pointer none)∧(zseats n)[i*4+1]?=some (.int .i64 0)∧(zseats n)[i*4+2]?=some (.int .i64 0)∧(zseats n)[i*4+3]?=some (.int .i64 0)
 | n+1,0,_=>⟨rfl,rfl,rfl,rfl⟩
 | n+1,i+1,h=>by
  have e:∀ j,(zseats (n+1))[(i+1)*4+j]?=(zseats n)[i*4+j]?:=fun j=>by
   show ([Value.pointer none,.int .i64 0,.int .i64 0,.int .i64 0]++zseats n)[(i+1)*4+j]?=_
   rw[List.getElem?_append_right (by simp;omega)]
   congr 1
   simp
   omega
  have h1:=zseats_at n i (by omega)
  exact⟨(e 0).trans h1.1,(e 1).trans h1.2.1,(e 2).trans h1.2.2.1,(e 3).trans h1.2.2.2⟩
theorem make_seats(n:Nat)(h1:1≤n)(h4:n≤4)(w:World):(Instr.makeSlice 79 (.int .i64 n) (.int .i64 n)).run Tryz.prog w = .ok (.slice (some ⟨w.heap.size,0,none⟩) n n) (w.alloc (.cells (zseats n).toArray 90)):=by
 obtain rfl|rfl|rfl|rfl:n=1∨n=2∨n=3∨n=4:=by omega
 all_goals kernel_rfl
def Low(N:Nat)(w:World)(A:Wa)(s:Wd):Prop:=∀ k,wfoot w A s k→N≤k
theorem Low.step{N:Nat}{w w':World}{A A':Wa}{s s':Wd}(h:Low N w A s)(hf:Fz A s w A' s' w')(hN:N≤w.heap.size):Low N w' A' s':=fun k hk=>by
 by_cases hl:k<w.heap.size
 ·exact h k (hf.grows k hl hk)
 ·omega
theorem Fz.below{N:Nat}{w w':World}{A A':Wa}{s s':Wd}(hf:Fz A s w A' s' w')(h:Low N w A s)(hQ:A.Q<w.heap.size):Below N w w':=
 ⟨hf.os,hf.tape,hf.output,hf.size,fun k hk=>hf.blk k (by have:=h A.Q (.Q rfl);omega) (fun q=>by have:=h k q;omega) (fun q=>by have:=h A.Q (.Q rfl);omega)⟩
theorem Nb.low{w wr:World}{Q G n:Nat}{tob tv td:Int}{c m:Nat→Nat}(h:Nb w wr Q G n n tob tv td c m)(hG:w.heap.size≤G)(hQ:w.heap.size≤Q)(a:Ad):Low w.heap.size wr ⟨Q,G,c,m,a⟩ (Wd.bare tob tv td n):=fun k hk=>by
 rcases hk with q|q|⟨v,q1,q2⟩|⟨i,hi,q⟩|⟨i,hi,q⟩|⟨q,_⟩
 ·rw[q];exact hQ
 ·rw[q];exact hG
 ·rw[h.cell 12410,wcells_other _ _ _ _ _ _ (by omega) (by omega),wz_end 7] at q1
  have e:v = .slice none 0 0:=(Option.some.inj q1).symm
  rw[e] at q2
  cases q2
 ·have:=h.lo i hi;rw[q];show w.heap.size≤c i;omega
 ·have:=h.lo i hi;rw[q];show w.heap.size≤m i;omega
 ·cases q
theorem fill_two(z:Array Value)(hz:z.size=12412)(tob tv td:Int)(G n:Nat):Instr.fill (fun x=>([(0,3),(3,12402),(12405,2),(12407,1),(12408,1),(12409,1),(12410,1),(12411,1)]:List (Nat×Nat)).toArray[x]?) z [(0,.agg #[.int .i64 tob,.int .i64 tv,.int .i64 td]),(5,.slice (some ⟨G,0,none⟩) n n)]=some (wcells z tob tv td G n):=by
 simp[Instr.fill,Value.cells,hz,wcells]
theorem built_world(tob tv td:Int)(G n:Nat):Tryz.prog.built 81 [(0,.agg #[.int .i64 tob,.int .i64 tv,.int .i64 td]),(5,.slice (some ⟨G,0,none⟩) n n)]=some (wcells Tryz.zeroCells81 tob tv td G n):=by
 have hi:(Tryz.prog.info? 81).map (·.zero)=some (some (.agg Tryz.zeroCells81)):=by kernel_rfl
 obtain⟨it,h1,h2⟩:=Option.map_eq_some_iff.1 hi
 unfold Program.built
 rw[h1,Tryz.underlying81]
 dsimp only
 rw[h2]
 generalize hg:List.mapM (m:=Option) (β:=Nat×Nat) _ _=r
 have hr:r=some [(0,3),(3,12402),(12405,2),(12407,1),(12408,1),(12409,1),(12410,1),(12411,1)]:=by rw[← hg];kernel_rfl
 rw[hr]
 exact fill_two _ wz_size tob tv td G n
theorem wp_buildIs{o:Oper}{a:Act}{w:World}{K:Act→World→Prop}{Q:Exit→Act→World→Prop}(t:TypeId)(parts:Array (Nat×Operand))(ho:o.op = .build t parts)(cells:Array Value)(hf:Tryz.prog.built t (parts.map fun (i,x)=>(i,a.eval x)).toList=some cells)(h:K (a.put o.dst (.agg cells)) w):o.wp Tryz.prog a w K Q:=
 wp_build t parts ho (by rw[hf];rfl) (by rw[hf];exact h)
theorem newW_any(tob tv td:Int)(n:Nat)(w:World)(n1:1≤n)(n4:n≤4)(h1:1≤tv)(h2:tv≤tob)(h3:tob≤274877906944)(h4:0≤td)(h5:td≤500) :
  Calls Tryz.prog 22 #[.agg #[.int .i64 tob,.int .i64 tv,.int .i64 td],.int .i64 n] w fun e w'=>∃ A,e = .returned (.tuple #[tp A.Q,.nilIface])∧WdIs w' A (Wd.bare tob tv td n).start∧Below w.heap.size w w'∧Low w.heap.size w' A (Wd.bare tob tv td n).start:=by
 go_enter Tryz.func22,Tryz.ntmps22
 go_upto_region 1 with fail
 generalize hW:w.alloc (.cells #[.int .i64 tob,.int .i64 tv,.int .i64 td] 29)=w1
 have hb1:Below w.heap.size w w1:=by rw[← hW];exact(Below.refl _ _).alloc (Nat.le_refl _) _
 have hs1:w1.heap.size=w.heap.size+1:=by rw[← hW];simp
 have t0:w1.cell? ⟨w.heap.size,0,none⟩=some (.int .i64 tob):=by rw[← hW];exact cell_of_row _ _ _ _ _ _ (heap_alloc_new w _)
 have t1:w1.cell? ⟨w.heap.size,1,none⟩=some (.int .i64 tv):=by rw[← hW];exact cell_of_row _ _ _ _ _ _ (heap_alloc_new w _)
 have t2:w1.cell? ⟨w.heap.size,2,none⟩=some (.int .i64 td):=by rw[← hW];exact cell_of_row _ _ _ _ _ _ (heap_alloc_new w _)
 clear hW
 have hmay:=mayW_any tob tv td w1 h1 h2 h3 h4 h5
 have g1:¬ (n:Int)<1:=by omega
 have g4:¬ (4:Int)<(n:Int):=by omega
 go_wp2_with fail
 refine hmay.mono ?_
 rintro e w2 ⟨rfl,hb2,hs2⟩
 have s0:=(hb2.cell (p:=⟨w.heap.size,0,none⟩) (by dsimp only;omega)).trans t0
 have s1:=(hb2.cell (p:=⟨w.heap.size,1,none⟩) (by dsimp only;omega)).trans t1
 have s2:=(hb2.cell (p:=⟨w.heap.size,2,none⟩) (by dsimp only;omega)).trans t2
 have HS:Hid (w2.heap.size=w.heap.size+2):=(by omega:w2.heap.size=w.heap.size+2)
 have hbw2:Below w.heap.size w w2:=hb1.trans (hb2.mono (by omega))
 clear hmay t0 t1 t2 hs1 hs2 hb1 hb2
 go_upto_region 3 with fail
 refine Gen.start (S:=fun w'=>w'.cell? ⟨w.heap.size,0,none⟩=some (.int .i64 tob)∧w'.cell? ⟨w.heap.size,1,none⟩=some (.int .i64 tv)∧w'.cell? ⟨w.heap.size,2,none⟩=some (.int .i64 td)) (by kernel_rfl) ⟨s0,s1,s2⟩ (fun hHeld=>?_)
 refine Gen.tk 0 3 ?_ rfl rfl (Or.inl ⟨by rfl,?_⟩) hHeld ?_;rotate_left
 ·rintro w' ⟨s0,s1,s2⟩;go_simp;try with_reducible rfl
 go_frame
 refine Gen.tk 1 2 ?_ rfl rfl (Or.inl ⟨by rfl,?_⟩) hHeld ?_
 rotate_left
 ·intro w' hSw
  go_simp
  try with_reducible rfl
 go_frame
 refine Gen.one (i:=2) (by kernel_rfl) rfl rfl (fun K hK=>?_)
 have hmk:=make_seats n n1 n4 w2.drew
 go_simp
 have hS2:=HS.out
 have cs:∀ i,i<3→∀ u,w2.cell? ⟨w.heap.size,i,none⟩=some u→(w2.alloc (.cells (zseats n).toArray 90)).drew.cell? ⟨w.heap.size,i,none⟩=some u:=fun i _ u hu=>(World.cell?_alloc_lt w2 _ ⟨w.heap.size,i,none⟩ (by dsimp only;omega)).trans hu
 clear hS2
 refine hK.out _ _ ⟨cs 0 (by omega) _ s0,cs 1 (by omega) _ s1,cs 2 (by omega) _ s2⟩ (fun hHeld=>?_)
 clear hK K cs
 try go_frame
 refine Gen.one (i:=3) (by kernel_rfl) rfl rfl (fun K hK=>?_)
 refine wp_buildIs 81 #[(0,.tmp 20),(5,.tmp 22)] rfl (wcells Tryz.zeroCells81 tob tv td w2.heap.size n) ?_ ?_
 ·have hbw:=built_world tob tv td w2.heap.size n
  simpa[Act.eval] using hbw
 refine hK.out _ _ hHeld (fun hHeld=>?_)
 clear hK K
 try go_frame
 refine Gen.one (i:=4) (by kernel_rfl) rfl rfl (fun K hK=>?_)
 obtain⟨zc,hzc⟩:∃ zc,wcells Tryz.zeroCells81 tob tv td w2.heap.size n=zc:=⟨_,rfl⟩
 have HZ:Hid (wcells Tryz.zeroCells81 tob tv td w2.heap.size n=zc):=hzc
 rw[hzc]
 clear hzc
 go_simp
 obtain⟨G,hG⟩:∃ G,w2.heap.size=G:=⟨_,rfl⟩
 rw[hG] at HZ HS
 rw[hG]
 have hS2:=HS.out
 have HN:Hid (Nb w ((w2.alloc (.cells (zseats n).toArray 90)).alloc (.cells zc 81)).drew (G+1) G n 0 tob tv td (fun _=>0) (fun _=>0)):=by
  have bl:Below w.heap.size w ((w2.alloc (.cells (zseats n).toArray 90)).alloc (.cells zc 81)).drew:=((hbw2.alloc (by omega) _).alloc (by simp;omega) _).drew
  have eG:((w2.alloc (.cells (zseats n).toArray 90)).alloc (.cells zc 81)).drew.heap[G]?=some (.cells (zseats n).toArray 90):=by
   have hbb:=(Below.refl (w2.alloc (.cells (zseats n).toArray 90)).heap.size (w2.alloc (.cells (zseats n).toArray 90))).alloc (Nat.le_refl _) (.cells zc 81)
   have e1:=hbb.block w2.heap.size (by simp)
   rw[heap_alloc_new] at e1
   rw[← hG]
   exact e1
  have eQ:((w2.alloc (.cells (zseats n).toArray 90)).alloc (.cells zc 81)).drew.heap[G+1]?=some (.cells zc 81):=by
   have e1:=heap_alloc_new (w2.alloc (.cells (zseats n).toArray 90)) (.cells zc 81)
   rw[show (w2.alloc (.cells (zseats n).toArray 90)).heap.size=G+1 by rw[← hG];simp] at e1
   exact e1
  have cG:∀ i,((w2.alloc (.cells (zseats n).toArray 90)).alloc (.cells zc 81)).drew.cell? ⟨G,i,none⟩=(zseats n)[i]?:=fun i=>by
   rw[cell_of_row _ _ _ _ _ _ eG,List.getElem?_toArray]
  refine⟨bl,by rw[HZ.out];exact eQ,⟨_,_,eG⟩,fun i=>by simp[World.frozen?,eG],fun i hi=>by omega,fun i _ hi=>?_,fun i hi=>by omega,fun i hi=>by omega,fun i j hi=>by omega⟩
  have hz:=zseats_at n i hi
  exact⟨(cG _).trans hz.1,(cG _).trans hz.2.1,(cG _).trans hz.2.2.1,(cG _).trans hz.2.2.2⟩
 have HT:Hid (((w2.alloc (.cells (zseats n).toArray 90)).alloc (.cells zc 81)).drew.cell? ⟨w.heap.size,0,none⟩=some (.int .i64 tob)∧((w2.alloc (.cells (zseats n).toArray 90)).alloc (.cells zc 81)).drew.cell? ⟨w.heap.size,1,none⟩=some (.int .i64 tv)∧((w2.alloc (.cells (zseats n).toArray 90)).alloc (.cells zc 81)).drew.cell? ⟨w.heap.size,2,none⟩=some (.int .i64 td)):=by
  have hb4:Below w2.heap.size w2 ((w2.alloc (.cells (zseats n).toArray 90)).alloc (.cells zc 81)).drew:=(((Below.refl w2.heap.size w2).alloc (Nat.le_refl _) _).alloc (by simp) _).drew
  exact⟨(hb4.cell (p:=⟨w.heap.size,0,none⟩) (by dsimp only;omega)).trans s0,(hb4.cell (p:=⟨w.heap.size,1,none⟩) (by dsimp only;omega)).trans s1,(hb4.cell (p:=⟨w.heap.size,2,none⟩) (by dsimp only;omega)).trans s2⟩
 generalize ((w2.alloc (.cells (zseats n).toArray 90)).alloc (.cells zc 81)).drew=w3 at *
 clear hG hS2 hbw2 s0 s1 s2 HZ hmk
 refine hK.out _ _ HT.out (fun hHeld=>?_)
 clear hK K HT
 try go_frame
 refine Gen.last (i:=5) (by kernel_rfl) rfl rfl (by kernel_rfl) (by kernel_rfl) (fun K hK=>?_)
 go_simp
 refine hK.out _ _ ?_
 clear hK K hHeld
 have sts:w3.cell? ⟨G+1,12409,none⟩=some (.slice (some ⟨G,0,none⟩) n n):=(HN.out.cell 12409).trans (wcells_s ..)
 go_wp2_with fail
 go_loopw [30] (fun i wr=>∃ (k:Nat) (c m:Nat→Nat),k≤n∧i = .int .i64 k∧Nb w wr (G+1) G n k tob tv td c m) (fun i _=>n-(intOf i).toNat)
 case atStart=>exact⟨0,_,_,by omega,rfl,HN.out⟩
 case round=>
  obtain⟨k,c,m,hk,rfl,N⟩:=hrel
  by_cases hlt:k<n
  ·have r:=N.rest k (by omega) hlt
   have hS2:=HS.out
   have hen:=enter_low (G+1) G n k tob tv td 0 wr ((N.cell 12409).trans (wcells_s ..)) ((N.cell 0).trans (wcells_0 ..)) ((N.cell 1).trans (wcells_1 ..)) ((N.cell 2).trans (wcells_2 ..)) hlt n4 _ _ _ r.1 r.2.2.1 r.2.2.2 N.gf (by omega) (by omega) (by omega) (by omega) h4 h5 (by omega) (by omega)
   rw[show (0:Int)*4+(k:Int)=k by omega] at hen
   have hkI:(k:Int)<(n:Int):=by omega
   have hkI0:(0:Int)≤(k:Int):=by omega
   have HX:Hid (∀ w2 x q,Below wr.heap.size wr w2→CliIs w2 x q (K.new k (short td tob) (short td tv))→wr.heap.size≤x→wr.heap.size≤q→∃ c m,Nb w (seated w2 G k x 0) (G+1) G n (k+1) tob tv td c m):=fun w2 x q a1 a2 a3 a4=>⟨_,_,N.more hlt (by omega) (by omega) a1 a2 a3 a4⟩
   clear N r HN sts hS2
   go_wp2_with fail
   refine hen.mono ?_
   rintro e w7 ⟨rfl,x,q,w6,a1,a2,a3,a4,hw7⟩
   have HN7:Hid (∃ c m,Nb w w7 (G+1) G n (k+1) tob tv td c m):=by rw[hw7];exact HX.out w6 x q a1 a2 a3 a4
   clear HX hen a1 a2 hw7
   go_wp2_with fail
   go_roundw
   case rel=>
    obtain⟨c',m',hN7⟩:=HN7.out
    exact⟨k+1,c',m',by omega,by go_num,hN7⟩
   case measure=>simp[intOf];omega
  ·obtain rfl:k=n:=by omega
   have hS2:=HS.out
   have hD:=N.done n1 n4 ⟨0,0,0,0,0⟩
   have hL:=N.low (by omega) (by omega) ⟨0,0,0,0,0⟩
   have hst:=start_any ⟨G+1,G,c,m,⟨0,0,0,0,0⟩⟩ (Wd.bare tob tv td k) 0 wr hD rfl (WdB.bare h1 h2 h3 h4 h5) (by simp[Wd.bare]) (fun r hr=>by simp[Wd.bare] at hr)
   have HX:Hid (∀ (a:Ad) w',WdIs w' ⟨G+1,G,c,m,a⟩ (Wd.bare tob tv td k).start→Fz ⟨G+1,G,c,m,⟨0,0,0,0,0⟩⟩ (Wd.bare tob tv td k) wr ⟨G+1,G,c,m,a⟩ (Wd.bare tob tv td k).start w'→Below w.heap.size w w'∧Low w.heap.size w' ⟨G+1,G,c,m,a⟩ (Wd.bare tob tv td k).start):=fun a w' _ b2=>⟨N.bl.trans (b2.below hL hD.lt),hL.step b2 N.bl.size⟩
   clear N HN sts hS2 hD hL
   go_wp2_with fail
   refine hst.mono ?_
   rintro e w7 ⟨rfl,a,d1,d2⟩
   have HF:=HX.out a w7 d1 d2
   clear HX hst d2
   go_wp2_with fail
   exact bodyPost_ret (v:=.tuple #[tp (G+1),.nilIface]) (by simp[results,Tryz.results22,go_sem]) rfl ⟨⟨G+1,G,c,m,a⟩,rfl,d1,HF.1,HF.2⟩
end Wld
end
section
namespace Wld
open Go.RowKit Go.Maps
open Lease (Ob I64 upd TabIs hol dels objB HasI kk mx)
open Cache (tp row_kept row_below)
open Wal (R mayB timeB WalIs DiskIs rcells Oq)
open Num (M)
open Bare (Laid)
theorem newF_any(q:Nat)(tob tv td now:Int)(rs:List R)(w:World)(hD:DiskIs w q rs false 0)(hq:q<w.heap.size)(hlen:rs.length=200)(hq0:0<q)(hlaid:Laid w)(hbd:∀ r∈rs,0≤r.c∧r.o<8)(hep:0≤(Sv.opened tob tv td rs false 0).epoch)(hep1:(Sv.opened tob tv td rs false 0).epoch≤1000)(hn0:0≤now)(hn1:now≤549755813888)(hv0:0≤tv)(hv1:tv≤274877906944) :
  Calls Tryz.prog 123 #[.pointer (some ⟨q,3,none⟩),.agg #[.int .i64 tob,.int .i64 tv,.int .i64 td],.int .i64 now] w fun e w'=>∃ a:Ad,a.q=q∧e = .returned (.tuple #[tp a.S,.nilIface])∧SvIs w' a (Sv.new tob tv td rs false 0 now)∧Oq q w w'∧∀ k,foot w' a k→k=q∨w.heap.size≤k:=by
 have HLN:Hid (rs.length=200):=hlen
 have hle:rs.length<201:=by omega
 clear hlen
 go_enter Tryz.func123,Tryz.ntmps123
 go_upto_region 1 with fail
 generalize hW:w.alloc (.cells #[.int .i64 tob,.int .i64 tv,.int .i64 td] 29)=w1
 have hb1:Below w.heap.size w w1:=by rw[← hW];exact(Below.refl _ _).alloc (Nat.le_refl _) _
 have hs1:w1.heap.size=w.heap.size+1:=by rw[← hW];simp
 have t0:w1.cell? ⟨w.heap.size,0,none⟩=some (.int .i64 tob):=by rw[← hW];exact cell_of_row _ _ _ _ _ _ (heap_alloc_new w _)
 have t1:w1.cell? ⟨w.heap.size,1,none⟩=some (.int .i64 tv):=by rw[← hW];exact cell_of_row _ _ _ _ _ _ (heap_alloc_new w _)
 have t2:w1.cell? ⟨w.heap.size,2,none⟩=some (.int .i64 td):=by rw[← hW];exact cell_of_row _ _ _ _ _ _ (heap_alloc_new w _)
 clear hW
 have hD1:=hD.below hb1 hq
 have hop:=Wal.open_any q rs false 0 w1 hD1 (by omega)
 go_wp2_with fail
 refine hop.mono ?_
 rintro e w2 ⟨U,rfl,hL2,hU,hb2⟩
 have hD2:=hD1.below hb2 (by omega)
 have hs2:=hb2.size
 have hU2:=hL2.lt
 have s0:=(hb2.cell (p:=⟨w.heap.size,0,none⟩) (by dsimp only;omega)).trans t0
 have s1:=(hb2.cell (p:=⟨w.heap.size,1,none⟩) (by dsimp only;omega)).trans t1
 have s2:=(hb2.cell (p:=⟨w.heap.size,2,none⟩) (by dsimp only;omega)).trans t2
 clear hop t0 t1 t2
 go_upto_region 4 with fail
 have hln:=Lease.new_any w2.drew
 rw[show w2.drew.heap.size=w2.heap.size from rfl] at hln
 refine Gen.start (S:=fun w'=>w'.cell? ⟨w.heap.size,0,none⟩=some (.int .i64 tob)∧w'.cell? ⟨w.heap.size,1,none⟩=some (.int .i64 tv)∧w'.cell? ⟨w.heap.size,2,none⟩=some (.int .i64 td)) (by kernel_rfl) ⟨s0,s1,s2⟩ (fun hHeld=>?_)
 refine Gen.tk 0 3 ?_ rfl rfl (Or.inl ⟨by rfl,?_⟩) hHeld ?_;rotate_left
 ·rintro w' ⟨s0,s1,s2⟩;go_simp;try with_reducible rfl
 go_frame
 refine Gen.tk 1 3 ?_ rfl rfl (Or.inl ⟨by rfl,?_⟩) hHeld ?_;rotate_left
 ·rintro w' ⟨s0,s1,s2⟩;go_simp;try with_reducible rfl
 go_frame
 refine Gen.one (i:=2) (by kernel_rfl) rfl rfl (fun K hK=>?_)
 go_simp
 refine hln.mono ?_
 rintro e w3 ⟨rfl,hT3,hb3,hs3⟩
 dsimp only
 have r0:=(hb3.cell (p:=⟨w.heap.size,0,none⟩) (by dsimp only;omega)).trans s0
 have r1:=(hb3.cell (p:=⟨w.heap.size,1,none⟩) (by dsimp only;omega)).trans s1
 have r2:=(hb3.cell (p:=⟨w.heap.size,2,none⟩) (by dsimp only;omega)).trans s2
 refine hK.out _ _ ⟨r0,r1,r2⟩ (fun hHeld=>?_)
 clear hK K
 try go_frame
 refine Gen.tk 3 4 ?_ rfl rfl (Or.inl ⟨by rfl,?_⟩) hHeld ?_;rotate_left
 ·rintro w' ⟨s0,s1,s2⟩;go_simp;try with_reducible rfl
 go_frame
 refine Gen.one (i:=4) (by kernel_rfl) rfl rfl (fun K hK=>?_)
 go_simp
 have hb3':Below w2.heap.size w2 w3:=⟨hb3.os,hb3.tape,hb3.output,hb3.size,hb3.block⟩
 have F:=SvIs.made (tob:=tob) (tv:=tv) (td:=td) (hL2.below hb3') (hD2.below hb3' (by omega)) hT3 (by omega) hU2 (by omega)
 rw[hs3] at F
 change K _ (w3.alloc (.cells (svz tob tv td U (w2.heap.size+1)) 144))
 generalize hW:w3.alloc (.cells (svz tob tv td U (w2.heap.size+1)) 144)=w4
 rw[hW] at F
 have hb4:Below w3.heap.size w3 w4:=by rw[← hW];exact(Below.refl _ _).alloc (Nat.le_refl _) _
 have hs4:w4.heap.size=w3.heap.size+1:=by rw[← hW];simp
 have hbw:Below w.heap.size w w4:=(hb1.trans (hb2.mono (by omega))).trans ((hb3'.mono (by omega)).trans (hb4.mono (by omega)))
 have r0':=(hb4.cell (p:=⟨w.heap.size,0,none⟩) (by dsimp only;omega)).trans r0
 have r1':=(hb4.cell (p:=⟨w.heap.size,1,none⟩) (by dsimp only;omega)).trans r1
 have r2':=(hb4.cell (p:=⟨w.heap.size,2,none⟩) (by dsimp only;omega)).trans r2
 have hft:∀ k,foot w4 ⟨q,w2.heap.size+2,U,w2.heap.size+1,w2.heap.size⟩ k→k=q∨w.heap.size<k:=fun k f=>by
  rcases f with f|f|f|f|f|⟨v,f1,f2⟩|⟨i,v,hi,f1,f2⟩
  ·exact .inl f
  ·exact .inr (by dsimp only at f;omega)
  ·exact .inr (by dsimp only at f;omega)
  ·exact .inr (by dsimp only at f;omega)
  ·exact .inr (by dsimp only at f;omega)
  ·have:=(F.rowU f1 f2).1
   exact .inr (by dsimp only at this;omega)
  ·have:=(F.rowS hi f1 f2).1
   exact .inr (by dsimp only at this;omega)
 clear hW hL2 hD2 hT3 hb3 hb3' hb4 hD hD1 r0 r1 r2 s0 s1 s2 hln
 refine hK.out _ _ ⟨r0',r1',r2'⟩ (fun hHeld=>?_)
 clear hK K
 try go_frame
 refine Gen.last (i:=5) (by kernel_rfl) rfl rfl (by kernel_rfl) (by kernel_rfl) (fun K hK=>?_)
 go_simp
 refine hK.out _ _ ?_
 clear hK K hHeld
 obtain⟨a,ha⟩:∃ a:Ad,a=⟨q,w2.heap.size+2,U,w2.heap.size+1,w2.heap.size⟩:=⟨_,rfl⟩
 have hrec:=Wal.records_any U q rs false w4 (by have:=F.log;exact this) (by omega)
 rw[← ha] at F hft
 have aS:a.S=w2.heap.size+2:=by rw[ha]
 have aq:a.q=q:=by rw[ha]
 have aU:a.U=U:=by rw[ha]
 rw[← aS]
 have aSl:w.heap.size≤a.S:=by omega
 clear ha aS
 subst aU
 subst aq
 go_wp2_with fail
 refine hrec.mono ?_
 rintro e w5 ⟨v5,rfl,hrow5,hb5⟩
 have F5:=F.below hb5
 have hfr5:∀ g,v5.ownBlock=some g→¬ foot w5 a g:=fun g hg=>F.fresh hb5 (World.ownsRow.lt hrow5 g hg).1
 have hs5:=hb5.size
 have hq5:=hbw.trans (hb5.mono (by omega))
 have hft5:∀ k,foot w5 a k→k=a.q∨w.heap.size<k:=fun k f=>hft k (foot_same (World.cell?_of_block (hb5.block a.U F.lts.2.1)) (fun i _=>World.cell?_of_block (hb5.block a.S F.lts.2.2.2.2.1)) f)
 obtain⟨av,cv,hav,hcv,hcn⟩:=Net.row_shape hrow5
 subst hav
 have HN:Hid (Nw w5 w5 a (Sv.zero tob tv td rs false 0) rs w4.heap.size (.slice av rs.length cv) 0):=⟨F5,Fs.refl _ _,hrow5,hfr5⟩
 clear hrow5 hfr5 F5 hrec F hcv
 go_wp2_with fail
 go_loopw [29] (fun i wr=>∃ k:Nat,k≤rs.length∧i = .int .i64 k∧Nw w5 wr a (Sv.zero tob tv td rs false 0) rs w4.heap.size (.slice av rs.length cv) k) (fun i _=>rs.length-(intOf i).toNat)
 case atStart=>exact⟨0,by omega,rfl,HN.out⟩
 case round=>
  obtain⟨k,hk,rfl,A⟩:=hrel
  by_cases hlt:k<rs.length
  ·obtain⟨g,rfl⟩:∃ g,av=some ⟨g,0,none⟩:=by
    rcases A.row.2 with ⟨e,h0⟩|⟨g,cap,cur,e,_⟩
    ·omega
    ·injection e with e
     exact⟨g,e⟩
   have hcell:∀ j u,(rs[k].cells)[j]?=some u→wr.cell? ⟨g,k*6+j,none⟩=some u:=fun j u hu=>by
    have hj:j<6:=by
     have:=(List.getElem?_eq_some_iff.1 hu).1
     simpa[Wal.R.cells] using this
    have:=World.ownsRow.cellAt A.row (k*6+j) (by omega)
    rw[this,rcells_get rs k j hlt hj]
    exact hu
   obtain⟨hc0,ho8⟩:=hbd rs[k] (List.getElem_mem hlt)
   have HTK:Hid ((rs.take (k+1)).foldl Sv.applied (Sv.zero tob tv td rs false 0)=((rs.take k).foldl Sv.applied (Sv.zero tob tv td rs false 0)).applied rs[k]):=by
    unfold Hid
    rw[List.take_succ_eq_append_getElem hlt,List.foldl_append]
    rfl
   obtain⟨r,hr⟩:∃ r,rs[k]=r:=⟨_,rfl⟩
   rw[hr] at hcell hc0 ho8 HTK
   have q0:wr.cell? ⟨g,k*6,none⟩=some (.int .i64 r.c):=hcell 0 _ rfl
   have q1:=hcell 1 _ rfl
   have q2:=hcell 2 _ rfl
   have q3:=hcell 3 _ rfl
   have q4:=hcell 4 _ rfl
   have q5:=hcell 5 _ rfl
   have hkI:(k:Int)<(rs.length:Int):=by omega
   have hkI0:(0:Int)≤(k:Int):=by omega
   have hap:=apply_any a ((rs.take k).foldl Sv.applied (Sv.zero tob tv td rs false 0)) r _ (A.sv.alloc (.cells #[.int .i64 r.c,.int .i64 r.n,.int .i64 r.o,.int .i64 r.v,.string r.d,.int .i64 r.e] 138)) hc0 ho8
   unfold Wal.R.agg at hap
   have HA:Hid (Nw w5 wr a (Sv.zero tob tv td rs false 0) rs w4.heap.size (.slice (some ⟨g,0,none⟩) rs.length cv) k):=A
   have hwr:=A.sv
   clear A hcell hr
   go_wp2_with fail
   generalize hW:wr.alloc (.cells #[.int .i64 r.c,.int .i64 r.n,.int .i64 r.o,.int .i64 r.v,.string r.d,.int .i64 r.e] 138)=w6 at *
   have hb6:Below wr.heap.size wr w6:=by rw[← hW];exact(Below.refl _ _).alloc (Nat.le_refl _) _
   refine hap.mono ?_
   rintro e w7 ⟨rfl,F7,hF67⟩
   have hF6:=HA.out.fs.below hwr hb6
   have HN7:Hid (Nw w5 w7 a (Sv.zero tob tv td rs false 0) rs w4.heap.size (.slice (some ⟨g,0,none⟩) rs.length cv) (k+1)):=by
    have hr6:=row_below HA.out.row hb6
    have hsep6:∀ x,(Value.slice (some ⟨g,0,none⟩) rs.length cv).ownBlock=some x→¬ foot w6 a x:=fun x hx f=>HA.out.sep x hx (foot_same (World.cell?_of_block (hb6.block a.U hwr.lts.2.1)) (fun i _=>World.cell?_of_block (hb6.block a.S hwr.lts.2.2.2.2.1)) f)
    exact⟨by rw[HTK.out];exact F7,hF6.trans hF67,row_kept hr6 fun x hx=>hF67.block x (World.ownsRow.lt hr6 x hx).2 (hsep6 x hx),fun x hx f=>hsep6 x hx (hF67.grows x (World.ownsRow.lt hr6 x hx).2 f)⟩
   clear hap F7 hF67 hF6 hb6 hW HA hwr q0 q1 q2 q3 q4 q5
   go_wp2_with fail
   go_roundw
   case rel=>exact⟨k+1,by omega,by go_num,HN7.out⟩
   case measure=>simp[intOf];omega
  ·obtain rfl:k=rs.length:=by omega
   have F:=A.sv
   have hF:=A.fs
   rw[List.take_length] at F
   obtain⟨so,hso⟩:∃ so,Sv.opened tob tv td rs false 0=so:=⟨_,rfl⟩
   have HSO:Hid (Sv.opened tob tv td rs false 0=so):=hso
   have F':SvIs wr a so:=by rw[← hso];exact F
   rw[hso] at hep hep1
   have hall:=applied_all rs (Sv.zero tob tv td rs false 0)
   have htv:so.tv=tv:=by rw[← hso];exact hall.2.1
   have hdn:so.down=false:=by rw[← hso];exact hall.2.2.2.1
   have hfl:so.fails=false:=by rw[← hso];exact hall.2.2.2.2.1
   have hlf:so.left=0:=by rw[← hso];exact hall.2.2.2.2.2.1
   have hrs:so.rs=rs:=by rw[← hso];exact hall.2.2.2.2.2.2.2.2.2.2.2.2.2
   have hbx:wr.heap[w.heap.size]?=w5.heap[w.heap.size]?:=hF.block _ (by omega) (fun f=>by
    rcases hft5 _ f with q|q
    ·have:=F'.lts.1;omega
    ·omega)
   have v1:=(World.cell?_of_block (a:=⟨w.heap.size,1,none⟩) hbx).trans ((hb5.cell (p:=⟨w.heap.size,1,none⟩) (by dsimp only;omega)).trans r1')
   have c5:=F'.c5
   have c6:=F'.c6
   have f5:=F'.free 5
   have f6:=F'.free 6
   clear A F hso hall hbx HN
   have hw1:IntKind.i64.wrap (now+tv)=now+tv:=wrapI (by omega) (by omega)
   have hw2:IntKind.i64.wrap (so.epoch+1)=so.epoch+1:=wrapI (by omega) (by omega)
   obtain⟨rd,hrd⟩:∃ rd,(if 0<so.epoch then now+so.tv else so.ready)=rd:=⟨_,rfl⟩
   have HRD:Hid ((if 0<so.epoch then now+so.tv else so.ready)=rd):=hrd
   clear hrd
   go_upto_if 41 with fail
   go_cut[] from 42 to 48 (fun wx=>SvIs wx a { so with ready:=rd }∧Fs a wr wx)
   case first=>
    by_cases h0:0<so.epoch
    ·have HF6:Hid (SvIs (wr.setCell ⟨a.S,6,none⟩ (.int .i64 (now+tv))) a { so with ready:=rd }∧Fs a wr (wr.setCell ⟨a.S,6,none⟩ (.int .i64 (now+tv)))):=⟨by rw[show rd=now+tv by rw[← HRD.out,if_pos h0,htv]];exact F'.set6 (now+tv),(Fs.refl _ _).setS F' (by omega)⟩
     clear F' htv
     go_wp2_with fail
     all_goals first|omega|(go_meet;exact HF6.out)
    ·have HF6:Hid (SvIs wr a { so with ready:=rd }∧Fs a wr wr):=⟨by rw[show rd=so.ready by rw[← HRD.out,if_neg h0]];exact F',Fs.refl _ _⟩
     clear F' htv
     go_wp2_with fail
     all_goals first|omega|(go_meet;exact HF6.out)
   case rest=>
    obtain⟨F6,hF6⟩:=hcut
    have hF56:=hF.trans hF6
    have d5:=F6.c5
    have e5:=F6.free 5
    dsimp only at d5
    have F7:SvIs (wc.setCell ⟨a.S,5,none⟩ (.int .i64 (so.epoch+1))) a (so.readied now):=by
     unfold Sv.readied
     rw[HRD.out]
     exact F6.set5 (so.epoch+1)
    have hF7:Fs a w5 (wc.setCell ⟨a.S,5,none⟩ (.int .i64 (so.epoch+1))):=hF56.setS F6 (by omega)
    go_upto_region 13 with fail
    generalize wc.setCell ⟨a.S,5,none⟩ (.int .i64 (so.epoch+1))=w8 at *
    have hadd:=add_any a (so.readied now) 0 (epochR (so.epoch+1)) w8 F7 (by
     have ht:timeB (so.epoch+1)=true:=Num.inB_true (by omega) (by omega)
     show (timeB (so.epoch+1)&&_)=true
     rw[ht]
     rfl) (by show 0≤so.left;omega) (by show so.left≤_;omega)
    have hz:(so.readied now).add (epochR (so.epoch+1))=(so.readied now,12):=by
     unfold Sv.add
     have k1:(so.readied now).down=false:=hdn
     have k2:(so.readied now).rs=rs:=hrs
     have k3:(so.readied now).fails=false:=hfl
     rw[if_neg (by rw[k1];decide),if_pos (by rw[k2];exact HLN.out)]
    have HZ:Hid (Sv.new tob tv td rs false 0 now=((so.readied now).add (epochR (so.epoch+1))).1):=by
     unfold Hid Sv.new
     rw[HSO.out]
     rfl
    have HZ2:Hid (((so.readied now).add (epochR (so.epoch+1))).2=12):=by unfold Hid;rw[hz]
    rw[HZ2.out] at hadd
    have d5':=F7.c5
    have hde:(so.readied now).epoch=so.epoch+1:=rfl
    rw[hde] at d5'
    unfold epochR Wal.R.agg at hadd
    dsimp only at hadd
    have HF57:Hid (Fs a w5 w8):=hF7
    clear hz F7 F6 hF6 hF56 d5 e5 hF c5 c6 f5 f6 v1 hde
    go_wp2_with fail
    refine hadd.mono ?_
    rintro e w9 ⟨rfl,F9,hF9⟩
    rw[show eV 12 = .iface 59 (.int .i64 12) from rfl]
    have hall:Fs a w5 w9:=HF57.out.trans hF9
    have HP:Hid (∃ a':Ad,a'.q=a.q∧tp a.S=tp a'.S∧SvIs w9 a' (Sv.new tob tv td rs false 0 now)∧Oq a.q w w9∧∀ k,foot w9 a' k→k=a.q∨w.heap.size≤k):=by
     refine⟨a,rfl,rfl,by rw[HZ.out];exact F9,?_,fun k f=>?_⟩
     ·refine⟨hall.os.trans hq5.os,hall.tape.trans hq5.tape,hall.output.trans hq5.output,Nat.le_trans hq5.size hall.size,fun k hk hkq=>?_,fun i _ hi=>?_,fun i _=>?_,fun t ht=>?_⟩
      ·have hk5:k<w5.heap.size:=by omega
       rw[hall.block k hk5 (fun f=>by
        rcases hft5 k f with q|q
        ·exact hkq q
        ·omega)]
       exact hq5.block k hk
      ·rw[hall.cell i hi]
       exact hq5.cell (p:=⟨a.q,i,none⟩) hq
      ·rw[hall.fro i]
       exact hq5.frozen (p:=⟨a.q,i,none⟩) hq
      ·exact hall.typ t (by rw[hq5.block a.q hq];exact ht)
     ·by_cases hk:k<w5.heap.size
      ·rcases hft5 k (hall.grows k hk f) with q|q
       ·exact .inl q
       ·exact .inr (by omega)
      ·exact .inr (by omega)
    have hla9:Laid w9:=by
     obtain⟨a',p1,p2,p3,p4,p5⟩:=HP.out
     have h0:=hlaid
     unfold Bare.Laid at h0 ⊢
     exact(World.cell?_of_block (p4.block 0 (Bare.Laid.size hlaid) (by omega))).trans h0
    have htell:=Bare.tell_errno 12 w9 hla9
    have hSl:=F9.lts
    clear hadd F9 hF9 hall
    go_wp2_with fail
    refine htell.mono ?_
    rintro e wT ⟨rfl,hbT⟩
    have HPT:Hid (∃ a':Ad,a'.q=a.q∧tp a.S=tp a'.S∧SvIs wT a' (Sv.new tob tv td rs false 0 now)∧Oq a.q w wT∧∀ k,foot wT a' k→k=a.q∨w.heap.size≤k):=by
     obtain⟨a',p1,p2,p3,p4,p5⟩:=HP.out
     refine⟨a',p1,p2,p3.below hbT,?_,fun k f=>?_⟩
     ·exact p4.trans (Oq.of_below hbT)
     ·by_cases hk:k<w9.heap.size
      ·exact p5 k (foot_same (World.cell?_of_block (hbT.block _ p3.lts.2.1)) (fun i _=>World.cell?_of_block (hbT.block _ p3.lts.2.2.2.2.1)) f)
      ·have:=p4.size
       exact .inr (by omega)
    clear HP htell
    go_wp2_with fail
    obtain⟨a',p1,p2,p3,p4,p5⟩:=HPT.out
    exact bodyPost_ret (v:=.tuple #[tp a.S,.nilIface]) (by simp[results,Tryz.results123,go_sem]) rfl ⟨a',p1,by rw[← p2],p3,p4,p5⟩
end Wld
end
end Go.Proofs.YtbebfliimjjohabGreatDoor
