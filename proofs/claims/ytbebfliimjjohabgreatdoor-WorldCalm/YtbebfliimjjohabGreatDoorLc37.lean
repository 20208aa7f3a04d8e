/- Parts of the proof. -/
import Derived.Test.YtbebfliimjjohabGreatDoorLc36
import Derived.Test.YtbebfliimjjohabGreatDoorLc20
import Derived.Maps.RangeWalk
import Derived.Test.YtbebfliimjjohabGreatDoorLc06
import Derived.BigQuiet
set_option maxRecDepth 100000
set_option maxHeartbeats 8000000
namespace Go.Proofs.YtbebfliimjjohabGreatDoor
section
namespace Wld
open Go.RowKit Go.Maps
open Lease (Ob I64 upd TabIs hol dels objB HasI zaj zaw mx)
open Cache (tp zab zac)
open Wal (R WalIs zzb Oq Fw rcells)
open Num (M okB strOf ints)
open Net (NetIs Only pcells hasB)
theorem zqz(A:Wa)(s:Wd)(k:Int)(w:World)(h:WdIs w A s)(hk:hasB k s.net.length=false) :
  Calls Tryz.prog 26 #[tp A.Q,.int .i64 k] w fun e w'=>(∃ v,e = .returned v)/\Below w.heap.size w w':=by
 have htk:=Net.zos (A.Q+1) A.Q (s.net.map encN) k w h.net (by rw[List.length_map];exact hk)
 clear h
 go_enter Tryz.func26,Tryz.ntmps26
 go_wp2_with fail
 refine htk.mono ?_
 rintro e w2 ⟨rfl,hb⟩
 have hb2:∀ o,Below w.heap.size w (w2.alloc o):=fun o=>hb.alloc hb.size o
 clear htk
 go_wp2_with fail
 go_ret
 exact⟨⟨_,rfl⟩,hb2 _⟩
theorem zx3(A:Wa)(s:Wd)(k:Int)(w:World)(h:WdIs w A s)(hk:hasB k s.net.length=false) :
  Calls Tryz.prog 27 #[tp A.Q,.int .i64 k] w fun e w'=>(∃ v,e = .returned v)/\Below w.heap.size w w':=by
 have htk:=Net.zos (A.Q+1) A.Q (s.net.map encN) k w h.net (by rw[List.length_map];exact hk)
 clear h
 go_enter Tryz.func27,Tryz.ntmps27
 go_wp2_with fail
 refine htk.mono ?_
 rintro e w2 ⟨rfl,hb⟩
 have hb2:∀ o,Below w.heap.size w (w2.alloc o):=fun o=>hb.alloc hb.size o
 clear htk
 go_wp2_with fail
 go_ret
 exact⟨⟨_,rfl⟩,hb2 _⟩
theorem zil(A:Wa)(s:Wd)(k:Int)(w:World)(h:WdIs w A s)(hk:hasB k s.net.length=false) :
  Calls Tryz.prog 28 #[tp A.Q,.int .i64 k] w fun e w'=>(∃ v,e = .returned v)/\Below w.heap.size w w':=by
 have htk:=Net.zil (A.Q+1) A.Q (s.net.map encN) k w h.net (by rw[List.length_map];exact hk)
 clear h
 go_enter Tryz.func28,Tryz.ntmps28
 go_wp2_with fail
 refine htk.mono ?_
 rintro e w2 ⟨rfl,rfl⟩
 clear htk
 go_wp2_with fail
 go_ret
 exact⟨⟨_,rfl⟩,Below.refl _ _⟩
def zseats:Nat->List Value
 | 0=>[]
 | n+1=>[.pointer none,.int .i64 0,.int .i64 0,.int .i64 0]++zseats n
theorem zk3:∀ (n i:Nat),i<n->(zseats n)[i*4]?=some (.pointer none)/\(zseats n)[i*4+1]?=some (.int .i64 0)/\(zseats n)[i*4+2]?=some (.int .i64 0)/\(zseats n)[i*4+3]?=some (.int .i64 0)
 | n+1,0,_=>⟨rfl,rfl,rfl,rfl⟩
 | n+1,i+1,h=>by
  have e:∀ j,(zseats (n+1))[(i+1)*4+j]?=(zseats n)[i*4+j]?:=fun j=>by
   show ([Value.pointer none,.int .i64 0,.int .i64 0,.int .i64 0]++zseats n)[(i+1)*4+j]?=_
   rw[List.getElem?_append_right (by simp;omega)]
   congr 1
   simp
   omega
  have h1:=zk3 n i (by omega)
  exact⟨(e 0).trans h1.1,(e 1).trans h1.2.1,(e 2).trans h1.2.2.1,(e 3).trans h1.2.2.2⟩
theorem zq0(n:Nat)(h1:1<=n)(h4:n<=4)(w:World):(Instr.makeSlice 79 (.int .i64 n) (.int .i64 n)).run Tryz.prog w = .ok (.slice (some ⟨w.heap.size,0,none⟩) n n) (w.alloc (.cells (zseats n).toArray 90)):=by
 obtain rfl|rfl|rfl|rfl:n=1\/n=2\/n=3\/n=4:=by omega
 all_goals kernel_rfl
def Low(N:Nat)(w:World)(A:Wa)(s:Wd):Prop:=∀ k,wfoot w A s k->N<=k
theorem Low.step{N:Nat}{w w':World}{A A':Wa}{s s':Wd}(h:Low N w A s)(hf:Fz A s w A' s' w')(hN:N<=w.heap.size):Low N w' A' s':=fun k hk=>by
 by_cases hl:k<w.heap.size
 ·exact h k (hf.grows k hl hk)
 ·omega
theorem Fz.below{N:Nat}{w w':World}{A A':Wa}{s s':Wd}(hf:Fz A s w A' s' w')(h:Low N w A s)(hQ:A.Q<w.heap.size):Below N w w':=
 ⟨hf.os,hf.tape,hf.output,hf.size,fun k hk=>hf.blk k (by have:=h A.Q (.Q rfl);omega) (fun q=>by have:=h k q;omega) (fun q=>by have:=h A.Q (.Q rfl);omega)⟩
theorem Nb.low{w wr:World}{Q G n:Nat}{tob tv td:Int}{c m:Nat->Nat}(h:Nb w wr Q G n n tob tv td c m)(hG:w.heap.size<=G)(hQ:w.heap.size<=Q)(a:Ad):Low w.heap.size wr ⟨Q,G,c,m,a⟩ (Wd.bare tob tv td n):=fun k hk=>by
 rcases hk with q|q|⟨v,q1,q2⟩|⟨i,hi,q⟩|⟨i,hi,q⟩|⟨q,_⟩
 ·rw[q];exact hQ
 ·rw[q];exact hG
 ·rw[h.cell 12410,zg5 _ _ _ _ _ _ (by omega) (by omega),zcs 7] at q1
  have e:v = .slice none 0 0:=(Option.some.inj q1).symm
  rw[e] at q2
  cases q2
 ·have:=h.lo i hi;rw[q];show w.heap.size<=c i;omega
 ·have:=h.lo i hi;rw[q];show w.heap.size<=m i;omega
 ·cases q
theorem zwf(z:Array Value)(hz:z.size=12412)(tob tv td:Int)(G n:Nat):Instr.fill (fun x=>([(0,3),(3,12402),(12405,2),(12407,1),(12408,1),(12409,1),(12410,1),(12411,1)]:List (Nat×Nat)).toArray[x]?) z [(0,.agg #[.int .i64 tob,.int .i64 tv,.int .i64 td]),(5,.slice (some ⟨G,0,none⟩) n n)]=some (wcells z tob tv td G n):=by
 simp[Instr.fill,Value.cells,hz,wcells]
theorem zn7(tob tv td:Int)(G n:Nat):Tryz.prog.built 81 [(0,.agg #[.int .i64 tob,.int .i64 tv,.int .i64 td]),(5,.slice (some ⟨G,0,none⟩) n n)]=some (wcells Tryz.zeroCells81 tob tv td G n):=by
 have hi:(Tryz.prog.info? 81).map (·.zero)=some (some (.agg Tryz.zeroCells81)):=by kernel_rfl
 obtain⟨it,h1,h2⟩:=Option.map_eq_some_iff.1 hi
 unfold Program.built
 rw[h1,Tryz.underlying81]
 dsimp only
 rw[h2]
 generalize hg:List.mapM (m:=Option) (β:=Nat×Nat) _ _=r
 have hr:r=some [(0,3),(3,12402),(12405,2),(12407,1),(12408,1),(12409,1),(12410,1),(12411,1)]:=by rw[<- hg];kernel_rfl
 rw[hr]
 exact zwf _ zfe tob tv td G n
theorem zq1{o:Oper}{a:Act}{w:World}{K:Act->World->Prop}{Q:Exit->Act->World->Prop}(t:TypeId)(parts:Array (Nat×Operand))(ho:o.op = .build t parts)(cells:Array Value)(hf:Tryz.prog.built t (parts.map fun (i,x)=>(i,a.eval x)).toList=some cells)(h:K (a.put o.dst (.agg cells)) w):o.wp Tryz.prog a w K Q:=
 wp_build t parts ho (by rw[hf];rfl) (by rw[hf];exact h)
theorem zm3(tob tv td:Int)(n:Nat)(w:World)(n1:1<=n)(n4:n<=4)(h1:1<=tv)(h2:tv<=tob)(h3:tob<=274877906944)(h4:0<=td)(h5:td<=500) :
  Calls Tryz.prog 22 #[.agg #[.int .i64 tob,.int .i64 tv,.int .i64 td],.int .i64 n] w fun e w'=>∃ A,e = .returned (.tuple #[tp A.Q,.nilIface])/\WdIs w' A (Wd.bare tob tv td n).start/\Below w.heap.size w w'/\Low w.heap.size w' A (Wd.bare tob tv td n).start:=by
 go_enter Tryz.func22,Tryz.ntmps22
 go_upto_region 1 with fail
 generalize hW:w.alloc (.cells #[.int .i64 tob,.int .i64 tv,.int .i64 td] 29)=w1
 have hb1:Below w.heap.size w w1:=by rw[<- hW];exact(Below.refl _ _).alloc (Nat.le_refl _) _
 have hs1:w1.heap.size=w.heap.size+1:=by rw[<- hW];simp
 have t0:w1.cell? ⟨w.heap.size,0,none⟩=some (.int .i64 tob):=by rw[<- hW];exact cell_of_row _ _ _ _ _ _ (heap_alloc_new w _)
 have t1:w1.cell? ⟨w.heap.size,1,none⟩=some (.int .i64 tv):=by rw[<- hW];exact cell_of_row _ _ _ _ _ _ (heap_alloc_new w _)
 have t2:w1.cell? ⟨w.heap.size,2,none⟩=some (.int .i64 td):=by rw[<- hW];exact cell_of_row _ _ _ _ _ _ (heap_alloc_new w _)
 clear hW
 have hmay:=zwe tob tv td w1 h1 h2 h3 h4 h5
 have g1:¬ (n:Int)<1:=by omega
 have g4:¬ (4:Int)<(n:Int):=by omega
 go_wp2_with fail
 refine hmay.mono ?_
 rintro e w2 ⟨rfl,hb2,hs2⟩
 have s0:=(hb2.cell (p:=⟨w.heap.size,0,none⟩) (by dsimp only;omega)).trans t0
 have s1:=(hb2.cell (p:=⟨w.heap.size,1,none⟩) (by dsimp only;omega)).trans t1
 have s2:=(hb2.cell (p:=⟨w.heap.size,2,none⟩) (by dsimp only;omega)).trans t2
 have HS:Hid (w2.heap.size=w.heap.size+2):=(by omega:w2.heap.size=w.heap.size+2)
 have hbw2:Below w.heap.size w w2:=hb1.trans (hb2.mono (by omega))
 clear hmay t0 t1 t2 hs1 hs2 hb1 hb2
 go_upto_region 3 with fail
 refine Gen.start (S:=fun w'=>w'.cell? ⟨w.heap.size,0,none⟩=some (.int .i64 tob)/\w'.cell? ⟨w.heap.size,1,none⟩=some (.int .i64 tv)/\w'.cell? ⟨w.heap.size,2,none⟩=some (.int .i64 td)) (by kernel_rfl) ⟨s0,s1,s2⟩ (fun zzg=>?_)
 refine Gen.tk 0 3 ?_ rfl rfl (Or.inl ⟨by rfl,?_⟩) zzg ?_;rotate_left
 ·rintro w' ⟨s0,s1,s2⟩;go_simp;try with_reducible rfl
 go_frame
 refine Gen.tk 1 2 ?_ rfl rfl (Or.inl ⟨by rfl,?_⟩) zzg ?_
 rotate_left
 ·intro w' hSw
  go_simp
  try with_reducible rfl
 go_frame
 refine Gen.one (i:=2) (by kernel_rfl) rfl rfl (fun K hK=>?_)
 have hmk:=zq0 n n1 n4 w2.drew
 go_simp
 have hS2:=HS.out
 have cs:∀ i,i<3->∀ u,w2.cell? ⟨w.heap.size,i,none⟩=some u->(w2.alloc (.cells (zseats n).toArray 90)).drew.cell? ⟨w.heap.size,i,none⟩=some u:=fun i _ u hu=>(World.cell?_alloc_lt w2 _ ⟨w.heap.size,i,none⟩ (by dsimp only;omega)).trans hu
 clear hS2
 refine hK.out _ _ ⟨cs 0 (by omega) _ s0,cs 1 (by omega) _ s1,cs 2 (by omega) _ s2⟩ (fun zzg=>?_)
 clear hK K cs
 try go_frame
 refine Gen.one (i:=3) (by kernel_rfl) rfl rfl (fun K hK=>?_)
 refine zq1 81 #[(0,.tmp 20),(5,.tmp 22)] rfl (wcells Tryz.zeroCells81 tob tv td w2.heap.size n) ?_ ?_
 ·have hbw:=zn7 tob tv td w2.heap.size n
  simpa[Act.eval] using hbw
 refine hK.out _ _ zzg (fun zzg=>?_)
 clear hK K
 try go_frame
 refine Gen.one (i:=4) (by kernel_rfl) rfl rfl (fun K hK=>?_)
 obtain⟨zc,hzc⟩:∃ zc,wcells Tryz.zeroCells81 tob tv td w2.heap.size n=zc:=⟨_,rfl⟩
 have HZ:Hid (wcells Tryz.zeroCells81 tob tv td w2.heap.size n=zc):=hzc
 rw[hzc]
 clear hzc
 go_simp
 obtain⟨G,hG⟩:∃ G,w2.heap.size=G:=⟨_,rfl⟩
 rw[hG] at HZ HS
 rw[hG]
 have hS2:=HS.out
 have HN:Hid (Nb w ((w2.alloc (.cells (zseats n).toArray 90)).alloc (.cells zc 81)).drew (G+1) G n 0 tob tv td (fun _=>0) (fun _=>0)):=by
  have bl:Below w.heap.size w ((w2.alloc (.cells (zseats n).toArray 90)).alloc (.cells zc 81)).drew:=((hbw2.alloc (by omega) _).alloc (by simp;omega) _).drew
  have eG:((w2.alloc (.cells (zseats n).toArray 90)).alloc (.cells zc 81)).drew.heap[G]?=some (.cells (zseats n).toArray 90):=by
   have hbb:=(Below.refl (w2.alloc (.cells (zseats n).toArray 90)).heap.size (w2.alloc (.cells (zseats n).toArray 90))).alloc (Nat.le_refl _) (.cells zc 81)
   have e1:=hbb.block w2.heap.size (by simp)
   rw[heap_alloc_new] at e1
   rw[<- hG]
   exact e1
  have eQ:((w2.alloc (.cells (zseats n).toArray 90)).alloc (.cells zc 81)).drew.heap[G+1]?=some (.cells zc 81):=by
   have e1:=heap_alloc_new (w2.alloc (.cells (zseats n).toArray 90)) (.cells zc 81)
   rw[show (w2.alloc (.cells (zseats n).toArray 90)).heap.size=G+1 by rw[<- hG];simp] at e1
   exact e1
  have cG:∀ i,((w2.alloc (.cells (zseats n).toArray 90)).alloc (.cells zc 81)).drew.cell? ⟨G,i,none⟩=(zseats n)[i]?:=fun i=>by
   rw[cell_of_row _ _ _ _ _ _ eG,List.getElem?_toArray]
  refine⟨bl,by rw[HZ.out];exact eQ,⟨_,_,eG⟩,fun i=>by simp[World.frozen?,eG],fun i hi=>by omega,fun i _ hi=>?_,fun i hi=>by omega,fun i hi=>by omega,fun i j hi=>by omega⟩
  have hz:=zk3 n i hi
  exact⟨(cG _).trans hz.1,(cG _).trans hz.2.1,(cG _).trans hz.2.2.1,(cG _).trans hz.2.2.2⟩
 have HT:Hid (((w2.alloc (.cells (zseats n).toArray 90)).alloc (.cells zc 81)).drew.cell? ⟨w.heap.size,0,none⟩=some (.int .i64 tob)/\((w2.alloc (.cells (zseats n).toArray 90)).alloc (.cells zc 81)).drew.cell? ⟨w.heap.size,1,none⟩=some (.int .i64 tv)/\((w2.alloc (.cells (zseats n).toArray 90)).alloc (.cells zc 81)).drew.cell? ⟨w.heap.size,2,none⟩=some (.int .i64 td)):=by
  have hb4:Below w2.heap.size w2 ((w2.alloc (.cells (zseats n).toArray 90)).alloc (.cells zc 81)).drew:=(((Below.refl w2.heap.size w2).alloc (Nat.le_refl _) _).alloc (by simp) _).drew
  exact⟨(hb4.cell (p:=⟨w.heap.size,0,none⟩) (by dsimp only;omega)).trans s0,(hb4.cell (p:=⟨w.heap.size,1,none⟩) (by dsimp only;omega)).trans s1,(hb4.cell (p:=⟨w.heap.size,2,none⟩) (by dsimp only;omega)).trans s2⟩
 generalize ((w2.alloc (.cells (zseats n).toArray 90)).alloc (.cells zc 81)).drew=w3 at *
 clear hG hS2 hbw2 s0 s1 s2 HZ hmk
 refine hK.out _ _ HT.out (fun zzg=>?_)
 clear hK K HT
 try go_frame
 refine Gen.last (i:=5) (by kernel_rfl) rfl rfl (by kernel_rfl) (by kernel_rfl) (fun K hK=>?_)
 go_simp
 refine hK.out _ _ ?_
 clear hK K zzg
 have sts:w3.cell? ⟨G+1,12409,none⟩=some (.slice (some ⟨G,0,none⟩) n n):=(HN.out.cell 12409).trans (zip ..)
 go_wp2_with fail
 go_loopw [30] (fun i wr=>∃ (k:Nat) (c m:Nat->Nat),k<=n/\i = .int .i64 k/\Nb w wr (G+1) G n k tob tv td c m) (fun i _=>n-(intOf i).toNat)
 case atStart=>exact⟨0,_,_,by omega,rfl,HN.out⟩
 case round=>
  obtain⟨k,c,m,hk,rfl,N⟩:=hrel
  by_cases hlt:k<n
  ·have r:=N.rest k (by omega) hlt
   have hS2:=HS.out
   have hen:=zkt (G+1) G n k tob tv td 0 wr ((N.cell 12409).trans (zip ..)) ((N.cell 0).trans (zm0 ..)) ((N.cell 1).trans (zm1 ..)) ((N.cell 2).trans (zm2 ..)) hlt n4 _ _ _ r.1 r.2.2.1 r.2.2.2 N.gf (by omega) (by omega) (by omega) (by omega) h4 h5 (by omega) (by omega)
   rw[show (0:Int)*4+(k:Int)=k by omega] at hen
   have hkI:(k:Int)<(n:Int):=by omega
   have hkI0:(0:Int)<=(k:Int):=by omega
   have HX:Hid (∀ w2 x q,Below wr.heap.size wr w2->zza w2 x q (K.new k (short td tob) (short td tv))->wr.heap.size<=x->wr.heap.size<=q->∃ c m,Nb w (seated w2 G k x 0) (G+1) G n (k+1) tob tv td c m):=fun w2 x q a1 a2 a3 a4=>⟨_,_,N.more hlt (by omega) (by omega) a1 a2 a3 a4⟩
   clear N r HN sts hS2
   go_wp2_with fail
   refine hen.mono ?_
   rintro e w7 ⟨rfl,x,q,w6,a1,a2,a3,a4,hw7⟩
   have HN7:Hid (∃ c m,Nb w w7 (G+1) G n (k+1) tob tv td c m):=by rw[hw7];exact HX.out w6 x q a1 a2 a3 a4
   clear HX hen a1 a2 hw7
   go_wp2_with fail
   go_roundw
   case rel=>
    obtain⟨c',m',hN7⟩:=HN7.out
    exact⟨k+1,c',m',by omega,by go_num,hN7⟩
   case measure=>simp[intOf];omega
  ·obtain rfl:k=n:=by omega
   have hS2:=HS.out
   have hD:=N.done n1 n4 ⟨0,0,0,0,0⟩
   have hL:=N.low (by omega) (by omega) ⟨0,0,0,0,0⟩
   have hst:=zks ⟨G+1,G,c,m,⟨0,0,0,0,0⟩⟩ (Wd.bare tob tv td k) 0 wr hD rfl (WdB.bare h1 h2 h3 h4 h5) (by simp[Wd.bare]) (fun r hr=>by simp[Wd.bare] at hr)
   have HX:Hid (∀ (a:Ad) w',WdIs w' ⟨G+1,G,c,m,a⟩ (Wd.bare tob tv td k).start->Fz ⟨G+1,G,c,m,⟨0,0,0,0,0⟩⟩ (Wd.bare tob tv td k) wr ⟨G+1,G,c,m,a⟩ (Wd.bare tob tv td k).start w'->Below w.heap.size w w'/\Low w.heap.size w' ⟨G+1,G,c,m,a⟩ (Wd.bare tob tv td k).start):=fun a w' _ b2=>⟨N.bl.trans (b2.below hL hD.lt),hL.step b2 N.bl.size⟩
   clear N HN sts hS2 hD hL
   go_wp2_with fail
   refine hst.mono ?_
   rintro e w7 ⟨rfl,a,d1,d2⟩
   have HF:=HX.out a w7 d1 d2
   clear HX hst d2
   go_wp2_with fail
   exact bodyPost_ret (v:=.tuple #[tp (G+1),.nilIface]) (by simp[results,Tryz.results22,go_sem]) rfl ⟨⟨G+1,G,c,m,a⟩,rfl,d1,HF.1,HF.2⟩
end Wld
end
section
namespace Wld
open Go.RowKit Go.Maps
open Lease (Ob I64 upd TabIs hol dels objB HasI zaj zaw mx)
open Cache (tp zab zac)
open Num (M okB strOf ints)
open Clock (zal)
open Wal (R WalIs zzb Oq Fw rcells)
open Net (NetIs Only pcells)
structure zze(w:World)(T:Nat)(A:Wa)(s:Wd)(wr:Int)(lies:Bool):Prop where
 typ:isC w T 31
 fro:∀ i,w.frozen? ⟨T,i,none⟩=false
 c0:w.cell? ⟨T,0,none⟩=some (tp A.Q)
 c1:w.cell? ⟨T,1,none⟩=some (.int .i64 s.to)
 c2:w.cell? ⟨T,2,none⟩=some (.int .i64 s.tv)
 c3:w.cell? ⟨T,3,none⟩=some (.int .i64 s.td)
 c4:w.cell? ⟨T,4,none⟩=some (.int .i64 s.n)
 c5:w.cell? ⟨T,5,none⟩=some (.int .i64 wr)
 c6:w.cell? ⟨T,6,none⟩=some (.bool lies)
 wd:WdIs w A s
theorem WdIs.apart{w w':World}{A:Wa}{s:Wd}(h:WdIs w A s){T:Nat}(hT:isC w T 31)(hs:w.heap.size<=w'.heap.size)(o:∀ y,y≠T->w'.heap[y]?=w.heap[y]?):WdIs w' A s/\∀ k,wfoot w' A s k->wfoot w A s k:=by
 have hQ:=o A.Q (h.core.typ.ne hT (by decide))
 have eQ:∀ i,w'.cell? ⟨A.Q,i,none⟩=w.cell? ⟨A.Q,i,none⟩:=fun i=>World.cell?_of_block hQ
 have fQ:∀ i,w'.frozen? ⟨A.Q,i,none⟩=w.frozen? ⟨A.Q,i,none⟩:=fun i=>World.frozen?_of_block hQ
 have hG:=o A.G (h.gt.ne hT (by decide))
 have hN:NetIs w' (A.Q+1) A.Q (s.net.map encN):=NetIs.kept h.net hs (eQ _) (eQ _) fQ fun v g hv hg=>by
  obtain⟨v',hv',hr⟩:=h.net.row
  rw[hv] at hv'
  injection hv' with hv'
  subst hv'
  exact o g ((zah hr hg).2.ne hT (by decide))
 have hD:zzb w' A.Q s.rs s.fails s.left:=zzb.cells h.disk (fun i _ _=>eQ i) fQ
 have hfoot:∀ v,s.sv=some v->∀ y,foot w A.a y->y≠A.a.q->w'.heap[y]?=w.heap[y]?:=fun v hv y hy hyq=>o y fun e=>by
  have u:=h.up v hv
  rw[e] at hy hyq
  exact u.sv.notFoot hT hyq (by decide) hy
 refine⟨⟨h.core.cells (h.core.typ.same hQ) (fun i _ _=>eQ i) fQ,hD,hN,h.evs.imp fun v hv=>⟨(eQ _).trans hv.1,zab hv.2 fun g hg=>o g ((zah hv.2 hg).2.ne hT (by decide))⟩,h.gt.same hG,fun i=>(World.frozen?_of_block (a:=⟨A.G,i,none⟩) hG).trans (h.gf i),fun i hi=>(h.seats i hi).same hG,fun i hi=>(h.cli i hi).blocks (o _ ((h.cli i hi).isC.ne hT (by decide))) (o _ ((h.cli i hi).isM.ne hT)),h.ap,fun v hv=>?_,h.n1,h.n4⟩,fun k f=>?_⟩
 ·have u:=h.up v hv
  exact⟨u.sv.feet hs (by rw[u.q,u.rs,u.fails,u.left];exact hD) (hfoot v hv),u.q,u.rs,u.fails,u.left,u.ne,u.to,u.tv⟩
 ·rcases f with f|f|⟨v,f1,f2⟩|⟨i,hi,f⟩|⟨i,hi,f⟩|⟨f1,f2⟩
  ·exact .Q f
  ·exact .G f
  ·exact .ev v ((eQ _).symm.trans f1) f2
  ·exact .c i hi f
  ·exact .m i hi f
  ·obtain⟨v,hv⟩:=Option.isSome_iff_exists.1 f1
   have u:=h.up v hv
   have hl:=u.sv.lts
   exact .sv f1 ((za4 (hfoot v hv _ (.inr (.inr (.inr (.inl rfl)))) (by omega)) (hfoot v hv _ (.inr (.inr (.inl rfl))) (by omega)) k).1 f2)
theorem ztr(o v d:Int)(w:World) :
  Calls Tryz.prog 24 #[.int .i64 o,.int .i64 v,.int .i64 d] w fun e w'=>∃ tob tv td:Int,1<=tv/\tv<=15/\tv<=tob/\tob<=39/\0<=td/\td<=500/\e = .returned (.agg #[.int .i64 tob,.int .i64 tv,.int .i64 td])/\Below w.heap.size w w':=by
 go_enter Tryz.func24,Tryz.ntmps24
 go_wp2_with fail
 refine(zal v 15 _ (by omega) (by omega)).mono ?_
 rintro e w2 ⟨r1,a1,a2,rfl,rfl⟩
 have hw1:IntKind.i64.wrap (1+r1)=1+r1:=wrapI (by omega) (by omega)
 go_wp2_with fail
 refine(zal o 25 _ (by omega) (by omega)).mono ?_
 rintro e w2 ⟨r2,b1,b2,rfl,rfl⟩
 have hw2:IntKind.i64.wrap (1+r1+r2)=1+r1+r2:=wrapI (by omega) (by omega)
 go_wp2_with fail
 refine(zal d 501 _ (by omega) (by omega)).mono ?_
 rintro e w2 ⟨r3,c1,c2,rfl,rfl⟩
 go_wp2_with fail
 refine bodyPost_ret (v:=.agg #[.int .i64 (1+r1+r2),.int .i64 (1+r1),.int .i64 r3]) (by simp[results,Tryz.results24,go_sem]) rfl ⟨1+r1+r2,1+r1,r3,by omega,by omega,by omega,by omega,c1,by omega,rfl,(Below.refl _ _).alloc (Nat.le_refl _) _⟩
theorem zts(o v d c:Int)(lies:Bool)(w:World) :
  Calls Tryz.prog 8 #[.int .i64 o,.int .i64 v,.int .i64 d,.int .i64 c,.bool lies] w fun e w'=>∃ T A tob tv td,∃ n:Nat,1<=tv/\tv<=15/\tv<=tob/\tob<=39/\0<=td/\td<=500/\1<=n/\n<=4/\e = .returned (tp T)/\zze w' T A (Wd.bare tob tv td n).start 0 lies/\w.heap.size<=T/\Below w.heap.size w w'/\Low w.heap.size w' A (Wd.bare tob tv td n).start:=by
 go_enter Tryz.func8,Tryz.ntmps8
 go_wp2_with fail
 refine(ztr o v d _).mono ?_
 rintro e w1 ⟨tob,tv,td,a1,a2,a3,a4,a5,a6,rfl,hb1⟩
 go_wp2_with fail
 refine(zal c 4 _ (by omega) (by omega)).mono ?_
 rintro e w2 ⟨r,b1,b2,rfl,rfl⟩
 obtain⟨n,hn⟩:∃ n:Nat,1+r=(n:Int):=⟨(1+r).toNat,by omega⟩
 have hw1:IntKind.i64.wrap (1+r)=(n:Int):=(wrapI (by omega) (by omega)).trans hn
 have n1:1<=n:=by omega
 have n4:n<=4:=by omega
 clear hn b1 b2
 go_upto_region 2 with fail
 obtain⟨T,hT⟩:∃ T,w2.heap.size=T:=⟨_,rfl⟩
 have hT0:w.heap.size<=T:=by have:=hb1.size;omega
 generalize hW:w2.alloc (.cells #[.pointer none,.int .i64 tob,.int .i64 tv,.int .i64 td,.int .i64 n,.int .i64 0,.bool lies] 31)=w3
 have eT:w3.heap[T]?=some (.cells #[.pointer none,.int .i64 tob,.int .i64 tv,.int .i64 td,.int .i64 n,.int .i64 0,.bool lies] 31):=by rw[<- hW,<- hT];exact heap_alloc_new w2 _
 have hb3:Below w.heap.size w w3:=by rw[<- hW];exact hb1.alloc (by have:=hb1.size;omega) _
 have hlt:T<w3.heap.size:=(Array.getElem?_eq_some_iff.1 eT).1
 rw[hT]
 clear hW hT hb1
 have t1:w3.cell? ⟨T,1,none⟩=some (.int .i64 tob):=cell_of_row _ _ _ _ _ _ eT
 have t2:w3.cell? ⟨T,2,none⟩=some (.int .i64 tv):=cell_of_row _ _ _ _ _ _ eT
 have t3:w3.cell? ⟨T,3,none⟩=some (.int .i64 td):=cell_of_row _ _ _ _ _ _ eT
 have t4:w3.cell? ⟨T,4,none⟩=some (.int .i64 n):=cell_of_row _ _ _ _ _ _ eT
 have hnew:=zm3 tob tv td n w3.drew n1 n4 a1 a3 (by omega) a5 a6
 have hdr:w3.drew.heap.size=w3.heap.size:=rfl
 have hS:∀ w',Below w3.drew.heap.size w3.drew w'->w'.cell? ⟨T,1,none⟩=some (.int .i64 tob)/\w'.cell? ⟨T,2,none⟩=some (.int .i64 tv)/\w'.cell? ⟨T,3,none⟩=some (.int .i64 td)/\w'.cell? ⟨T,4,none⟩=some (.int .i64 n):=fun w' hb=>⟨(hb.cell (p:=⟨T,1,none⟩) hlt).trans t1,(hb.cell (p:=⟨T,2,none⟩) hlt).trans t2,(hb.cell (p:=⟨T,3,none⟩) hlt).trans t3,(hb.cell (p:=⟨T,4,none⟩) hlt).trans t4⟩
 have HE:Hid (w3.heap[T]?=some (.cells #[.pointer none,.int .i64 tob,.int .i64 tv,.int .i64 td,.int .i64 n,.int .i64 0,.bool lies] 31)):=eT
 clear eT
 go_region_held3 (fun w'=>w'.cell? ⟨T,1,none⟩=some (.int .i64 tob)/\w'.cell? ⟨T,2,none⟩=some (.int .i64 tv)/\w'.cell? ⟨T,3,none⟩=some (.int .i64 td)/\w'.cell? ⟨T,4,none⟩=some (.int .i64 n)) (first|exact hS _ (by assumption)|exact hS _ (Below.refl _ _)) (first|(go_at_call 22;refine hnew.mono ?_;rintro e w4 ⟨A,rfl,hD,hb4,hL⟩))
 have eT:=(hb4.block T hlt).trans HE.out
 have hsz:=hb4.size
 have HF:Hid (zze (w4.setCell ⟨T,0,none⟩ (tp A.Q)) T A (Wd.bare tob tv td n).start 0 lies/\Below w.heap.size w (w4.setCell ⟨T,0,none⟩ (tp A.Q))/\Low w.heap.size (w4.setCell ⟨T,0,none⟩ (tp A.Q)) A (Wd.bare tob tv td n).start):=by
  have hTc:isC w4 T 31:=⟨_,_,eT⟩
  have o:∀ y,y≠T->(w4.setCell ⟨T,0,none⟩ (tp A.Q)).heap[y]?=w4.heap[y]?:=fun y hy=>Below.heap_setCell w4 ⟨T,0,none⟩ _ y hy
  obtain⟨k1,k2⟩:=hD.apart hTc (by simp) o
  have c:∀ i,w4.cell? ⟨T,i,none⟩ = #[Value.pointer none,.int .i64 tob,.int .i64 tv,.int .i64 td,.int .i64 n,.int .i64 0,.bool lies][i]?:=fun i=>cell_of_row _ _ _ _ _ _ eT
  have e:∀ i,i≠0->(w4.setCell ⟨T,0,none⟩ (tp A.Q)).cell? ⟨T,i,none⟩=w4.cell? ⟨T,i,none⟩:=fun i hi=>World.cell?_setCell_other _ _ _ _ (by intro q;injection q with _ q;exact hi q.symm)
  have f0:∀ i,w4.frozen? ⟨T,i,none⟩=false:=fun i=>by simp[World.frozen?,eT]
  have hb34:Below w.heap.size w3 w4:=⟨hb4.os,hb4.tape,hb4.output,hb4.size,fun k hk=>hb4.block k (by show k<w3.heap.size;omega)⟩
  refine⟨⟨Wal.zai hTc,fun i=>by rw[World.frozen?_setCell];exact f0 i,World.cell?_setCell_same _ _ _ (c 0),(e 1 (by omega)).trans (c 1),(e 2 (by omega)).trans (c 2),(e 3 (by omega)).trans (c 3),(e 4 (by omega)).trans (c 4),(e 5 (by omega)).trans (c 5),(e 6 (by omega)).trans (c 6),k1⟩,Below.setCell (hb3.trans hb34) (show w.heap.size<=(⟨T,0,none⟩:Addr).block from hT0) _,fun k hk=>?_⟩
  have:=hL k (k2 k hk)
  have hs3:=hb3.size
  show w.heap.size<=k
  have h5:w3.drew.heap.size=w3.heap.size:=rfl
  omega
 have f0:w4.frozen? ⟨T,0,none⟩=false:=by simp[World.frozen?,eT]
 have z0:w4.cell? ⟨T,0,none⟩=some (.pointer none):=cell_of_row _ _ _ _ _ _ eT
 clear hS HE eT hb4 hD hL hnew t1 t2 t3 t4 hsz hlt
 go_wp2_with fail
 go_ret
 exact⟨T,A,tob,tv,td,n,a1,a2,a3,a4,a5,a6,n1,n4,rfl,HF.out.1,hT0,HF.out.2⟩
def GoOk(g td:Int)(lies:Bool)(x:Int):Prop:=0<=x/\x<=40/\(lies=false->g*(1000-td)<=1000*x/\1000*x<=g*(1000+td))
structure Gb(w wr:World)(n:Nat)(g td:Int)(lies:Bool)(v:Value)(l:List Int):Prop where
 bl:Below w.heap.size w wr
 own:HasI wr w.heap.size v l
 len:l.length<=n+1
 ok:∀ x∈l,GoOk g td lies x
theorem zwg{g td:Int}(g0:0<=g)(g1:g<=11)(d0:0<=td)(d1:td<=500):∃ low high:Int,(g*(1000-td)+999).tdiv 1000=low/\(g*(1000+td)).tdiv 1000=high/\0<=low/\low<=high/\high<=16/\g*(1000-td)<=1000*low/\1000*high<=g*(1000+td):=by
 have e1:g*(1000-td)=g*1000-g*td:=Int.mul_sub _ _ _
 have e2:g*(1000+td)=g*1000+g*td:=Int.mul_add _ _ _
 have h1:0<=g*td:=Int.mul_nonneg g0 d0
 have h2:g*td<=g*500:=Int.mul_le_mul_of_nonneg_left d1 g0
 refine⟨_,_,rfl,rfl,?_,?_,?_,?_,?_⟩
 ·rw[Int.tdiv_eq_ediv_of_nonneg (by omega)];omega
 ·rw[Int.tdiv_eq_ediv_of_nonneg (by omega),Int.tdiv_eq_ediv_of_nonneg (by omega)];omega
 ·rw[Int.tdiv_eq_ediv_of_nonneg (by omega)];omega
 ·rw[Int.tdiv_eq_ediv_of_nonneg (by omega)];omega
 ·rw[Int.tdiv_eq_ediv_of_nonneg (by omega)];omega
theorem zk4(T C:Nat)(A:Wa)(s:Wd)(wr0 a b:Int)(lies:Bool)(w:World)(h:zze w T A s wr0 lies)(hB:WdB s C)(hC:C<=10000000000) :
  Calls Tryz.prog 29 #[tp T,.int .i64 a,.int .i64 b] w fun e w'=>e = .returned (.tuple #[])/\∃ g b0 f,0<=g/\g<=11/\GoOk g s.td lies b0/\(∀ k,k<s.n->GoOk g s.td lies (f k))/\WdIs w' A (s.goes b0 f)/\Fz A s w A (s.goes b0 f) w':=by
 have n4:=h.wd.n4
 have c0:=h.c0
 have c3:=h.c3
 have c4:=h.c4
 have c6:=h.c6
 have hTl:=h.typ.lt
 have td0:=hB.td0
 have td1:=hB.td1
 have keep:∀ wr,Below w.heap.size w wr->wr.cell? ⟨T,0,none⟩=some (tp A.Q)/\wr.cell? ⟨T,3,none⟩=some (.int .i64 s.td)/\wr.cell? ⟨T,4,none⟩=some (.int .i64 s.n)/\wr.cell? ⟨T,6,none⟩=some (.bool lies):=fun wr hb=>⟨(hb.cell (p:=⟨T,0,none⟩) hTl).trans c0,(hb.cell (p:=⟨T,3,none⟩) hTl).trans c3,(hb.cell (p:=⟨T,4,none⟩) hTl).trans c4,(hb.cell (p:=⟨T,6,none⟩) hTl).trans c6⟩
 have HW:Hid (WdIs w A s/\WdB s C):=⟨h.wd,hB⟩
 clear h hB
 obtain⟨n,hn⟩:∃ n,s.n=n:=⟨_,rfl⟩
 obtain⟨td,htd⟩:∃ td,s.td=td:=⟨_,rfl⟩
 rw[hn] at n4 c4
 rw[htd] at td0 td1 c3
 simp only[hn,htd] at keep
 simp only[hn,htd]
 have HE:Hid (s.n=n/\s.td=td):=⟨hn,htd⟩
 clear hn htd
 go_enter Tryz.func29,Tryz.ntmps29
 go_wp2_with fail
 refine(zal a 12 _ (by omega) (by omega)).mono ?_
 rintro e w1 ⟨g,g0,g1,rfl,rfl⟩
 obtain⟨low,high,hlow,hhigh,l0,l1,l2,l3,l4⟩:=zwg (g:=g) (td:=td) g0 (by omega) td0 td1
 have e1:g*(1000-td)=g*1000-g*td:=Int.mul_sub _ _ _
 have e2:g*(1000+td)=g*1000+g*td:=Int.mul_add _ _ _
 have q1:0<=g*td:=Int.mul_nonneg g0 td0
 have q2:g*td<=g*500:=Int.mul_le_mul_of_nonneg_left td1 g0
 have hw1:IntKind.i64.wrap (1000-td)=1000-td:=wrapI (by omega) (by omega)
 have hw2:IntKind.i64.wrap (g*(1000-td))=g*(1000-td):=wrapI (by omega) (by omega)
 have hw3:IntKind.i64.wrap (g*(1000-td)+999)=g*(1000-td)+999:=wrapI (by omega) (by omega)
 have hw4:IntKind.i64.wrap low=low:=wrapI (by omega) (by omega)
 have hw5:IntKind.i64.wrap (1000+td)=1000+td:=wrapI (by omega) (by omega)
 have hw6:IntKind.i64.wrap (g*(1000+td))=g*(1000+td):=wrapI (by omega) (by omega)
 have hw7:IntKind.i64.wrap high=high:=wrapI (by omega) (by omega)
 clear e1 e2 q1 q2
 have HL:Hid (g*(1000-td)<=1000*low/\1000*high<=g*(1000+td)):=⟨l3,l4⟩
 clear l3 l4 c0 c3 c4 c6
 have HG:Hid (Gb w1 w1 n g td lies (.slice none 0 0) []):=⟨Below.refl _ _,⟨rfl,.inl ⟨rfl,rfl⟩⟩,by simp,by simp⟩
 go_wp2_with fail
 go_loopw [2,7,8] (fun b v i wr=>∃ (bb:Int) (k:Nat) (l:List Int),b = .int .i64 bb/\i = .int .i64 k/\k<=n+1/\l.length=k/\Gb w1 wr n g td lies v l) (fun _ _ i _=>n+1-(intOf i).toNat)
 case atStart=>exact⟨b,0,[],rfl,rfl,by omega,rfl,HG.out⟩
 case round=>
  obtain⟨bb,k,l,rfl,rfl,hk,rfl,G⟩:=hrel
  obtain⟨k0,k3,k4,k6⟩:=keep wr G.bl
  by_cases hlt:l.length<=n
  ·have hkI:(l.length:Int)<=(n:Int):=by omega
   obtain⟨av,cv,rfl,hcv⟩:=G.own.shape
   have HGk:Hid (Gb w1 wr n g td lies (.slice av l.length cv) l):=G
   have hsz:=G.bl.size
   obtain⟨i0,hi,hz0',hz1,hz2⟩:=info_parts Lease.zig
   clear G HG
   go_upto_region 5 with fail
   go_quiet (fail)
   cases lies
   ·have hwc:IntKind.i64.wrap (high-low)=high-low:=wrapI (by omega) (by omega)
    have hwd:IntKind.i64.wrap (high-low+1)=high-low+1:=wrapI (by omega) (by omega)
    go_wp2_with fail
    have HG2:Hid (Gb w1 (wr.drewN nq) n g td false (.slice av l.length cv) l):=⟨⟨HGk.out.bl.os,HGk.out.bl.tape,HGk.out.bl.output,HGk.out.bl.size,HGk.out.bl.block⟩,zac HGk.out.own (w':=wr.drewN nq) ⟨rfl,rfl,rfl,Nat.le_refl _,fun _ _=>rfl⟩,HGk.out.len,HGk.out.ok⟩
    clear HGk k0 k3 k4 k6
    generalize wr.drewN nq=w2 at *
    refine(zal bb 1073741824 _ (by omega) (by omega)).mono ?_
    rintro e w3 ⟨r1,p1,p2,rfl,rfl⟩
    have hwa:IntKind.i64.wrap (r1*31)=r1*31:=wrapI (by omega) (by omega)
    have hwb:IntKind.i64.wrap (r1*31+7)=r1*31+7:=wrapI (by omega) (by omega)
    go_wp2_with fail
    refine(zal _ _ _ (by omega) (by omega)).mono ?_
    rintro e w3 ⟨r2,p3,p4,rfl,rfl⟩
    obtain⟨x,hx⟩:∃ x,low+r2=x:=⟨_,rfl⟩
    have hwe:IntKind.i64.wrap (low+r2)=x:=(wrapI (by omega) (by omega)).trans hx
    have HX:Hid (GoOk g td false x):=⟨by omega,by omega,fun _=>⟨by have:=HL.out;omega,by have:=HL.out;omega⟩⟩
    clear hx
    have hsz2:=HG2.out.bl.size
    have hll:=HG2.out.len
    go_wp2_with (at_builtin;refine App.za2 rfl _ _ 26 rfl w1.heap.size 3 i0 (.int .i64 0) 1 8 Tryz.underlying26 hi hz0' hz1 hz2 rfl (by decide) _ _ _ rfl (Lease.HasI.alloc HG2.out.own _) ⟨_,0,none⟩ 1 1 [.int .i64 x] rfl rfl (Lease.zfk _ _ _) (Lease.zeb _ _) ?c3 ?c4 ?c5 ?_)
    case c3=>unfold maxLen;omega
    case c4=>omega
    case c5=>simp;omega
    intro v' w4 hown' hgrow _
    have HG3:Hid (Gb w1 w4 n g td false v' (l++[x])):=by
     have q:=HG2.out
     have ba:Below w1.heap.size w1 (w3.alloc (.cells #[.int .i64 x] 3)):=q.bl.alloc (by omega) _
     refine⟨⟨hgrow.os.trans ba.os,hgrow.tape.trans ba.tape,hgrow.output.trans ba.output,by have:=hgrow.size;have:=ba.size;omega,fun y hy=>?_⟩,?_,by simp;omega,fun y hy=>?_⟩
     ·rw[hgrow.block y (by have:=ba.size;omega) (fun e=>by
       have:=(World.ownsRow.lt q.own y e.symm).1
       omega)]
      exact ba.block y hy
     ·unfold Lease.HasI
      rw[List.length_append,List.map_append]
      exact hown'
     ·rcases List.mem_append.1 hy with z|z
      ·exact q.ok y z
      ·rw[List.mem_singleton.1 z];exact HX.out
    clear HG2 hown' hgrow HX
    go_wp2_with fail
    go_roundw
    case rel=>exact⟨_,l.length+1,l++[x],rfl,by go_num,by omega,by simp,HG3.out⟩
    case measure=>simp[intOf];omega
   ·go_wp2_with fail
    have HG2:Hid (Gb w1 (wr.drewN nq) n g td true (.slice av l.length cv) l):=⟨⟨HGk.out.bl.os,HGk.out.bl.tape,HGk.out.bl.output,HGk.out.bl.size,HGk.out.bl.block⟩,zac HGk.out.own (w':=wr.drewN nq) ⟨rfl,rfl,rfl,Nat.le_refl _,fun _ _=>rfl⟩,HGk.out.len,HGk.out.ok⟩
    clear HGk k0 k3 k4 k6
    generalize wr.drewN nq=w2 at *
    refine(zal bb 1073741824 _ (by omega) (by omega)).mono ?_
    rintro e w3 ⟨r1,p1,p2,rfl,rfl⟩
    have hwa:IntKind.i64.wrap (r1*31)=r1*31:=wrapI (by omega) (by omega)
    have hwb:IntKind.i64.wrap (r1*31+7)=r1*31+7:=wrapI (by omega) (by omega)
    go_wp2_with fail
    refine(zal _ _ _ (by omega) (by omega)).mono ?_
    rintro e w3 ⟨r2,p3,p4,rfl,rfl⟩
    obtain⟨x,hx⟩:∃ x,r2=x:=⟨_,rfl⟩
    have hwe:IntKind.i64.wrap r2=r2:=wrapI (by omega) (by omega)
    have HX:Hid (GoOk g td true x):=⟨by omega,by omega,fun q=>absurd q (by decide)⟩
    subst hx
    have hsz2:=HG2.out.bl.size
    have hll:=HG2.out.len
    go_wp2_with (at_builtin;refine App.za2 rfl _ _ 26 rfl w1.heap.size 3 i0 (.int .i64 0) 1 8 Tryz.underlying26 hi hz0' hz1 hz2 rfl (by decide) _ _ _ rfl (Lease.HasI.alloc HG2.out.own _) ⟨_,0,none⟩ 1 1 [.int .i64 r2] rfl rfl (Lease.zfk _ _ _) (Lease.zeb _ _) ?c3 ?c4 ?c5 ?_)
    case c3=>unfold maxLen;omega
    case c4=>omega
    case c5=>simp;omega
    intro v' w4 hown' hgrow _
    have HG3:Hid (Gb w1 w4 n g td true v' (l++[r2])):=by
     have q:=HG2.out
     have ba:Below w1.heap.size w1 (w3.alloc (.cells #[.int .i64 r2] 3)):=q.bl.alloc (by omega) _
     refine⟨⟨hgrow.os.trans ba.os,hgrow.tape.trans ba.tape,hgrow.output.trans ba.output,by have:=hgrow.size;have:=ba.size;omega,fun y hy=>?_⟩,?_,by simp;omega,fun y hy=>?_⟩
     ·rw[hgrow.block y (by have:=ba.size;omega) (fun e=>by
       have:=(World.ownsRow.lt q.own y e.symm).1
       omega)]
      exact ba.block y hy
     ·unfold Lease.HasI
      rw[List.length_append,List.map_append]
      exact hown'
     ·rcases List.mem_append.1 hy with z|z
      ·exact q.ok y z
      ·rw[List.mem_singleton.1 z];exact HX.out
    clear HG2 hown' hgrow HX
    go_wp2_with fail
    go_roundw
    case rel=>exact⟨_,l.length+1,l++[r2],rfl,by go_num,by omega,by simp,HG3.out⟩
    case measure=>simp[intOf];omega
  ·have hlen:l.length=n+1:=by omega
   obtain⟨hW,hBB⟩:=HW.out
   obtain⟨hx1,hx2⟩:=HE.out
   obtain⟨y1,y2⟩:=hW.below G.bl
   have hgo:=zkw A s C w1.heap.size u7 l wr y1 hBB hC G.own (by rw[hx1];omega) (fun x hx=>by have:=G.ok x hx;unfold GoOk at this;omega) (l.getD 0 0) rfl (fun k=>l.getD (1+k) 0) (fun _=>rfl)
   have hget:∀ i,i<n+1->GoOk g td lies (l.getD i 0):=fun i hi=>by
    rw[List.getD_eq_getElem?_getD,List.getElem?_eq_getElem (by omega)]
    exact G.ok _ (List.getElem_mem _)
   have HR:Hid (∀ w',WdIs w' A (s.goes (l.getD 0 0) fun k=>l.getD (1+k) 0)->Fz A s wr A (s.goes (l.getD 0 0) fun k=>l.getD (1+k) 0) w'->∃ g b0 f,0<=g/\g<=11/\GoOk g td lies b0/\(∀ k,k<n->GoOk g td lies (f k))/\WdIs w' A (s.goes b0 f)/\Fz A s w1 A (s.goes b0 f) w'):=fun w' a1 a2=>⟨g,_,_,g0,by omega,hget 0 (by omega),fun k hk=>hget (1+k) (by omega),a1,y2.trans a2⟩
   have hgt:¬ (l.length:Int)<=(n:Int):=by omega
   obtain⟨av,cv,rfl,hcv⟩:=G.own.shape
   clear HW HE hW hBB y1 y2 G HG hget hlen hx1 hx2
   go_wp2_with fail
   refine hgo.mono ?_
   rintro e w2 ⟨rfl,a1,a2⟩
   have HF:=HR.out w2 a1 a2
   clear HR hgo a1 a2
   go_wp2_with fail
   go_end0
   exact⟨rfl,HF⟩
end Wld
end
end Go.Proofs.YtbebfliimjjohabGreatDoor
