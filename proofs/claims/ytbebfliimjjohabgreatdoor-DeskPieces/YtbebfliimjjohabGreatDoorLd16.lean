/- Parts of the proof. -/
import Derived.Test.YtbebfliimjjohabGreatDoorLd15
import Derived.Deep.RegionLaw
import Derived.Test.YtbebfliimjjohabGreatDoorLd14
set_option maxRecDepth 100000
set_option maxHeartbeats 8000000
namespace Go.Proofs.YtbebfliimjjohabGreatDoor
section
namespace Wld
open Go.RowKit
open Num (M)
theorem delM_news{w:World}{B g c k m:Nat}{ps:List M}(_hm:ps.length=k+m+1)(hrow:w.ownsRow B 129 9 (.slice (some ⟨g,0,none⟩) ps.length c) ps.length (mcells ps)) :
  ∀ j u,((mcells ps).drop ((k+1)*9))[j]?=some u→w.drew.cell? ((⟨g,(k+1)*9,none⟩:Addr).add j)=some u:=by
 intro j u hj
 rw[List.getElem?_drop] at hj
 have hlt:=(List.getElem?_eq_some_iff.1 hj).1
 rw[mcells_length] at hlt
 rw[Net.add_off]
 show w.cell? ⟨g,(k+1)*9+j,none⟩=some u
 rw[hrow.cellAt _ (by omega)]
 exact hj
theorem delM_spare{w:World}{B g c k m:Nat}{ps:List M}(hm:ps.length=k+m+1)(hrow:w.ownsRow B 129 9 (.slice (some ⟨g,0,none⟩) ps.length c) ps.length (mcells ps)) :
  ∀ j,j<m*9→(w.drew.cell? ⟨g,0+k*9+j,none⟩).isSome=true∧w.drew.frozen? ⟨g,0+k*9+j,none⟩=false:=by
 intro j hj
 refine⟨?_,hrow.frozenAt _⟩
 show (w.cell? ⟨g,0+k*9+j,none⟩).isSome=true
 rw[hrow.cellAt _ (by omega),List.getElem?_eq_getElem (by rw[mcells_length];omega)]
 rfl
theorem delM_there{w:World}{B g c k m:Nat}{ps:List M}{news:List Value}(hm:ps.length=k+m+1)(hrow:w.ownsRow B 129 9 (.slice (some ⟨g,0,none⟩) ps.length c) ps.length (mcells ps)) :
  ∀ j,j<9→((w.drew.setCells g (k*9) news).cell? ⟨g,(k+m)*9+j,none⟩).isSome=true:=by
 intro j hj
 refine Net.setCells_some _ _ _ _ ?_
 show (w.cell? ⟨g,(k+m)*9+j,none⟩).isSome=true
 rw[hrow.cellAt _ (by omega),List.getElem?_eq_getElem (by rw[mcells_length];omega)]
 rfl
def zeroW:M:=⟨0,0,0,0,0,0,0,false,⟨#[]⟩⟩
theorem clearM_one(W:World)(g o c:Nat)(hc:∀ j,j<9→(W.cell? ⟨g,o+j,none⟩).isSome=true)(hf:∀ j,j<9→W.frozen? ⟨g,o+j,none⟩=false) :
  (Builtin.clear_ #[141] 0 #[.slice (some ⟨g,o,none⟩) 1 c]).run Tryz.prog W = .ok (.tuple #[]) (W.setCells g o (mcell zeroW)):=by
 have hst:=run_storeCells_cells (P:=Tryz.prog) g o (mcell zeroW) 0 W (by simpa[mcell] using hc) (by simpa[mcell] using hf) (mcell_one _)
 simp only[Nat.add_zero] at hst
 have hz:(Builtin.zeroCells #[Value.int .i64 0,Value.int .i64 0,Value.int .i64 0,Value.int .i64 0,Value.int .i64 0,Value.int .i64 0,Value.int .i64 0,Value.bool false,Value.string ⟨#[]⟩] 1).toList=mcell zeroW:=by kernel_rfl
 simp[Builtin.clear_,run_underlying Tryz.underlying141,Value.cells,hz,hst]
theorem mcells_append(a b:List M):mcells (a++b)=mcells a++mcells b:=by simp[mcells]
theorem mcells_erase:∀ (ps:List M) (k:Nat),k<ps.length→mcells (ps.eraseIdx k)=(mcells ps).take (k*9)++(mcells ps).drop ((k+1)*9)
 | p :: ps,0,_=>by
  rw[List.eraseIdx_cons_zero,mcells_cons,Nat.zero_mul,List.take_zero,List.nil_append,List.drop_left' (by rw[mcell_length])]
 | p :: ps,k+1,h=>by
  have ih:=mcells_erase ps k (by simpa using h)
  have e1:List.take ((k+1)*9) (mcell p++mcells ps)=mcell p++List.take (k*9) (mcells ps):=by
   rw[List.take_append,List.take_of_length_le (l:=mcell p) (by rw[mcell_length];omega),mcell_length,show (k+1)*9-9=k*9 by omega]
  have e2:List.drop ((k+1+1)*9) (mcell p++mcells ps)=List.drop ((k+1)*9) (mcells ps):=by
   rw[List.drop_append,List.drop_of_length_le (l:=mcell p) (by rw[mcell_length];omega),mcell_length,List.nil_append,show (k+1+1)*9-9=(k+1)*9 by omega]
  rw[List.eraseIdx_cons_succ,mcells_cons,mcells_cons,ih,e1,e2,List.append_assoc]
theorem delM_fin{w:World}{B g c k m:Nat}{ps:List M}{news:List Value}{zs:List Value}(hzs:zs.length=9)(hm:ps.length=k+m+1)(hk:k<ps.length)(hrow:w.ownsRow B 129 9 (.slice (some ⟨g,0,none⟩) ps.length c) ps.length (mcells ps))(hnw:(mcells ps).drop ((k+1)*9)=news)(hnl:news.length=m*9) :
  ((w.drew.setCells g (k*9) news).setCells g ((k+m)*9) zs).ownsRow B 129 9 (.slice (some ⟨g,0,none⟩) (k+m) c) (k+m) (mcells (ps.eraseIdx k))∧w.grownBy ((w.drew.setCells g (k*9) news).setCells g ((k+m)*9) zs) (some g):=by
 refine⟨?_,Net.grown_setCells _ _ _ _ (Net.grown_setCells _ _ _ _ ⟨rfl,rfl,rfl,Nat.le_refl _,fun _ _ _=>rfl⟩)⟩
 have hlen:(mcells ps).length=(k+m+1)*9:=by rw[mcells_length,hm]
 have hel:(mcells (ps.eraseIdx k)).length=(k+m)*9:=by rw[mcells_length,List.length_eraseIdx_of_lt hk];omega
 refine⟨hel,.inr ?_⟩
 rcases hrow.2 with ⟨h,_⟩|⟨g',cap,cur,he,hB,hh,hn,hcm,hcs,htake⟩
 ·cases h
 ·injection he with e1 e2 e3
  injection e1 with e1
  injection e1 with e1
  subst e1 e3
  rw[hm] at hn htake
  obtain⟨c1,h1,s1,g1⟩:=Net.heap_setCells news (k*9) w.drew cur hh (by rw[hnl,hcs];omega)
  obtain⟨c2,h2,s2,g2⟩:=Net.heap_setCells zs ((k+m)*9) _ c1 h1 (by rw[s1,hcs,hzs];omega)
  refine⟨g,c,c2,rfl,hB,h2,by omega,hcm,by rw[s2,s1,hcs],?_⟩
  rw[mcells_erase ps k hk]
  apply List.ext_getElem?
  intro i
  rw[List.getElem?_take]
  by_cases hi:i<(k+m)*9
  ·rw[if_pos hi,Array.getElem?_toList,g2 i,if_neg (by rw[hzs];omega),g1 i]
   have hcur:∀ j,j<(k+m+1)*9→cur[j]?=(mcells ps)[j]?:=fun j hj=>by
    rw[← htake,List.getElem?_take,if_pos hj,Array.getElem?_toList]
   by_cases hi2:i<k*9
   ·rw[if_neg (by omega),hcur i (by omega),List.getElem?_append_left (by rw[List.length_take];omega),List.getElem?_take,if_pos hi2]
   ·rw[if_pos (by omega),List.getElem?_append_right (by rw[List.length_take];omega),List.length_take,← hnw,show min (k*9) (mcells ps).length=k*9 by omega]
  ·rw[if_neg hi,List.getElem?_eq_none]
   rw[List.length_append,List.length_take,List.length_drop]
   omega
theorem delM_any(B g c:Nat)(ps:List M)(k:Nat)(w:World)(hk:k<ps.length)(hl:ps.length≤200)(hnc:ps.length≤c)(hcm:c≤9223372036854775807)(hrow:w.ownsRow B 129 9 (.slice (some ⟨g,0,none⟩) ps.length c) ps.length (mcells ps)) :
  Calls Tryz.prog 197 #[.slice (some ⟨g,0,none⟩) ps.length c,.int .i64 k,.int .i64 ((k:Int)+1)] w fun e w'=>e = .returned (.slice (some ⟨g,0,none⟩) (ps.length-1) c)∧w'.ownsRow B 129 9 (.slice (some ⟨g,0,none⟩) (ps.length-1) c) (ps.length-1) (mcells (ps.eraseIdx k))∧w.grownBy w' (some g):=by
 obtain⟨i0,hi,hz0,hz1,hz2⟩:=info_parts info_msg
 obtain⟨m,hm⟩:∃ m,ps.length=k+m+1:=⟨ps.length-(k+1),by omega⟩
 have hnews:=delM_news hm hrow
 have hspare:=delM_spare hm hrow
 obtain⟨news,hnw⟩:∃ news,(mcells ps).drop ((k+1)*9)=news:=⟨_,rfl⟩
 have hnl:news.length=m*9:=by rw[← hnw,List.length_drop,mcells_length,hm];omega
 have hn1:∀ u∈news,u.oneCell'=true:=fun u hu=>mcells_one ps u (by rw[← hnw] at hu;exact List.mem_of_mem_drop hu)
 have hfin:=delM_fin (zs:=mcell zeroW) (mcell_length _) hm hk hrow hnw hnl
 have hclr:=clearM_one (w.drew.setCells g (k*9) news) g ((k+m)*9) (c-(k+m)) (delM_there hm hrow) (fun j _=>by rw[World.frozen?_setCells];exact hrow.frozenAt _)
 rw[hnw] at hnews
 rw[hm] at hnc hl ⊢
 have hne:((k:Int) == (k:Int)+1)=false:=by simp;omega
 have hkc:k≤c:=by omega
 have hp0:(0:Int)≤(k:Int)+1:=by omega
 have hp1:(k:Int)+1≤(k:Int)+(m:Int)+1:=by omega
 have hp2:((k:Int)+1).toNat=k+1:=by omega
 have HNE:Hid (∀ j u,news[j]?=some u→w.drew.cell? ((⟨g,(k+1)*9,none⟩:Addr).add j)=some u):=hnews
 have HSP:Hid (∀ j,j<m*9→(w.drew.cell? ⟨g,0+k*9+j,none⟩).isSome=true∧w.drew.frozen? ⟨g,0+k*9+j,none⟩=false):=hspare
 have HNL:Hid (news.length=m*9):=hnl
 have HN1:Hid (∀ u∈news,u.oneCell'=true):=hn1
 have HF:Hid (((w.drew.setCells g (k*9) news).setCells g ((k+m)*9) (mcell zeroW)).ownsRow B 129 9 (.slice (some ⟨g,0,none⟩) (k+m) c) (k+m) (mcells (ps.eraseIdx k))∧w.grownBy ((w.drew.setCells g (k*9) news).setCells g ((k+m)*9) (mcell zeroW)) (some g)):=hfin
 clear hnews hspare hnl hn1 hfin hrow hnw hm
 by_cases hc1:c=k+1
 ·obtain rfl:m=0:=by omega
  have hnil:news = []:=List.eq_nil_of_length_eq_zero (by have:=HNL.out;omega)
  subst hnil
  subst hc1
  rw[show k+1-(k+0)=1 by omega,Nat.add_zero] at hclr
  have hii:(k:Int)≤(k:Int)+1:=by omega
  go_enter Tryz.func197,Tryz.ntmps197
  go_wp2_with fail
  go_region_law (refine step_append_room rfl (.tmp 22) (.tmp 25) 141 rfl 129 i0 9 Tryz.underlying141 hi hz1 g 0 k (k+1) (by simp[Act.eval,Act.put]) ⟨g,0,none⟩ 0 0 [] (by simp[Act.eval,Act.put]) rfl (fun j u hj=>by simp at hj) (fun u hu=>by simp at hu) (by omega) (fun j hj=>by simp at hj) ?_)
  all_goals go_wp2_with fail
  all_goals go_ret
  exact⟨rfl,HF.out⟩
 ·go_enter Tryz.func197,Tryz.ntmps197
  go_wp2_with fail
  go_region_law (refine step_append_room rfl (.tmp 22) (.tmp 25) 141 rfl 129 i0 9 Tryz.underlying141 hi hz1 g 0 k c (by simp[Act.eval,Act.put]) ⟨g,(k+1)*9,none⟩ m (c-(k+1)) news (by simp[Act.eval,Act.put]) HNL.out HNE.out HN1.out (by omega) (fun j hj=>HSP.out j (by rw[← HNL.out];exact hj)) ?_)
  all_goals go_wp2_with fail
  all_goals go_ret
  exact⟨rfl,HF.out⟩
end Wld
end
section
namespace Wld
open Go.RowKit Go.Maps
open Lease (Ob I64 upd upd_same upd_other mx TabIs hol dels objB)
open Cache (tp row_kept row_below)
open Wal (R WalIs DiskIs Oq Fw rcells Bx)
open Num (M)
def Sv.applied(s:Sv)(r:R):Sv:=
 if r.o<0 then { s with epoch:=r.e } else
 if later r.c r.n (s.last (seatN r.c))=true then { s with vd:=updN s.vd r.o.toNat r.d,vv:=updN s.vv r.o.toNat r.v,last:=updN s.last (seatN r.c) r }
 else { s with vd:=updN s.vd r.o.toNat r.d,vv:=updN s.vv r.o.toNat r.v }
theorem SvIs.lastCells{w:World}{a:Ad}{s:Sv}(h:SvIs w a s){i:Nat}(hi:i<4):w.cell? ⟨a.S,23+i*6,none⟩=some (.int .i64 (s.last i).c)∧w.cell? ⟨a.S,23+i*6+1,none⟩=some (.int .i64 (s.last i).n)∧w.cell? ⟨a.S,23+i*6+2,none⟩=some (.int .i64 (s.last i).o)∧w.cell? ⟨a.S,23+i*6+3,none⟩=some (.int .i64 (s.last i).v)∧w.cell? ⟨a.S,23+i*6+4,none⟩=some (.string (s.last i).d)∧w.cell? ⟨a.S,23+i*6+5,none⟩=some (.int .i64 (s.last i).e):=
 ⟨h.la i hi 0 _ rfl,h.la i hi 1 _ rfl,h.la i hi 2 _ rfl,h.la i hi 3 _ rfl,h.la i hi 4 _ rfl,h.la i hi 5 _ rfl⟩
theorem info_record6:(Tryz.prog.info? 138).map (·.size)=some 6:=by kernel_rfl
theorem apply_epoch(a:Ad)(s:Sv)(r:R)(w:World)(h:SvIs w a s)(ho:r.o<0) :
  Calls Tryz.prog 175 #[tp a.S,r.agg] w fun e w'=>e = .returned (.tuple #[])∧SvIs w' a { s with epoch:=r.e }∧Fs a w w':=by
 have F:∀ o,SvIs _ a { s with epoch:=r.e }:=fun o=>(h.set5 r.e).alloc o
 have hF:∀ o,Fs a w ((w.setCell ⟨a.S,5,none⟩ (.int .i64 r.e)).alloc o):=fun o=>((Fs.refl _ _).setS h (by omega)).alloc (h.set5 r.e) o
 have c5:=h.c5
 have hf:=h.free
 have hlt:=h.lt
 have hne:a.S≠w.heap.size:=by omega
 unfold Wal.R.agg
 clear h
 go_enter Tryz.func175,Tryz.ntmps175
 go_wp2_with fail
 exact bodyPost_ret (v:=.tuple #[]) (by simp[results,Tryz.results175]) rfl ⟨rfl,F _,hF _⟩
theorem apply_write(a:Ad)(s:Sv)(rc rn rv re:Int)(o:Nat)(rd:ByteArray)(w:World)(h:SvIs w a s)(hc:0≤rc)(ho:o<8)(s':Sv)(hs':Hid ((⟨s.to,s.tv,s.td,s.torn,s.epoch,s.ready,updN s.vd o rd,updN s.vv o rv,if later rc rn (s.last (seatN rc))=true then updN s.last (seatN rc) ⟨rc,rn,o,rv,rd,re⟩ else s.last,s.D,s.vol,s.ses,s.n,s.waits,s.rs,s.down,s.fails,s.left⟩:Sv)=s')) :
  Calls Tryz.prog 175 #[tp a.S,Wal.R.agg ⟨rc,rn,o,rv,rd,re⟩] w fun e w'=>e = .returned (.tuple #[])∧SvIs w' a s'∧Fs a w w':=by
 have hlt:=h.lt
 have hne:a.S≠w.heap.size:=by omega
 have hB:=Bx.made w ⟨rc,rn,o,rv,rd,re⟩ 138
 have F:=h.alloc (.cells #[.int .i64 rc,.int .i64 rn,.int .i64 o,.int .i64 rv,.string rd,.int .i64 re] 138)
 have hF:Fs a w (w.alloc (.cells #[.int .i64 rc,.int .i64 rn,.int .i64 o,.int .i64 rv,.string rd,.int .i64 re] 138)):=(Fs.refl _ _).alloc h _
 have hsz:w.heap.size<(w.alloc (.cells #[.int .i64 rc,.int .i64 rn,.int .i64 o,.int .i64 rv,.string rd,.int .i64 re] 138)).heap.size:=by simp
 have ho0:(0:Int)≤(o:Int):=by omega
 have ho8:(o:Int)<8:=by omega
 have hon:¬ (o:Int)<0:=by omega
 unfold Wal.R.agg
 dsimp only at hB ⊢
 clear h
 go_enter Tryz.func175,Tryz.ntmps175
 go_wp2_with fail
 generalize w.alloc (.cells #[.int .i64 rc,.int .i64 rn,.int .i64 o,.int .i64 rv,.string rd,.int .i64 re] 138)=w1 at *
 obtain⟨b0,b1,b2,b3,b4,b5⟩:=hB
 dsimp only at b0 b1 b2 b3 b4 b5
 have F2:=F.drew.setVal ho rd rv
 have hF2:=hF.drew.setsS F.drew (7+o*2) [.string rd,.int .i64 rv] (by simp;omega)
 have hcell:∀ j,(w1.drew.setCells a.S (7+o*2) [.string rd,.int .i64 rv]).cell? ⟨w.heap.size,j,none⟩=w1.cell? ⟨w.heap.size,j,none⟩:=fun j=>by
  simp only[World.setCells]
  rw[World.cell?_setCell_other _ _ _ _ (by intro e;injection e with e;omega),World.cell?_setCell_other _ _ _ _ (by intro e;injection e with e;omega)]
  rfl
 have g0:=(hcell 0).trans b0
 have g1:=(hcell 1).trans b1
 have g2:=(hcell 2).trans b2
 have g3:=(hcell 3).trans b3
 have g4:=(hcell 4).trans b4
 have g5:=(hcell 5).trans b5
 have hsz2:(w1.drew.setCells a.S (7+o*2) [.string rd,.int .i64 rv]).heap.size=w1.heap.size:=sizes _ _ _
 have dd:=F.vd o ho
 have dv:=F.vv o ho
 have hf:=F.free
 go_still_tail 11,(by kernel_rfl)
 go_wp2_with fail
 change Code.wp _ _ _ _ (w1.drew.setCells a.S (7+o*2) [.string rd,.int .i64 rv])
 clear b0 b1 b2 b3 b4 b5 dd dv hf F hF hcell
 generalize w1.drew.setCells a.S (7+o*2) [.string rd,.int .i64 rv]=w2 at *
 have hs:=fun w=>(seat_any rc w hc).mono (R':=fun e w'=>e = .returned (.int .i64 (seatN rc:Nat))∧∃ n,w'=w.drewN n) (fun e w' h=>⟨h.1,0,h.2⟩)
 have hsl:=seatN_lt rc
 obtain⟨sn,hsn⟩:∃ sn,seatN rc=sn:=⟨_,rfl⟩
 rw[hsn] at hs hsl hs'
 clear hsn
 have hs0:(0:Int)≤(sn:Int):=by omega
 have hs4:(sn:Int)<4:=by omega
 go_quiet (first|(go_at_call 137;refine Calls.quiet_of (hs _)))
 go_wp2_with fail
 generalize hW:w2.drewN _=W
 have F3:SvIs W a { s with vd:=updN s.vd o rd,vv:=updN s.vv o rv }:=by rw[← hW];exact F2.drewN _
 have hF3:Fs a w W:=by rw[← hW];exact hF2.drewN _
 have g0:W.cell? ⟨w.heap.size,0,none⟩=some (.int .i64 rc):=by rw[← hW];exact g0
 have g1:W.cell? ⟨w.heap.size,1,none⟩=some (.int .i64 rn):=by rw[← hW];exact g1
 have g2:W.cell? ⟨w.heap.size,2,none⟩=some (.int .i64 o):=by rw[← hW];exact g2
 have g3:W.cell? ⟨w.heap.size,3,none⟩=some (.int .i64 rv):=by rw[← hW];exact g3
 have g4:W.cell? ⟨w.heap.size,4,none⟩=some (.string rd):=by rw[← hW];exact g4
 have g5:W.cell? ⟨w.heap.size,5,none⟩=some (.int .i64 re):=by rw[← hW];exact g5
 have hszW:w.heap.size<W.heap.size:=by rw[← hW];show _<w2.heap.size;omega
 clear hW F2 hF2 hs
 obtain⟨l0,l1,l2,l3,l4,l5⟩:=F3.lastCells hsl
 dsimp only at l0 l1 l2 l3 l4 l5
 go_still_tail 7,(by kernel_rfl)
 go_wp2_with fail
 have hlat:=later_any rc rn (s.last sn) W.drew
 unfold Wal.R.agg at hlat
 refine hlat.mono ?_
 rintro e w3 ⟨rfl,hb3⟩
 clear hlat
 have F4:=F3.drew.below hb3
 have hF4:=hF3.drew.below F3.drew hb3
 have hc3:∀ j,w3.cell? ⟨w.heap.size,j,none⟩=W.cell? ⟨w.heap.size,j,none⟩:=fun j=>hb3.cell (p:=⟨w.heap.size,j,none⟩) (by show _<W.heap.size;omega)
 have g0:=(hc3 0).trans g0
 have g1:=(hc3 1).trans g1
 have g2:=(hc3 2).trans g2
 have g3:=(hc3 3).trans g3
 have g4:=(hc3 4).trans g4
 have g5:=(hc3 5).trans g5
 clear hc3 hb3 l0 l1 l2 l3 l4 l5 F3 hF3
 obtain⟨b,hb⟩:∃ b,later rc rn (s.last sn)=b:=⟨_,rfl⟩
 rw[hb] at hs' ⊢
 clear hb
 cases b with
 | false=>
  go_wp2_with fail
  go_end0
  have e:s' = { s with vd:=updN s.vd o rd,vv:=updN s.vv o rv }:=hs'.out.symm
  rw[e]
  exact⟨rfl,F4,hF4⟩
 | true=>
  have F5:=F4.setLast hsl ⟨rc,rn,o,rv,rd,re⟩
  have hF5:=hF4.setsS F4 (23+sn*6) (Wal.R.cells ⟨rc,rn,o,rv,rd,re⟩) (by rw[Wal.R.cells_length];omega)
  have hth:w3.there a.S (23+sn*6) 6:=fun j hj=>by
   obtain⟨u,hu⟩:∃ u,(s.last sn).cells[j]?=some u:=⟨_,List.getElem?_eq_getElem (by rw[Wal.R.cells_length];exact hj)⟩
   exact⟨by rw[F4.la sn hsl j u hu];rfl,F4.free _⟩
  have hone:(Wal.R.cells ⟨rc,rn,o,rv,rd,re⟩).toArray.all (·.oneCell')=true:=all_oneCell_toArray (Wal.R.cells_one _)
  go_wp2_with (refine wpList_store_mid rfl 138 (.tmp 41) (.tmp 40) rfl a.S (23+sn*6) (Wal.R.cells ⟨rc,rn,o,rv,rd,re⟩).toArray rfl rfl hth info_record6 hone ?_)
  change bodyPost _ _ _ _ _ (w3.setCells a.S (23+sn*6) (Wal.R.cells ⟨rc,rn,o,rv,rd,re⟩))
  go_end0
  have e:s' = { s with vd:=updN s.vd o rd,vv:=updN s.vv o rv,last:=updN s.last sn ⟨rc,rn,o,rv,rd,re⟩ }:=hs'.out.symm
  rw[e]
  exact⟨rfl,F5,hF5⟩
theorem apply_any(a:Ad)(s:Sv)(r:R)(w:World)(h:SvIs w a s)(hc:0≤r.c)(ho:r.o<8) :
  Calls Tryz.prog 175 #[tp a.S,r.agg] w fun e w'=>e = .returned (.tuple #[])∧SvIs w' a (s.applied r)∧Fs a w w':=by
 unfold Sv.applied
 by_cases h0:r.o<0
 ·rw[if_pos h0]
  exact apply_epoch a s r w h h0
 ·rw[if_neg h0]
  obtain⟨rc,rn,ro,rv,rd,re⟩:=r
  dsimp only at hc ho h0 ⊢
  obtain⟨o,rfl⟩:=Int.eq_ofNat_of_zero_le (show 0≤ro by omega)
  rw[show ((o:Int)).toNat=o by omega]
  refine apply_write a s rc rn rv re o rd w h hc (by omega) _ ?_
  cases later rc rn (s.last (seatN rc))<;>rfl
end Wld
end
section
namespace Wld
open Go.RowKit Go.Maps
open Lease (Ob I64 upd upd_same upd_other mx TabIs hol dels objB)
open Cache (tp row_kept row_below)
open Wal (R WalIs DiskIs Oq Fw rcells Bx mayB)
open Num (M)
def Sv.add(s:Sv)(r:R):Sv×Int:=
 if s.down=true then (s,6) else if s.rs.length=200 then (s,12) else if s.fails=true∧s.left=0 then ({ s with down:=true },14)
 else ({ s with rs:=s.rs++[r],left:=if s.fails=true then s.left-1 else s.left },0)
theorem add_any(a:Ad)(s:Sv)(torn:Int)(r:R)(w:World)(h:SvIs w a s)(hm:mayB r=true)(h0:0≤s.left)(h1:s.left≤9223372036854775807) :
  Calls Tryz.prog 176 #[tp a.U,r.agg,.int .i64 torn] w fun e w'=>e = .returned (eV (s.add r).2)∧SvIs w' a (s.add r).1∧Fs a w w':=by
 unfold Sv.add
 have hL:=h.log
 have hD:=h.disk
 have hlen:=hD.len
 by_cases hd:s.down=true
 ·rw[if_pos hd]
  rw[hd] at hL
  refine(Wal.add_down a.U a.q s.rs torn r w hL).mono ?_
  rintro e w' ⟨rfl,hb⟩
  exact⟨rfl,h.below hb,Fs.of_below h hb⟩
 ·rw[if_neg hd]
  have hd':s.down=false:=by simpa using hd
  rw[hd'] at hL
  by_cases hf:s.rs.length=200
  ·rw[if_pos hf]
   refine(Wal.add_full a.U a.q s.rs s.fails s.left torn r w hL hD h.qU hf hm).mono ?_
   rintro e w' ⟨rfl,hb⟩
   exact⟨rfl,h.below hb,Fs.of_below h hb⟩
  ·rw[if_neg hf]
   have hl:s.rs.length<200:=by omega
   cases hfl:s.fails with
   | false=>
    rw[if_neg (fun e=>by simp at e),if_neg (by simp)]
    rw[hfl] at hD
    refine(Wal.add_free a.U a.q s.rs s.left torn r w hL hD h.qU hl hm).mono ?_
    rintro e w' ⟨rfl,hW,hD',hF⟩
    have k:=h.logged hW hD' hF
    refine⟨rfl,?_,(Fs.refl _ _).fw h hF⟩
    dsimp only
    rw[hd']
    exact k
   | true=>
    rw[hfl] at hD
    by_cases hz:s.left=0
    ·rw[if_pos ⟨rfl,hz⟩]
     rw[hz] at hD
     refine(Wal.add_off a.U a.q s.rs torn r w hL hD h.qU hl hm).mono ?_
     rintro e w' ⟨rfl,hW,hD',hF⟩
     have k:=h.logged hW hD' hF
     refine⟨rfl,?_,(Fs.refl _ _).fw h hF⟩
     dsimp only
     rw[hz]
     exact k
    ·rw[if_neg (fun e=>hz e.2),if_pos rfl]
     refine(Wal.add_cut a.U a.q s.rs s.left torn r w hL hD h.qU hl hm (by omega) h1).mono ?_
     rintro e w' ⟨rfl,hW,hD',hF⟩
     have k:=h.logged hW hD' hF
     refine⟨rfl,?_,(Fs.refl _ _).fw h hF⟩
     dsimp only
     rw[hd']
     exact k
def Sv.recd(s:Sv)(m:M)(o:Nat):R:=⟨m.c,m.n,o,s.vv o+1,m.d,0⟩
def Sv.commit(s:Sv)(m:M)(o:Nat):Sv×Int×Bool:=
 if (s.add (s.recd m o)).2=0 then ((s.add (s.recd m o)).1.applied (s.recd m o),s.vv o+1,true) else ((s.add (s.recd m o)).1,0,!(s.add (s.recd m o)).1.down)
theorem commit_any(a:Ad)(s:Sv)(mk mc mn me ms mv:Int)(o:Nat)(ml:Bool)(md:ByteArray)(w:World)(h:SvIs w a s)(ho:o<8)(hm:mayB (s.recd ⟨mk,mc,mn,me,ms,o,mv,ml,md⟩ o)=true)(hc:0≤mc)(h0:0≤s.left)(h1:s.left≤9223372036854775807)(hv0:0≤s.vv o)(hv1:s.vv o≤4611686018427387904)(x:Sv×Int×Bool)(hx:Hid (s.commit ⟨mk,mc,mn,me,ms,o,mv,ml,md⟩ o=x)) :
  Calls Tryz.prog 196 #[tp a.S,Wire.M.agg ⟨mk,mc,mn,me,ms,o,mv,ml,md⟩] w fun e w'=>e = .returned (.tuple #[.int .i64 x.2.1,.bool x.2.2])∧SvIs w' a x.1∧Fs a w w':=by
 have hlt:=h.lt
 have hne:a.S≠w.heap.size:=by omega
 have hne1:a.S≠w.heap.size+1:=by omega
 have hv:=h.vv o ho
 have ho0:(0:Int)≤(o:Int):=by omega
 have ho8:(o:Int)<8:=by omega
 have F:∀ o1 o2,SvIs ((w.alloc o1).alloc o2).drew a s:=fun o1 o2=>((h.alloc o1).alloc o2).drew
 have hF:∀ o1 o2,Fs a w ((w.alloc o1).alloc o2).drew:=fun o1 o2=>(((Fs.refl _ _).alloc h o1).alloc (h.alloc o1) o2).drew
 have hB:∀ o1,Bx ((w.alloc o1).alloc (.cells #[.int .i64 mc,.int .i64 mn,.int .i64 o,.int .i64 (s.vv o+1),.string md,.int .i64 0] 138)).drew (w.heap.size+1) ⟨mc,mn,o,s.vv o+1,md,0⟩:=fun o1=>by
  have:=Bx.made (w.alloc o1) ⟨mc,mn,o,s.vv o+1,md,0⟩ 138
  rw[show (w.alloc o1).heap.size=w.heap.size+1 by simp] at this
  exact this
 have hsz:∀ o1 o2,((w.alloc o1).alloc o2).drew.heap.size=w.heap.size+2:=fun o1 o2=>by show ((w.alloc o1).alloc o2).heap.size=_;simp
 have hfr:∀ o1 o2,¬ foot ((w.alloc o1).alloc o2).drew.drew a (w.heap.size+1):=fun o1 o2=>h.fresh ((((Below.refl _ _).alloc (Nat.le_refl _) o1).alloc (by simp) o2).drew.drew) (by omega)
 unfold Wire.M.agg
 dsimp only
 clear h
 go_enter Tryz.func196,Tryz.ntmps196
 go_wp2_with fail
 go_region
 all_goals go_wp2_with fail
 all_goals
  have F1:=F (.cells #[.int .i64 mk,.int .i64 mc,.int .i64 mn,.int .i64 me,.int .i64 ms,.int .i64 o,.int .i64 mv,.bool ml,.string md] 129) (.cells #[.int .i64 mc,.int .i64 mn,.int .i64 o,.int .i64 (s.vv o+1),.string md,.int .i64 0] 138)
  have hF1:=hF (.cells #[.int .i64 mk,.int .i64 mc,.int .i64 mn,.int .i64 me,.int .i64 ms,.int .i64 o,.int .i64 mv,.bool ml,.string md] 129) (.cells #[.int .i64 mc,.int .i64 mn,.int .i64 o,.int .i64 (s.vv o+1),.string md,.int .i64 0] 138)
  have hB1:=hB (.cells #[.int .i64 mk,.int .i64 mc,.int .i64 mn,.int .i64 me,.int .i64 ms,.int .i64 o,.int .i64 mv,.bool ml,.string md] 129)
  have hs1:=hsz (.cells #[.int .i64 mk,.int .i64 mc,.int .i64 mn,.int .i64 me,.int .i64 ms,.int .i64 o,.int .i64 mv,.bool ml,.string md] 129) (.cells #[.int .i64 mc,.int .i64 mn,.int .i64 o,.int .i64 (s.vv o+1),.string md,.int .i64 0] 138)
  have hfresh:=hfr (.cells #[.int .i64 mk,.int .i64 mc,.int .i64 mn,.int .i64 me,.int .i64 ms,.int .i64 o,.int .i64 mv,.bool ml,.string md] 129) (.cells #[.int .i64 mc,.int .i64 mn,.int .i64 o,.int .i64 (s.vv o+1),.string md,.int .i64 0] 138)
  clear F hF hB hsz hv hfr
  generalize ((w.alloc (.cells #[.int .i64 mk,.int .i64 mc,.int .i64 mn,.int .i64 me,.int .i64 ms,.int .i64 o,.int .i64 mv,.bool ml,.string md] 129)).alloc (.cells #[.int .i64 mc,.int .i64 mn,.int .i64 o,.int .i64 (s.vv o+1),.string md,.int .i64 0] 138)).drew=w1 at *
  obtain⟨b0,b1,b2,b3,b4,b5⟩:=hB1
  dsimp only at b0 b1 b2 b3 b4 b5
  have c3:=F1.c3
  have c4:=F1.c4
  have hadd:=add_any a s s.torn (s.recd ⟨mk,mc,mn,me,ms,o,mv,ml,md⟩ o) w1.drew F1.drew hm h0 h1
  have hap:∀ w2,SvIs w2 a (s.add (s.recd ⟨mk,mc,mn,me,ms,o,mv,ml,md⟩ o)).1→Calls Tryz.prog 175 #[tp a.S,Wal.R.agg ⟨mc,mn,o,s.vv o+1,md,0⟩] w2 fun e w'=>e = .returned (.tuple #[])∧SvIs w' a ((s.add (s.recd ⟨mk,mc,mn,me,ms,o,mv,ml,md⟩ o)).1.applied (s.recd ⟨mk,mc,mn,me,ms,o,mv,ml,md⟩ o))∧Fs a w2 w':=fun w2 h2=>apply_any a _ (s.recd ⟨mk,mc,mn,me,ms,o,mv,ml,md⟩ o) w2 h2 hc ho8
  have hx2:Hid ((if (s.add (s.recd ⟨mk,mc,mn,me,ms,o,mv,ml,md⟩ o)).2=0 then ((s.add (s.recd ⟨mk,mc,mn,me,ms,o,mv,ml,md⟩ o)).1.applied (s.recd ⟨mk,mc,mn,me,ms,o,mv,ml,md⟩ o),s.vv o+1,true) else ((s.add (s.recd ⟨mk,mc,mn,me,ms,o,mv,ml,md⟩ o)).1,0,!(s.add (s.recd ⟨mk,mc,mn,me,ms,o,mv,ml,md⟩ o)).1.down))=x):=hx.out
  clear hx
  unfold Wal.R.agg at hadd hap
  unfold Sv.recd at hadd
  dsimp only at hadd
  rw[show (⟨mc,mn,o,s.vv o+1,md,0⟩:R)=s.recd ⟨mk,mc,mn,me,ms,o,mv,ml,md⟩ o from rfl] at hadd
  generalize (s.recd ⟨mk,mc,mn,me,ms,o,mv,ml,md⟩ o)=r at *
  generalize (s.add r)=y at *
  obtain⟨s2,en⟩:=y
  dsimp only at hadd hap hx2
  go_still_tail 9,(by kernel_rfl)
  go_wp2_with fail
  refine hadd.mono ?_
  rintro e w2 ⟨rfl,G,hF2⟩
  clear hadd
  have hG:=hF1.drew.trans hF2
  by_cases hz:en=0
  ·subst hz
   have hb:∀ j,w2.cell? ⟨w.heap.size+1,j,none⟩=w1.cell? ⟨w.heap.size+1,j,none⟩:=fun j=>World.cell?_of_block (hF2.block (w.heap.size+1) (by show _<w1.heap.size;omega) hfresh)
   have hfresh2:¬ foot w2 a (w.heap.size+1):=fun f=>hfresh (hF2.grows _ (by show _<w1.heap.size;omega) f)
   have hs2:=hF2.size
   have hs3:w1.drew.heap.size=w1.heap.size:=rfl
   have b0:=(hb 0).trans b0
   have b1:=(hb 1).trans b1
   have b2:=(hb 2).trans b2
   have b3:=(hb 3).trans b3
   have b4:=(hb 4).trans b4
   have b5:=(hb 5).trans b5
   rw[show eV 0 = .nilIface from rfl]
   have hx3:Hid (x=(s2.applied r,s.vv o+1,true)):=hx2.out.symm
   clear hx2 hb c3 c4 F1 hF1 hF2 hfresh
   go_wp2_with fail
   refine(hap w2 G).mono ?_
   rintro e w3 ⟨rfl,G3,hF3⟩
   have hb:w3.cell? ⟨w.heap.size+1,3,none⟩=some (.int .i64 (s.vv o+1)):=(World.cell?_of_block (hF3.block (w.heap.size+1) (by omega) hfresh2)).trans b3
   go_wp2_with fail
   go_ret2
   rw[hx3.out]
   exact⟨rfl,G3,hG.trans hF3⟩
  ·rw[eV_neq hz]
   have hx3:Hid (x=(s2,0,!s2.down)):=hx2.out.symm.trans (if_neg hz)
   have hd:=down_any a s2 w2 G
   clear hx2 hap
   go_wp2_with fail
   refine hd.mono ?_
   rintro e w3 ⟨rfl,rfl⟩
   go_wp2_with fail
   go_ret2
   rw[hx3.out]
   exact⟨rfl,G,hG⟩
end Wld
end
section
namespace Wld
open Go.RowKit Go.Maps
open Lease (Ob I64 upd upd_same upd_other mx TabIs hol dels objB HasI)
open Cache (tp row_kept row_below)
open Wal (R WalIs DiskIs Oq Fw rcells)
open Num (M)
structure Out(w wr:World)(a:Ad)(v:Value)(l:List M):Prop where
 own:HasM wr w.heap.size v l
 sep:∀ g,v.ownBlock=some g→¬ foot wr a g
theorem Out.nil(w wr:World)(a:Ad):Out w wr a (.slice none 0 0) []:=⟨HasM.nil _ _,by simp[Value.ownBlock]⟩
theorem Out.fs{w wr z:World}{a:Ad}{v:Value}{l:List M}(h:Out w wr a v l)(hF:Fs a wr z):Out w z a v l:=
 ⟨row_kept h.own fun g hg=>hF.block g (World.ownsRow.lt h.own g hg).2 (h.sep g hg),fun g hg f=>h.sep g hg (hF.grows g (World.ownsRow.lt h.own g hg).2 f)⟩
theorem Out.app{w wr z:World}{a:Ad}{s:Sv}{v v':Value}{l:List M}{m:M}{o:Obj}(h:Out w wr a v l)(hs:SvIs wr a s)(hw:Fs a w wr)(hown:z.ownsRow w.heap.size 129 9 v' (l.length+1) (mcells l++mcell m))(hg:(wr.alloc o).grownBy z v.ownBlock)(hat:∀ g,v'.ownBlock=some g→v.ownBlock=some g∨wr.heap.size+1≤g) :
  Out w z a v' (l++[m])∧SvIs z a s∧Fs a w z:=by
 have hz:=hg.size
 simp at hz
 have hb:∀ k,k<wr.heap.size→(k<w.heap.size∨foot wr a k)→z.heap[k]?=wr.heap[k]?:=fun k hk hf=>by
  have hne:some k≠v.ownBlock:=fun e=>by
   rcases hf with hf|hf
   ·have:=(World.ownsRow.lt h.own k e.symm).1;omega
   ·exact h.sep k e.symm hf
  rw[hg.block k (by simp;omega) hne]
  exact Below.heap_alloc wr o k hk
 obtain⟨k1,k2⟩:=hw.beyond hs hg.os hg.tape hg.output (by omega) hb
 have hl:=hs.lts
 have eU:=hb a.U hl.2.1 (.inr (.inr (.inr (.inr (.inl rfl)))))
 have eS:=hb a.S hl.2.2.2.2.1 (.inr (.inr (.inr (.inl rfl))))
 refine⟨⟨HasM.app hown,fun g hg' f=>?_⟩,k2,k1⟩
 have f':foot wr a g:=foot_same (World.cell?_of_block eU) (fun i _=>World.cell?_of_block eS) f
 rcases hat g hg' with q|q
 ·exact h.sep g q f'
 ·have:=hs.footLt f'
  omega
structure Tells(w wr:World)(a:Ad)(v:Value)(s:Sv)(l:List M):Prop where
 out:Out w wr a v l
 sv:SvIs wr a s
 fs:Fs a w wr
def Sv.remindN(s:Sv)(seat now:Int):Nat→Sv×List M
 | 0=>(s,[])
 | k+1=>(((s.remindN seat now k).1.awaited k now).1,(s.remindN seat now k).2++(if hasN seat ((s.remindN seat now k).1.awaited k now).2=true then [((s.remindN seat now k).1.awaited k now).1.invalM seat k] else []))
structure SvOk(s:Sv)(B:Int):Prop where
 ses:∀ c,s.ses c≤B
 vv0:∀ o,0≤s.vv o
 vv1:∀ o,s.vv o≤4611686018427387904
theorem await_keep(now:Int):∀ (cs:List Int) (s:Sv) (B:Int),SvOk s B→SvOk (s.await now cs).1 (B+cs.length)∧(s.await now cs).2.length≤cs.length
 | [],s,B,h=>⟨⟨fun c=>by have:=h.ses c;simp[await_nil];omega,h.vv0,h.vv1⟩,by simp[await_nil]⟩
 | c :: cs,s,B,h=>by
  rw[await_cons]
  split
  ·obtain⟨k1,k2⟩:=await_keep now cs s B h
   exact⟨⟨fun c=>by have:=k1.ses c;simp;omega,k1.vv0,k1.vv1⟩,by simp;omega⟩
  ·have hf:SvOk (s.flushed c) (B+1):=⟨fun d=>by
    have h1:=h.ses d
    have h2:=h.ses c
    show upd s.ses c (s.ses c+1) d≤_
    unfold Lease.upd
    split<;>omega,h.vv0,h.vv1⟩
   obtain⟨k1,k2⟩:=await_keep now cs (s.flushed c) (B+1) hf
   exact⟨⟨fun c=>by have:=k1.ses c;simp;omega,k1.vv0,k1.vv1⟩,by simp;omega⟩
theorem SvOk.awaited{s:Sv}{B:Int}(h:SvOk s B)(o:Nat)(now:Int):SvOk (s.awaited o now).1 (B+4)∧(s.awaited o now).2.length≤4:=by
 unfold Sv.awaited
 split
 ·exact⟨⟨fun c=>by have:=h.ses c;dsimp only;omega,h.vv0,h.vv1⟩,by simp⟩
 ·obtain⟨k1,k2⟩:=await_keep now (hol s.D o now 4) s B h
  have hl:=Lease.hol_le s.D o now 4
  exact⟨⟨fun c=>by have:=k1.ses c;omega,k1.vv0,k1.vv1⟩,by omega⟩
theorem remind_any(a:Ad)(s:Sv)(seat now:Int)(w:World)(h:SvIs w a s)(hB:SvOk s 1000000000000000) :
  Calls Tryz.prog 227 #[tp a.S,.int .i64 seat,.int .i64 now] w fun e w'=>∃ v,e = .returned v∧Tells w w' a v (s.remindN seat now 8).1 (s.remindN seat now 8).2:=by
 obtain⟨i0,hi,hy0,hy1,hy2⟩:=info_parts info_msg
 have hws:=h.lt
 go_enter Tryz.func227,Tryz.ntmps227
 go_wp2_with fail
 go_loopw [7,9] (fun v i wr=>∃ k:Nat,k≤8∧i = .int .i64 k∧Tells w wr a v (s.remindN seat now k).1 (s.remindN seat now k).2∧SvOk (s.remindN seat now k).1 (1000000000000000+4*k)∧(s.remindN seat now k).2.length≤k) (fun _ i _=>8-(intOf i).toNat)
 case atStart=>exact⟨0,by omega,rfl,⟨Out.nil _ _ _,h,Fs.refl _ _⟩,⟨fun c=>by have:=hB.ses c;show s.ses c≤_;omega,hB.vv0,hB.vv1⟩,by simp[Sv.remindN]⟩
 case round=>
  obtain⟨k,hk,rfl,A,hO,hl⟩:=hrel
  by_cases hlt:k<8
  ·have HR1:Hid ((s.remindN seat now (k+1)).1=((s.remindN seat now k).1.awaited k now).1):=rfl
   have HR2:Hid ((s.remindN seat now (k+1)).2=(s.remindN seat now k).2++(if hasN seat ((s.remindN seat now k).1.awaited k now).2=true then [((s.remindN seat now k).1.awaited k now).1.invalM seat k] else [])):=rfl
   obtain⟨y,hy⟩:∃ y,s.remindN seat now k=y:=⟨_,rfl⟩
   rw[hy] at A hO hl HR1 HR2
   obtain⟨s2,l⟩:=y
   dsimp only at A hO hl HR1 HR2
   have hk8:(k:Int)<8:=by omega
   have haw:=awaited_any a s2 k now wr A.sv hlt (fun c=>by have:=hO.ses c;omega)
   obtain⟨hO2,hl2⟩:=hO.awaited k now
   obtain⟨y2,hy2'⟩:∃ y2,s2.awaited k now=y2:=⟨_,rfl⟩
   rw[hy2'] at haw hO2 hl2 HR1 HR2
   obtain⟨s3,li⟩:=y2
   dsimp only at haw hO2 hl2 HR1 HR2
   clear hy hy2'
   have HA:Hid (Tells w wr a u7 s2 l):=A
   clear A
   go_wp2_with fail
   refine haw.mono ?_
   rintro e w2 ⟨vi,rfl,hI,F2,hF2⟩
   clear haw
   have A2:Tells w w2 a u7 s3 l:=⟨HA.out.out.fs hF2,F2,HA.out.fs.trans hF2⟩
   have hcon:=containsI_any seat wr.heap.size vi li w2 hI (by omega)
   obtain⟨b,hb⟩:∃ b,hasN seat li=b:=⟨_,rfl⟩
   rw[hb] at hcon HR2
   clear hb HA hF2 hI
   have HA2:Hid (Tells w w2 a u7 s3 l):=A2
   obtain⟨av,cv,hav,hcv,_⟩:=Net.row_shape A2.out.own
   subst hav
   clear A2
   cases b with
   | false=>
    go_wp2_with fail
    refine hcon.mono ?_
    rintro e w3 ⟨rfl,rfl⟩
    clear hcon F2
    go_wp2_with fail
    go_roundw
    case rel=>
     refine⟨k+1,by omega,by go_num,?_⟩
     have e2:(s.remindN seat now (k+1)).2=l:=by rw[HR2.out];simp
     rw[HR1.out,e2]
     exact⟨HA2.out,⟨fun c=>by have:=hO2.ses c;omega,hO2.vv0,hO2.vv1⟩,by omega⟩
    case measure=>simp[intOf];omega
   | true=>
    have hinv:=inval_any a s3 seat k w2 F2 hlt (hO2.vv0 k) (hO2.vv1 k)
    have HR3:Hid ((s.remindN seat now (k+1)).2=l++[s3.invalM seat k]):=HR2.out.trans (by rw[if_pos rfl])
    obtain⟨mi,hmi⟩:∃ mi,s3.invalM seat k=mi:=⟨_,rfl⟩
    rw[hmi] at hinv HR3
    clear hmi HR2
    go_wp2_with fail
    refine hcon.mono ?_
    rintro e w3 ⟨rfl,rfl⟩
    clear hcon
    go_wp2_with fail
    refine hinv.mono ?_
    rintro e w4 ⟨rfl,hb4⟩
    clear hinv
    have F4:=F2.below hb4
    have hF4:=HA2.out.fs.below F2 hb4
    have O4:=HA2.out.out.fs (Fs.of_below F2 hb4)
    have hs4:=hF4.size
    clear HA2 F2 hb4
    go_wp2_with (first|refine wpList_oneMsg rfl 22 rfl mi rfl ?_|(at_builtin;refine App.wpList_append_at rfl _ _ 141 rfl w.heap.size 129 i0 (.agg #[.int .i64 0,.int .i64 0,.int .i64 0,.int .i64 0,.int .i64 0,.int .i64 0,.int .i64 0,.bool false,.string ⟨#[]⟩]) 9 80 Tryz.underlying141 hi hy0 hy1 hy2 rfl (by decide) _ _ _ rfl (O4.own.alloc _) ⟨w4.heap.size,0,none⟩ 1 1 (mcell mi) rfl rfl (msg_made w4 mi) (mcell_one _) ?r3 ?r4 ?r5 ?_))
    case r3=>unfold maxLen;omega
    case r4=>omega
    case r5=>simp;omega
    intro v5 w5 hown5 hg5 hat5
    obtain⟨O5,F5,hF5⟩:=O4.app F4 hF4 hown5 hg5 hat5
    have HA5:Hid (Tells w w5 a v5 s3 (l++[mi])):=⟨O5,F5,hF5⟩
    clear O4 O5 F4 F5 hF4 hF5 hown5 hg5 hat5
    go_wp2_with fail
    go_roundw
    case rel=>
     refine⟨k+1,by omega,by go_num,?_⟩
     rw[HR1.out,HR3.out]
     exact⟨HA5.out,⟨fun c=>by have:=hO2.ses c;omega,hO2.vv0,hO2.vv1⟩,by simp;omega⟩
    case measure=>simp[intOf];omega
  ·obtain rfl:k=8:=by omega
   have HA:Hid (Tells w wr a u7 (s.remindN seat now 8).1 (s.remindN seat now 8).2):=A
   clear A
   go_wp2_with fail
   go_ret
   exact⟨_,rfl,HA.out⟩
end Wld
end
end Go.Proofs.YtbebfliimjjohabGreatDoor
