/- Parts of the proof. -/
import Derived.Test.YtbebfliimjjohabGreatDoorLd42
import Derived.Test.YtbebfliimjjohabGreatDoorLd01
import Derived.Maps.RangeWalk
import Derived.Test.YtbebfliimjjohabGreatDoorLd34
import Derived.Lib.JoinLaws
import Derived.RangeFuncRecord
import Derived.WideMake
set_option maxRecDepth 100000
set_option maxHeartbeats 8000000
namespace Go.Proofs.YtbebfliimjjohabGreatDoor
section
namespace Wld
open Go.RowKit Go.Maps
open Cache (tp row_kept)
open Lease (HasI I64)
theorem event_any(B:Nat)(e:Ev)(w:World)(h:Base B w)(he:EvOk e) :
  Calls Tryz.prog 147 #[.agg (ecell e).toArray] w fun r w'=>r = .returned (.string (evT e))∧Below w.heap.size w w':=by
 obtain⟨i1,i2,i3,i4⟩:=he
 have hb1:Below w.heap.size w (w.alloc (.cells (ecell e).toArray 45)):=(Below.refl _ _).alloc (Nat.le_refl _) _
 have hs1:=itoaT_size i1
 have hs2:=itoaT_size i2
 have hs3:(shownT e.d e.ver).size≤200:=by
  have h3:=itoaT_size i3
  unfold shownT
  rw[ByteArray.size_append,ByteArray.size_append]
  have h4:(if e.d=⟨#[]⟩ then (⟨#[95]⟩:ByteArray) else e.d).size≤20:=by
   split
   ·decide
   ·exact i4
  have h5:(⟨#[32]⟩:ByteArray).size=1:=rfl
  omega
 have HI:Hid (∀ W,Below (w.alloc (.cells (ecell e).toArray 45)).heap.size (w.alloc (.cells (ecell e).toArray 45)) W→Calls Tryz.prog 78 #[.int .i64 e.client] W fun r w'=>r = .returned (.string (itoaT e.client))∧Below W.heap.size W w'):=fun W hb=>itoa_any (h.on (hb1.trans (hb.mono hb1.size))) i1
 have HJ:Hid (∀ W,Below (w.alloc (.cells (ecell e).toArray 45)).heap.size (w.alloc (.cells (ecell e).toArray 45)) W→Calls Tryz.prog 78 #[.int .i64 e.obj] W fun r w'=>r = .returned (.string (itoaT e.obj))∧Below W.heap.size W w'):=fun W hb=>itoa_any (h.on (hb1.trans (hb.mono hb1.size))) i2
 have HS:Hid (∀ W,Below (w.alloc (.cells (ecell e).toArray 45)).heap.size (w.alloc (.cells (ecell e).toArray 45)) W→Calls Tryz.prog 153 #[.agg #[.string e.d,.int .i64 e.ver]] W fun r w'=>r = .returned (.string (shownT e.d e.ver))∧Below W.heap.size W w'):=fun W hb=>shown_any B e.d e.ver W (h.on (hb1.trans (hb.mono hb1.size))) (by omega) i3
 obtain⟨t1,h1⟩:∃ t,itoaT e.client=t:=⟨_,rfl⟩
 obtain⟨t2,h2⟩:∃ t,itoaT e.obj=t:=⟨_,rfl⟩
 obtain⟨t3,h3⟩:∃ t,shownT e.d e.ver=t:=⟨_,rfl⟩
 have H1:Hid (itoaT e.client=t1):=h1
 have H2:Hid (itoaT e.obj=t2):=h2
 have H3:Hid (shownT e.d e.ver=t3):=h3
 rw[h1] at HI hs1
 rw[h2] at HJ hs2
 rw[h3] at HS hs3
 have c1:(w.alloc (.cells (ecell e).toArray 45)).cell? ⟨w.heap.size,1,none⟩=some (.int .i64 e.kind):=by simp[ecell]
 have HC1:(w.alloc (.cells (ecell e).toArray 45)).cell? ⟨w.heap.size,0,none⟩=some (.int .i64 e.client)∧(w.alloc (.cells (ecell e).toArray 45)).cell? ⟨w.heap.size,2,none⟩=some (.int .i64 e.obj)∧(w.alloc (.cells (ecell e).toArray 45)).cell? ⟨w.heap.size,3,none⟩=some (.string e.d)∧(w.alloc (.cells (ecell e).toArray 45)).cell? ⟨w.heap.size,4,none⟩=some (.int .i64 e.ver)∧(w.alloc (.cells (ecell e).toArray 45)).cell? ⟨w.heap.size,5,none⟩=some (.bool e.over)∧(w.alloc (.cells (ecell e).toArray 45)).cell? ⟨w.heap.size,6,none⟩=some (.bool e.hit):=by simp[ecell]
 have hlt:w.heap.size<(w.alloc (.cells (ecell e).toArray 45)).heap.size:=by simp
 clear h i1 i2 i3 i4 h1 h2 h3
 go_enter Tryz.func147,Tryz.ntmps147
 go_upto_region 1 with fail
 generalize hW:w.alloc (.cells (ecell e).toArray 45)=w1 at *
 clear hW
 have HC:Hid (∀ W,Below w1.heap.size w1 W→W.cell? ⟨w.heap.size,0,none⟩=some (.int .i64 e.client)∧W.cell? ⟨w.heap.size,2,none⟩=some (.int .i64 e.obj)∧W.cell? ⟨w.heap.size,3,none⟩=some (.string e.d)∧W.cell? ⟨w.heap.size,4,none⟩=some (.int .i64 e.ver)∧W.cell? ⟨w.heap.size,5,none⟩=some (.bool e.over)∧W.cell? ⟨w.heap.size,6,none⟩=some (.bool e.hit)):=fun W hb=>by
  have e':∀ i,W.cell? ⟨w.heap.size,i,none⟩=w1.cell? ⟨w.heap.size,i,none⟩:=fun i=>hb.cell (p:=⟨w.heap.size,i,none⟩) hlt
  rw[e',e',e',e',e',e']
  exact HC1
 have HW:Hid (∀ W,Below w1.heap.size w1 W→Below w.heap.size w W):=fun W hb=>hb1.trans (hb.mono hb1.size)
 have hbd:Below w1.heap.size w1 w1.drew:=below_drew w1
 have c0:=HC1.1
 have c2:=HC1.2.1
 clear HC1
 clear hb1
 by_cases hk:e.kind=2
 ·have HK:Hid (e.kind=2):=hk
  have hl1:¬ 9223372036854775807<t1.size+1:=by omega
  have hl2:¬ 9223372036854775807<t1.size+1+t2.size:=by omega
  have hl3:¬ 9223372036854775807<6+(t1.size+1+t2.size):=by omega
  have k3:(e.kind == 2)=true:=by simpa using hk
  clear hk
  go_upto_region 4 with fail
  refine Gen.start (S:=fun w'=>w'.cell? ⟨w.heap.size,0,none⟩=some (.int .i64 e.client)∧w'.cell? ⟨w.heap.size,2,none⟩=some (.int .i64 e.obj)∧True) (by kernel_rfl) ⟨c0,c2,trivial⟩ (fun hHeld=>?_)
  clear c0 c2 c1
  refine Gen.tk 0 10 ?_ rfl rfl (Or.inl ⟨by rfl,?_⟩) hHeld ?_;rotate_left
  ·rintro w' ⟨s0,s1,s2⟩;go_simp;try with_reducible rfl
  go_frame
  refine Gen.tk 1 2 ?_ rfl rfl (Or.inl ⟨by rfl,?_⟩) hHeld ?_;rotate_left
  ·rintro w' ⟨s0,s1,s2⟩;go_simp;try with_reducible rfl
  go_frame
  refine Gen.tk 2 3 ?_ rfl rfl (Or.inl ⟨by rfl,?_⟩) hHeld ?_;rotate_left
  ·rintro w' ⟨s0,s1,s2⟩;go_simp;try with_reducible rfl
  go_frame
  refine Gen.tk 5 6 ?_ rfl rfl (Or.inl ⟨by rfl,?_⟩) hHeld ?_;rotate_left
  ·rintro w' ⟨s0,s1,s2⟩;go_simp;try with_reducible rfl
  go_frame
  refine Gen.tk 6 7 ?_ rfl rfl (Or.inl ⟨by rfl,?_⟩) hHeld ?_;rotate_left
  ·rintro w' ⟨s0,s1,s2⟩;go_simp;try with_reducible rfl
  go_frame
  refine Gen.tk 7 8 ?_ rfl rfl (Or.inl ⟨by rfl,?_⟩) hHeld ?_;rotate_left
  ·rintro w' ⟨s0,s1,s2⟩;go_simp;try with_reducible rfl
  go_frame
  refine Gen.one (i:=3) (by kernel_rfl) rfl rfl (fun K hK=>?_)
  go_simp
  refine(HI.out w1.drew hbd).mono ?_
  rintro r w2 ⟨rfl,hb⟩
  have hb2:Below w1.heap.size w1 w2:=hbd.trans (hb.mono hbd.size)
  have q0:=(HC.out w2 hb2).1
  have q2:=(HC.out w2 hb2).2.1
  dsimp only
  refine hK.out _ _ ⟨q0,q2,trivial⟩ (fun hHeld=>?_)
  clear hK K
  try go_frame
  refine Gen.tk 4 9 ?_ rfl rfl (Or.inl ⟨by rfl,?_⟩) hHeld ?_;rotate_left
  ·rintro w' ⟨s0,s1,s2⟩;go_simp;try with_reducible rfl
  go_frame
  refine Gen.one (i:=8) (by kernel_rfl) rfl rfl (fun K hK=>?_)
  go_simp
  refine(HJ.out w2 hb2).mono ?_
  rintro r w3 ⟨rfl,hb⟩
  have hb3:Below w1.heap.size w1 w3:=hb2.trans (hb.mono hb2.size)
  have q0:=(HC.out w3 hb3).1
  have q2:=(HC.out w3 hb3).2.1
  dsimp only
  refine hK.out _ _ ⟨q0,q2,trivial⟩ (fun hHeld=>?_)
  clear hK K
  try go_frame
  refine Gen.tk 9 10 ?_ rfl rfl (Or.inl ⟨by rfl,?_⟩) hHeld ?_;rotate_left
  ·rintro w' ⟨s0,s1,s2⟩;go_simp;try with_reducible rfl
  go_frame
  refine Gen.tk 10 11 ?_ rfl rfl (Or.inl ⟨by rfl,?_⟩) hHeld ?_;rotate_left
  ·rintro w' ⟨s0,s1,s2⟩;go_simp;try with_reducible rfl
  go_frame
  refine Gen.last (i:=11) (by kernel_rfl) rfl rfl (by kernel_rfl) (by kernel_rfl) (fun K hK=>?_)
  go_simp
  refine hK.out _ _ ?_
  clear hK K hHeld
  obtain⟨c0,c2,c3,c4,c5,c6⟩:=HC.out w3 hb3
  clear HI HJ
  cases hov:e.over with
  | false=>
   rw[hov] at c5
   have hl4:¬ 9223372036854775807<6+(t1.size+1+t2.size)+5:=by omega
   have HF:Hid (evT e=⟨#[119,114,105,116,101,32]⟩++(t1++⟨#[32]⟩++t2)++⟨#[32,111,112,101,110]⟩):=by
    unfold Hid evT
    rw[if_pos hov,if_pos HK.out,H1.out,H2.out]
   clear HS hov
   go_wp2_with fail
   go_ret
   exact⟨by rw[HF.out];rfl,HW.out w3 hb3⟩
  | true=>
   rw[hov] at c5
   have hsh:=HS.out w3 hb3
   cases hhi:e.hit with
   | true=>
    rw[hhi] at c6
    have HHI:Hid (e.hit=true):=hhi
    have HF:Hid (evT e=⟨#[119,114,105,116,101,32]⟩++(t1++⟨#[32]⟩++t2)++(⟨#[32]⟩++t3)++⟨#[32,104,105,116]⟩):=by
     unfold Hid evT
     rw[if_neg (by rw[hov];decide),if_pos hhi,if_pos HK.out,H1.out,H2.out,H3.out]
    clear HS hov hhi
    have hl4:¬ 9223372036854775807<1+t3.size:=by omega
    have hl5:¬ 9223372036854775807<6+(t1.size+1+t2.size)+(1+t3.size):=by omega
    have hl6:¬ 9223372036854775807<6+(t1.size+1+t2.size)+(1+t3.size)+4:=by omega
    go_wp2_with fail
    refine hsh.mono ?_
    rintro r w4 ⟨rfl,hb⟩
    have hb4:Below w1.heap.size w1 w4:=hb3.trans (hb.mono hb3.size)
    obtain⟨d0,d2,d3,d4,d5,d6⟩:=HC.out w4 hb4
    rw[HHI.out] at d6
    clear hsh
    go_wp2_with fail
    go_ret
    exact⟨by rw[HF.out];rfl,HW.out w4 hb4⟩
   | false=>
    rw[hhi] at c6
    have HHI:Hid (e.hit=false):=hhi
    have HF:Hid (evT e=⟨#[119,114,105,116,101,32]⟩++(t1++⟨#[32]⟩++t2)++(⟨#[32]⟩++t3)):=by
     unfold Hid evT
     rw[if_neg (by rw[hov];decide),if_neg (by rw[hhi];decide),if_pos HK.out,H1.out,H2.out,H3.out]
    clear HS hov hhi
    have hl4:¬ 9223372036854775807<1+t3.size:=by omega
    have hl5:¬ 9223372036854775807<6+(t1.size+1+t2.size)+(1+t3.size):=by omega
    go_wp2_with fail
    refine hsh.mono ?_
    rintro r w4 ⟨rfl,hb⟩
    have hb4:Below w1.heap.size w1 w4:=hb3.trans (hb.mono hb3.size)
    obtain⟨d0,d2,d3,d4,d5,d6⟩:=HC.out w4 hb4
    rw[HHI.out] at d6
    clear hsh
    go_wp2_with fail
    go_ret
    exact⟨by rw[HF.out];rfl,HW.out w4 hb4⟩
 ·have HK:Hid (¬ e.kind=2):=hk
  have hl1:¬ 9223372036854775807<t1.size+1:=by omega
  have hl2:¬ 9223372036854775807<t1.size+1+t2.size:=by omega
  have hl3:¬ 9223372036854775807<5+(t1.size+1+t2.size):=by omega
  have k3:(e.kind == 2)=false:=by simpa using hk
  clear hk
  go_upto_region 4 with fail
  refine Gen.start (S:=fun w'=>w'.cell? ⟨w.heap.size,0,none⟩=some (.int .i64 e.client)∧w'.cell? ⟨w.heap.size,2,none⟩=some (.int .i64 e.obj)∧True) (by kernel_rfl) ⟨c0,c2,trivial⟩ (fun hHeld=>?_)
  clear c0 c2 c1
  refine Gen.tk 0 10 ?_ rfl rfl (Or.inl ⟨by rfl,?_⟩) hHeld ?_;rotate_left
  ·rintro w' ⟨s0,s1,s2⟩;go_simp;try with_reducible rfl
  go_frame
  refine Gen.tk 1 2 ?_ rfl rfl (Or.inl ⟨by rfl,?_⟩) hHeld ?_;rotate_left
  ·rintro w' ⟨s0,s1,s2⟩;go_simp;try with_reducible rfl
  go_frame
  refine Gen.tk 2 3 ?_ rfl rfl (Or.inl ⟨by rfl,?_⟩) hHeld ?_;rotate_left
  ·rintro w' ⟨s0,s1,s2⟩;go_simp;try with_reducible rfl
  go_frame
  refine Gen.tk 5 6 ?_ rfl rfl (Or.inl ⟨by rfl,?_⟩) hHeld ?_;rotate_left
  ·rintro w' ⟨s0,s1,s2⟩;go_simp;try with_reducible rfl
  go_frame
  refine Gen.tk 6 7 ?_ rfl rfl (Or.inl ⟨by rfl,?_⟩) hHeld ?_;rotate_left
  ·rintro w' ⟨s0,s1,s2⟩;go_simp;try with_reducible rfl
  go_frame
  refine Gen.tk 7 8 ?_ rfl rfl (Or.inl ⟨by rfl,?_⟩) hHeld ?_;rotate_left
  ·rintro w' ⟨s0,s1,s2⟩;go_simp;try with_reducible rfl
  go_frame
  refine Gen.one (i:=3) (by kernel_rfl) rfl rfl (fun K hK=>?_)
  go_simp
  refine(HI.out w1.drew hbd).mono ?_
  rintro r w2 ⟨rfl,hb⟩
  have hb2:Below w1.heap.size w1 w2:=hbd.trans (hb.mono hbd.size)
  have q0:=(HC.out w2 hb2).1
  have q2:=(HC.out w2 hb2).2.1
  dsimp only
  refine hK.out _ _ ⟨q0,q2,trivial⟩ (fun hHeld=>?_)
  clear hK K
  try go_frame
  refine Gen.tk 4 9 ?_ rfl rfl (Or.inl ⟨by rfl,?_⟩) hHeld ?_;rotate_left
  ·rintro w' ⟨s0,s1,s2⟩;go_simp;try with_reducible rfl
  go_frame
  refine Gen.one (i:=8) (by kernel_rfl) rfl rfl (fun K hK=>?_)
  go_simp
  refine(HJ.out w2 hb2).mono ?_
  rintro r w3 ⟨rfl,hb⟩
  have hb3:Below w1.heap.size w1 w3:=hb2.trans (hb.mono hb2.size)
  have q0:=(HC.out w3 hb3).1
  have q2:=(HC.out w3 hb3).2.1
  dsimp only
  refine hK.out _ _ ⟨q0,q2,trivial⟩ (fun hHeld=>?_)
  clear hK K
  try go_frame
  refine Gen.tk 9 10 ?_ rfl rfl (Or.inl ⟨by rfl,?_⟩) hHeld ?_;rotate_left
  ·rintro w' ⟨s0,s1,s2⟩;go_simp;try with_reducible rfl
  go_frame
  refine Gen.tk 10 11 ?_ rfl rfl (Or.inl ⟨by rfl,?_⟩) hHeld ?_;rotate_left
  ·rintro w' ⟨s0,s1,s2⟩;go_simp;try with_reducible rfl
  go_frame
  refine Gen.last (i:=11) (by kernel_rfl) rfl rfl (by kernel_rfl) (by kernel_rfl) (fun K hK=>?_)
  go_simp
  refine hK.out _ _ ?_
  clear hK K hHeld
  obtain⟨c0,c2,c3,c4,c5,c6⟩:=HC.out w3 hb3
  clear HI HJ
  cases hov:e.over with
  | false=>
   rw[hov] at c5
   have hl4:¬ 9223372036854775807<5+(t1.size+1+t2.size)+5:=by omega
   have HF:Hid (evT e=⟨#[114,101,97,100,32]⟩++(t1++⟨#[32]⟩++t2)++⟨#[32,111,112,101,110]⟩):=by
    unfold Hid evT
    rw[if_pos hov,if_neg HK.out,H1.out,H2.out]
   clear HS hov
   go_wp2_with fail
   go_ret
   exact⟨by rw[HF.out];rfl,HW.out w3 hb3⟩
  | true=>
   rw[hov] at c5
   have hsh:=HS.out w3 hb3
   cases hhi:e.hit with
   | true=>
    rw[hhi] at c6
    have HHI:Hid (e.hit=true):=hhi
    have HF:Hid (evT e=⟨#[114,101,97,100,32]⟩++(t1++⟨#[32]⟩++t2)++(⟨#[32]⟩++t3)++⟨#[32,104,105,116]⟩):=by
     unfold Hid evT
     rw[if_neg (by rw[hov];decide),if_pos hhi,if_neg HK.out,H1.out,H2.out,H3.out]
    clear HS hov hhi
    have hl4:¬ 9223372036854775807<1+t3.size:=by omega
    have hl5:¬ 9223372036854775807<5+(t1.size+1+t2.size)+(1+t3.size):=by omega
    have hl6:¬ 9223372036854775807<5+(t1.size+1+t2.size)+(1+t3.size)+4:=by omega
    go_wp2_with fail
    refine hsh.mono ?_
    rintro r w4 ⟨rfl,hb⟩
    have hb4:Below w1.heap.size w1 w4:=hb3.trans (hb.mono hb3.size)
    obtain⟨d0,d2,d3,d4,d5,d6⟩:=HC.out w4 hb4
    rw[HHI.out] at d6
    clear hsh
    go_wp2_with fail
    go_ret
    exact⟨by rw[HF.out];rfl,HW.out w4 hb4⟩
   | false=>
    rw[hhi] at c6
    have HHI:Hid (e.hit=false):=hhi
    have HF:Hid (evT e=⟨#[114,101,97,100,32]⟩++(t1++⟨#[32]⟩++t2)++(⟨#[32]⟩++t3)):=by
     unfold Hid evT
     rw[if_neg (by rw[hov];decide),if_neg (by rw[hhi];decide),if_neg HK.out,H1.out,H2.out,H3.out]
    clear HS hov hhi
    have hl4:¬ 9223372036854775807<1+t3.size:=by omega
    have hl5:¬ 9223372036854775807<5+(t1.size+1+t2.size)+(1+t3.size):=by omega
    go_wp2_with fail
    refine hsh.mono ?_
    rintro r w4 ⟨rfl,hb⟩
    have hb4:Below w1.heap.size w1 w4:=hb3.trans (hb.mono hb3.size)
    obtain⟨d0,d2,d3,d4,d5,d6⟩:=HC.out w4 hb4
    rw[HHI.out] at d6
    clear hsh
    go_wp2_with fail
    go_ret
    exact⟨by rw[HF.out];rfl,HW.out w4 hb4⟩
end Wld
end
section
namespace Wld
open Go.RowKit Go.Maps
def HasE(w:World)(B:Nat)(v:Value)(l:List Ev):Prop:=w.ownsRow B 45 10 v l.length (ecells l)
theorem HasE.shape{w:World}{B:Nat}{v:Value}{l:List Ev}(h:HasE w B v l):∃ ao c,v = .slice ao l.length c∧(0<l.length→∃ g,ao=some ⟨g,0,none⟩∧B≤g∧g<w.heap.size∧∀ k (hk:k<l.length) j u,(ecell l[k])[j]?=some u→w.cell? ⟨g,k*10+j,none⟩=some u):=by
 obtain⟨ao,c,e,_,hn⟩:=Net.row_shape h
 refine⟨ao,c,e,fun h0=>?_⟩
 rcases h.2 with ⟨e1,h1⟩|⟨g,cap,cur,e1,_⟩
 ·omega
 ·rw[e1] at e
  injection e with e _ _
  have hown:(v.ownBlock)=some g:=by rw[e1];rfl
  have hlt:=World.ownsRow.lt h g hown
  refine⟨g,e.symm,hlt.1,hlt.2,fun k hk j u hu=>?_⟩
  have hj:j<10:=by
   have:=(List.getElem?_eq_some_iff.1 hu).1
   simpa[ecell] using this
  have h':=h
  rw[HasE,e1] at h'
  rw[World.ownsRow.cellAt h' (k*10+j) (by omega),ecells_get l k j hk hj]
  exact hu
end Wld
end
section
namespace Wld
open Go.RowKit Go.Maps
open Cache (tp row_kept row_below)
open Lease (HasI I64)
def HasT(w:World)(B:Nat)(v:Value)(l:List ByteArray):Prop:=w.ownsRow B 9 1 v l.length (l.map Value.string)
theorem HasT.app{w wr w1:World}{B:Nat}{v v':Value}{l:List ByteArray}{x:ByteArray}{o:Obj}(h:HasT wr B v l)(hb:Below B w wr)(hB:B≤wr.heap.size)
  (hown:w1.ownsRow B 9 1 v' (l.length+1) (l.map Value.string++[.string x])) (hg:(wr.alloc o).grownBy w1 v.ownBlock):HasT w1 B v' (l++[x])∧Below B w w1:=by
 refine⟨?_,?_⟩
 ·unfold HasT
  rw[List.length_append,List.map_append]
  exact hown
 ·exact(hb.alloc hB o).grown hg (by simp;omega) (fun k hk=>(World.ownsRow.lt h k hk).1)
theorem shownT_size{d:ByteArray}{v:Int}(hd:d.size≤20)(hv:I64 v):(shownT d v).size≤200:=by
 have h3:=itoaT_size hv
 unfold shownT
 rw[ByteArray.size_append,ByteArray.size_append]
 have h4:(if d=⟨#[]⟩ then (⟨#[95]⟩:ByteArray) else d).size≤20:=by
  split
  ·decide
  ·exact hd
 have h5:(⟨#[32]⟩:ByteArray).size=1:=rfl
 omega
theorem evT_size{e:Ev}(h:EvOk e):(evT e).size≤500:=by
 obtain⟨h1,h2,h3,h4⟩:=h
 have k1:=itoaT_size h1
 have k2:=itoaT_size h2
 have k3:=shownT_size h4 h3
 have k4:(if e.kind=2 then (⟨#[119,114,105,116,101,32]⟩:ByteArray) else ⟨#[114,101,97,100,32]⟩).size≤6:=by split<;>decide
 have k5:(⟨#[32]⟩:ByteArray).size=1:=rfl
 have k6:(⟨#[32,111,112,101,110]⟩:ByteArray).size=5:=rfl
 have k7:(⟨#[32,104,105,116]⟩:ByteArray).size=4:=rfl
 unfold evT
 split
 ·simp only[ByteArray.size_append]
  omega
 ·split
  ·simp only[ByteArray.size_append]
   omega
  ·simp only[ByteArray.size_append]
   omega
theorem lens_le(m:Nat):∀ (xs:List (List UInt8)),(∀ x∈xs,x.length≤m)→Lib.lens xs≤m*xs.length
 | [],_=>Nat.le_refl _
 | x :: t,h=>by
  have h1:=lens_le m t fun y hy=>h y (List.mem_cons_of_mem _ hy)
  have h2:=h x List.mem_cons_self
  have e:Lib.lens (x :: t)=x.length+Lib.lens t:=by simp[Lib.lens]
  rw[e,List.length_cons,Nat.mul_succ]
  omega
theorem join_le{l:List Ev}(h:∀ e∈l,EvOk e)(hl:l.length≤1000000000):(Lib.join ((l.map evT).map (·.data.toList)) [44,32]).length≤140737488355328:=by
 cases l with
 | nil=>exact Nat.zero_le _
 | cons e t=>
  rw[List.map_cons,List.map_cons,Lib.join_length]
  have h1:=lens_le 500 ((evT e).data.toList :: (t.map evT).map (·.data.toList)) (fun x hx=>by
   rw[← List.map_cons (f:=fun b:ByteArray=>b.data.toList),← List.map_cons] at hx
   obtain⟨b,hb,rfl⟩:=List.mem_map.1 hx
   obtain⟨e',he',rfl⟩:=List.mem_map.1 hb
   exact evT_size (h e' he'))
  simp only[List.length_cons,List.length_map,List.length_nil] at h1 hl ⊢
  omega
theorem calls_walk(B d:Nat)(M:Value)(A:Wa)(s:Wd)(ao:Option Addr)(c:Nat)(w:World)(h:DkIs w d M A s)(hb:Base B w)(hev:∀ e∈s.events,EvOk e)(hl:s.events.length≤1000000000) :
  Calls Tryz.prog 81 #[tp d,.slice ao 0 c] w fun e w'=>e = .returned (.string ⟨(Lib.join (s.events.map fun e=>(evT e).data.toList) [44,32]).toArray⟩)∧Below w.heap.size w w':=by
 have hn:=need_ok ao c 0 w
 have hevs:=events_any A s w h.wd (by omega)
 have c0:=h.c0
 generalize s.events=l at *
 obtain⟨i0,hi,hz0,hz1,hz2⟩:=info_parts (P:=Tryz.prog) (e:=9) (show (Tryz.prog.info? 9).map (fun i=>(i.zero,i.size,i.bytes))=some (some (.string ⟨#[]⟩),1,16) by kernel_rfl)
 have HB:Hid (Base B w):=hb
 have HV:Hid (∀ e∈l,EvOk e):=hev
 clear h hb hev
 go_enter Tryz.func81,Tryz.ntmps81
 go_wp2_with fail
 refine hn.mono ?_
 rintro e w1 ⟨rfl,hw1⟩
 rw[hw1]
 clear hw1 hn
 go_wp2_with fail
 refine hevs.mono ?_
 rintro e w2 ⟨v,rfl,hrow,hb2⟩
 obtain⟨ae,ce,rfl,hcell⟩:=HasE.shape hrow
 clear hevs hrow
 have HC:Hid (0<l.length→∃ g,ae=some ⟨g,0,none⟩∧w.heap.size≤g∧g<w2.heap.size∧∀ k (hk:k<l.length) j u,(ecell l[k])[j]?=some u→w2.cell? ⟨g,k*10+j,none⟩=some u):=hcell
 clear hcell
 go_wp2_with fail
 go_loopw [5,16] (fun v5 i wr=>∃ k:Nat,k≤l.length∧i = .int .i64 k∧HasT wr w2.heap.size v5 ((l.take k).map evT)∧Below w2.heap.size w2 wr) (fun _ i _=>l.length-(intOf i).toNat)
 case atStart=>exact⟨0,by omega,rfl,World.ownsRow_nil _ _ _ _,Below.refl _ _⟩
 case round=>
  obtain⟨k,hk,rfl,hT,hbr⟩:=hrel
  by_cases hlt:k<l.length
  ·obtain⟨g,rfl,hg0,hg1,hcell⟩:=HC.out (by omega)
   have hltz:(k:Int)<(l.length:Int):=by omega
   obtain⟨x,hx⟩:∃ x,l[k]'hlt=x:=⟨_,rfl⟩
   have hcc:∀ j u,(ecell x)[j]?=some u→wr.cell? ⟨g,k*10+j,none⟩=some u:=fun j u hu=>(hbr.cell (p:=⟨g,k*10+j,none⟩) hg1).trans (hcell k hlt j u (by rw[hx];exact hu))
   have q0:wr.cell? ⟨g,k*10,none⟩=some (.int .i64 x.client):=hcc 0 _ rfl
   have q1:=hcc 1 _ rfl
   have q2:=hcc 2 _ rfl
   have q3:=hcc 3 _ rfl
   have q4:=hcc 4 _ rfl
   have q5:=hcc 5 _ rfl
   have q6:=hcc 6 _ rfl
   have q7:=hcc 7 _ rfl
   have q8:=hcc 8 _ rfl
   have q9:=hcc 9 _ rfl
   have HX:Hid (evT (l[k]'hlt)=evT x):=by rw[Hid,hx]
   have HO:Hid (EvOk x):=by rw[← hx];exact HV.out _ (List.getElem_mem hlt)
   have HT:Hid (HasT wr w2.heap.size u5 ((l.take k).map evT)):=hT
   clear hcc hcell hx hT
   have hcall:∀ W,Below w2.heap.size w2 W→Calls Tryz.prog 147 #[.agg (ecell x).toArray] W fun r w'=>r = .returned (.string (evT x))∧Below W.heap.size W w':=fun W hbW=>event_any B x W (HB.out.on (hb2.trans (hbW.mono hb2.size))) HO.out
   unfold ecell at hcall
   go_wp2_with fail
   refine(hcall _ (hbr.alloc hbr.size _)).mono ?_
   rintro e w4 ⟨rfl,hb4⟩
   have hb5:Below wr.heap.size wr w4:=((Below.refl _ _).alloc (Nat.le_refl _) _).trans (hb4.mono (by simp))
   have hT4:HasT w4 w2.heap.size u5 ((l.take k).map evT):=row_below HT.out hb5
   have hbr4:Below w2.heap.size w2 w4:=hbr.trans (hb5.mono hbr.size)
   have hlk:((l.take k).map evT).length=k:=by rw[List.length_map,List.length_take];omega
   obtain⟨t,ht⟩:∃ t,evT x=t:=⟨_,rfl⟩
   have HTX:Hid (evT x=t):=ht
   rw[ht]
   clear hcall hb4 hb5 q0 q1 q2 q3 q4 q5 q6 q7 q8 q9 ht
   obtain⟨L,hL⟩:∃ L,(l.take k).map evT=L:=⟨_,rfl⟩
   rw[hL] at hT4 hlk
   have HLL:Hid ((l.take k).map evT=L):=hL
   unfold HasT at hT4
   rw[hlk] at hT4
   have HLK:Hid (L.length=k):=hlk
   clear hlk hL HT
   go_wp2_with (at_builtin;refine wpList_append_own _ rfl _ _ 55 rfl w2.heap.size 9 i0 (.string ⟨#[]⟩) 1 16 Tryz.underlying55 hi hz0 hz1 hz2 rfl (by decide) _ _ _ rfl (World.ownsRow.alloc hT4 _) ⟨w4.heap.size,0,none⟩ 1 1 [.string t] rfl rfl (Lease.one_newI _ _ _) (by intro u hu;simp at hu;subst hu;rfl) ?c3 ?c4 ?c5 ?_)
   case c3=>unfold maxLen;omega
   case c4=>omega
   case c5=>have:=hbr4.size;simp;omega
   intro v' w5 hown' hgrow _
   have R:HasT w5 w2.heap.size v' (L++[t])∧Below w2.heap.size w2 w5:=HasT.app (wr:=w4) (v:=u5) (by unfold HasT;rw[HLK.out];exact hT4) hbr4 hbr4.size (by rw[HLK.out];exact hown') hgrow
   have R2:Hid (HasT w5 w2.heap.size v' ((l.take (k+1)).map evT)∧Below w2.heap.size w2 w5):=by
    unfold Hid
    rw[List.take_succ_eq_append_getElem hlt,List.map_append]
    show HasT w5 w2.heap.size v' ((l.take k).map evT++[evT (l[k]'hlt)])∧_
    rw[HX.out,HTX.out,HLL.out]
    exact R
   clear hown' hgrow hT4 hbr4 R
   go_wp2_with fail
   go_roundw
   case rel=>exact⟨k+1,by omega,by go_num,R2.out.1,R2.out.2⟩
   case measure=>simp[intOf];omega
  ·obtain rfl:k=l.length:=by omega
   have hltz:¬ (l.length:Int)<(l.length:Int):=by omega
   rw[List.take_length] at hT
   have hjoin:Calls Tryz.prog 148 #[u5,.string ⟨#[44,32]⟩] wr fun e w'=>e = .returned (.string ⟨(Lib.join (l.map fun e=>(evT e).data.toList) [44,32]).toArray⟩)∧Below wr.heap.size wr w':=by
    obtain⟨L,hL⟩:∃ L,l.map evT=L:=⟨_,rfl⟩
    have hLl:L.length=l.length:=by rw[← hL,List.length_map]
    have e1:(l.map fun e=>(evT e).data.toList)=L.map (·.data.toList):=by rw[← hL,List.map_map];rfl
    rw[e1]
    rw[hL] at hT
    by_cases h0:L = []
    ·subst h0
     rcases hT.2 with ⟨rfl,_⟩|⟨g,cap,cur,rfl,_⟩
     ·refine(Tryz.strings_Join_none none 0 ⟨#[44,32]⟩ wr).mono ?_
      rintro e w' ⟨rfl,rfl⟩
      exact⟨rfl,Below.refl _ _⟩
     ·refine(Tryz.strings_Join_none (some ⟨g,0,none⟩) cap ⟨#[44,32]⟩ wr).mono ?_
      rintro e w' ⟨rfl,rfl⟩
      exact⟨rfl,Below.refl _ _⟩
    ·have hpos:0<L.length:=List.length_pos_iff.2 h0
     rcases hT.2 with ⟨_,h1⟩|⟨g,cap,cur,rfl,_,hgh,hcap,_⟩
     ·rw[h1] at hpos;cases hpos
     ·have hT':wr.ownsRow w2.heap.size 9 1 (.slice (some ⟨g,0,none⟩) L.length cap) L.length (L.map Value.string):=hT
      refine Tryz.strings_Join g 0 cap L ⟨#[44,32]⟩ wr (fun j x hx=>?_) ((World.ownsRow.lt hT g rfl).2) (by omega) ?_ ?_
      ·rw[Nat.zero_add,World.ownsRow.cellAt hT' j (by have:=(List.getElem?_eq_some_iff.1 hx).1;omega),List.getElem?_map,hx]
       rfl
      ·first|exact hcap|omega
      ·rw[← hL]
       exact join_le HV.out (by omega)
   have HW:Hid (Below w.heap.size w wr):=hb2.trans (hbr.mono hb2.size)
   clear hT HC
   go_wp2_with fail
   refine hjoin.mono ?_
   rintro e w4 ⟨rfl,hb4⟩
   have HF:Hid (Below w.heap.size w w4):=HW.out.trans (hb4.mono HW.out.size)
   clear hjoin hb4 HW hbr hb2
   go_wp2_with fail
   go_ret
   exact⟨rfl,HF.out⟩
def callsP(ws:List ByteArray)(s:Wd):Res:=num0 ws s (.inl ⟨(Lib.join (s.events.map fun e=>(evT e).data.toList) [44,32]).toArray⟩,s)
theorem callsT(B N d:Nat)(M:Value)(w:World)(A:Wa)(s:Wd)(C:Nat)(v:Value)(ws:List ByteArray)(h:Ds B N d M w A s C)(hw:Wds w v ws)(hC:C≤800000000) :
  Calls Tryz.prog 81 #[tp d,v] w (Did B N d M w (C+3) (callsP ws s)):=by
 obtain⟨ao,c,rfl,_,_⟩:=hw.has
 unfold callsP num0
 by_cases h0:ws.length=0
 ·rw[h0,if_pos rfl]
  refine(calls_walk B d M A s ao c w h.dk h.base h.em.ev (by have:=h.num.ev;omega)).mono ?_
  rintro e w' ⟨rfl,hb⟩
  exact Did.text h (by omega) rfl hb
 ·rw[if_neg h0]
  have hn:=need_no ao c ws.length 0 w (by omega)
  have HE:Hid (Did B N d M w (C+3) (.inr 3,s) (thrown 3) w):=Did.form h (by omega) rfl (Below.refl _ _)
  clear h hw
  go_enter Tryz.func81,Tryz.ntmps81
  go_wp2_with fail
  refine hn.mono ?_
  rintro e w2 ⟨rfl,hw2⟩
  rw[hw2]
  clear hw2 hn
  go_wp2_with fail
  exact⟨rfl,HE.out⟩
end Wld
end
section
namespace Wld
open Go.RowKit Go.Maps
open Cache (tp row_kept row_below)
def deedsL:List (ByteArray×Nat):=[(⟨#[97,103,97,105,110]⟩,79),(⟨#[98,101,103,105,110]⟩,80),(⟨#[99,97,108,108,115]⟩,81),(⟨#[99,97,108,109]⟩,82),(⟨#[99,114,97,115,104]⟩,83),(⟨#[100,101,108,105,118,101,114]⟩,84),(⟨#[102,97,105,108,115]⟩,85),(⟨#[103,111,101,115]⟩,86),(⟨#[104,101,108,112]⟩,87),(⟨#[108,111,115,101]⟩,88),(⟨#[109,97,110,121]⟩,89),(⟨#[114,101,97,100]⟩,90),(⟨#[114,101,98,111,114,110]⟩,91),(⟨#[114,101,115,116,97,114,116]⟩,92),(⟨#[115,104,111,114,116]⟩,93),(⟨#[116,119,105,99,101]⟩,94),(⟨#[117,112]⟩,95),(⟨#[118,97,108,117,101]⟩,96),(⟨#[119,114,105,116,101]⟩,97)]
def entF(d:Nat):List (ByteArray×Nat)→Nat→List MapEntry
 | [],_=>[]
 | (x,f) :: t,i=>⟨.string x,.func (.func f) #[tp d] #[],i⟩ :: entF d t (i+1)
def findD:List (ByteArray×Nat)→ByteArray→Option Nat
 | [],_=>none
 | (y,f) :: t,x=>if x=y then some f else findD t x
theorem bytes_beq(x y:ByteArray):(x == y)=decide (x=y):=by
 have e:(x == y)=(x.data == y.data):=rfl
 rw[e]
 by_cases h:x=y
 ·subst h
  simp
 ·have h2:¬ x.data=y.data:=fun q=>h (by cases x;cases y;exact congrArg ByteArray.mk q)
  rw[decide_eq_false h]
  simpa using h2
theorem find_ent(d:Nat)(x:ByteArray):∀ (l:List (ByteArray×Nat)) (i j:Nat),∃ n,Instr.findNow .string (.string x) (entF d l i) j=some ((findD l x).map fun f=>(n,.func (.func f) #[tp d] #[]))
 | [],_,_=>⟨0,rfl⟩
 | (y,f) :: t,i,j=>by
  by_cases h:x=y
  ·subst h
   refine⟨j,?_⟩
   have e:Instr.sameNow .string (.string x) (.string x)=some true:=by
    show some (x == x)=_
    rw[bytes_beq,decide_eq_true rfl]
   simp only[entF,Instr.findNow,e,findD,if_true]
   rfl
  ·obtain⟨n,hn⟩:=find_ent d x t (i+1) (j+1)
   refine⟨n,?_⟩
   have e:Instr.sameNow .string (.string x) (.string y)=some false:=by
    show some (x == y)=_
    rw[bytes_beq,decide_eq_false h]
   simp only[entF,Instr.findNow,e,findD,if_neg h]
   exact hn
theorem wpList_insert{P:Program}{w:World}{ops:Array Oper}{rest:List Oper}{o:Oper}{a:Act}{Q:Exit→Act→World→Prop}(hg:o.guard=none)(m x v:Operand)(t:TypeId)(hop:o.op=Op.insert t m x v)(k e:TypeId)(ht:P.underlying t=some (.map k e))(hk:P.underlying k=some .string)(b:Nat)(es:Array MapEntry)(clock:Nat)
  (hm:a.eval m = .map (some b)) (hb:w.heap[b]?=some (.map es clock)) (s:ByteArray) (hx:a.eval x = .string s) (val:Value) (hv:a.eval v=val) (hf:Instr.findNow .string (.string s) es.toList 0=some none)
  (hK:∀ w',w'.heap[b]?=some (.map (es.push ⟨.string s,val,clock⟩) (clock+1))→Below b w w'→w'.heap.size=w.heap.size→wpList P ops Q rest (a.put o.dst undef) w'):wpList P ops Q (o :: rest) a w:=by
 refine wpList_plain hg fun K hK'=>?_
 have hc:(Instr.checkKey false 10000 k (.string s)).run P w = .ok () w:=MapKept.run_checkKey (k:=.string s) hk (by simp[MapKept.IsKey]) false 9999
 have hrun:(Instr.mapUpdate t (.map (some b)) (.string s) val).run P w = .ok () (w.putObj b (.map (es.push ⟨.string s,val,clock⟩) (clock+1))):=by
  simp[Instr.mapUpdate,run_underlying ht,MapKept.run_getObj_map hb,hc,MapKept.run_findKey hk hf,MapKept.run_setObj_map _ hb,Result.andThen,World.putObj]
 unfold Oper.wp
 simp[execOp,hop,hm,hx,hv,hrun,Result.andThen]
 refine hK' _ _ (hK _ (World.putObj_heap_same (Array.getElem?_eq_some_iff.1 hb).1) ⟨rfl,rfl,rfl,by simp,fun k hk=>World.putObj_heap_other (by omega)⟩ (by simp))
def DeedsIs(w:World)(m d:Nat):Prop:=w.heap[m]?=some (.map (entF d deedsL 0).toArray 19)
def s0:Wd:=(Wd.bare 20 8 0 2).start
theorem openD_any(B:Nat)(w:World)(h:Base B w) :
  Calls Tryz.prog 45 #[] w fun e w'=>∃ A,e = .returned (tp w.heap.size)∧Ds B (w.heap.size+2) w.heap.size (.map (some (w.heap.size+1))) w' A s0 0∧DeedsIs w' (w.heap.size+1) w.heap.size∧Below w.heap.size w w':=by
 have hmf:∀ (fn:Fn) (first cap:Array Value) (w:World),(Instr.makeFunc fn first cap).run Tryz.prog w = .ok (.func fn first cap) w:=fun _ _ _ _=>rfl
 have hmm:=@run_makeMap Tryz.prog
 go_enter Tryz.func45,Tryz.ntmps45
 go_upto_region 2 with fail
 generalize hW:w.alloc (.cells #[.pointer none,.map none] 168)=w1
 have hb1:Below w.heap.size w w1:=by rw[← hW];exact(Below.refl _ _).alloc (Nat.le_refl _) _
 have hs1:w1.heap.size=w.heap.size+1:=by rw[← hW];simp
 have c0:w1.cell? ⟨w.heap.size,0,none⟩=some (.pointer none):=by rw[← hW];simp
 have c1:w1.cell? ⟨w.heap.size,1,none⟩=some (.map none):=by rw[← hW];simp
 have cf:∀ i,w1.frozen? ⟨w.heap.size,i,none⟩=false:=fun i=>by rw[← hW];simp
 have ct:isC w1 w.heap.size 168:=by rw[← hW];exact⟨_,_,heap_alloc_new w _⟩
 clear hW
 have hmap:(w1.alloc (.map #[] 0)).heap[w.heap.size+1]?=some (.map #[] 0):=by rw[← hs1];exact World.alloc_heap_new w1 _
 have hB:Below (w.heap.size+1) w1 (w1.alloc (.map #[] 0)):=(Below.refl _ _).alloc (by omega) _
 have HS:Hid ((w1.alloc (.map #[] 0)).heap.size=w.heap.size+2):=by rw[Hid,World.size_alloc];omega
 have hmm1:(Instr.makeMap 166 none).run Tryz.prog w1 = .ok (.map (some (w.heap.size+1))) (w1.alloc (.map #[] 0)):=by rw[hmm,hs1]
 have HS1:Hid (w1.heap.size=w.heap.size+1):=hs1
 have d1:=(hB.cell (p:=⟨w.heap.size,1,none⟩) (by dsimp only;omega)).trans c1
 have f1:=(hB.frozen (p:=⟨w.heap.size,1,none⟩) (by dsimp only;omega)).trans (cf 1)
 clear hmm hs1
 generalize w1.alloc (.map #[] 0)=w2 at *
 go_wp2_with (refine wpList_insert rfl _ _ _ _ rfl _ _ Tryz.underlying166 Tryz.underlying9 (w.heap.size+1) _ _ rfl hmap _ rfl _ rfl (by kernel_rfl) ?_;intro w' hmap' hfr hsz;replace hB:=hB.trans hfr;replace HS:Hid (w'.heap.size=w.heap.size+2):=hsz.trans HS.out;replace hmap:=hmap';replace d1:=(hfr.cell (p:=⟨w.heap.size,1,none⟩) (Nat.lt_succ_self _)).trans d1;replace f1:=(hfr.frozen (p:=⟨w.heap.size,1,none⟩) (Nat.lt_succ_self _)).trans f1;clear hfr hsz hmap')
 have hM:DeedsIs w' (w.heap.size+1) w.heap.size:=hmap.trans (by kernel_rfl)
 have d0:=(hB.cell (p:=⟨w.heap.size,0,none⟩) (Nat.lt_succ_self _)).trans c0
 have hd3:∀ y,y≠w.heap.size→(w'.setCell ⟨w.heap.size,1,none⟩ (.map (some (w.heap.size+1)))).heap[y]?=w'.heap[y]?:=fun y hy=>Below.heap_setCell w' ⟨w.heap.size,1,none⟩ _ y hy
 have e0:(w'.setCell ⟨w.heap.size,1,none⟩ (.map (some (w.heap.size+1)))).cell? ⟨w.heap.size,0,none⟩=some (.pointer none):=(World.cell?_setCell_other _ _ _ _ (by intro q;injection q with _ q;cases q)).trans d0
 have e1:(w'.setCell ⟨w.heap.size,1,none⟩ (.map (some (w.heap.size+1)))).cell? ⟨w.heap.size,1,none⟩=some (.map (some (w.heap.size+1))):=World.cell?_setCell_same _ _ _ d1
 have ef:∀ i,(w'.setCell ⟨w.heap.size,1,none⟩ (.map (some (w.heap.size+1)))).frozen? ⟨w.heap.size,i,none⟩=false:=fun i=>by
  rw[World.frozen?_setCell]
  exact(hB.frozen (p:=⟨w.heap.size,i,none⟩) (Nat.lt_succ_self _)).trans (cf i)
 have et:isC (w'.setCell ⟨w.heap.size,1,none⟩ (.map (some (w.heap.size+1)))) w.heap.size 168:=Wal.typ_setCell (ct.same (hB.block _ (Nat.lt_succ_self _)))
 have em:DeedsIs (w'.setCell ⟨w.heap.size,1,none⟩ (.map (some (w.heap.size+1)))) (w.heap.size+1) w.heap.size:=(hd3 _ (by omega)).trans hM
 have es:(w'.setCell ⟨w.heap.size,1,none⟩ (.map (some (w.heap.size+1)))).heap.size=w.heap.size+2:=by rw[World.size_setCell];exact HS.out
 have eb:Below w.heap.size w (w'.setCell ⟨w.heap.size,1,none⟩ (.map (some (w.heap.size+1)))):=(hb1.trans (hB.mono (Nat.le_succ _))).setCell (p:=⟨w.heap.size,1,none⟩) (Nat.le_refl _) _
 generalize w'.setCell ⟨w.heap.size,1,none⟩ (.map (some (w.heap.size+1)))=w3 at *
 have hnew:=newW_any 20 8 0 2 w3 (by omega) (by omega) (by omega) (by omega) (by omega) (by omega) (by omega)
 have HES:Hid (w3.heap.size=w.heap.size+2):=es
 have HG:Hid (∀ A w4,WdIs w4 A s0→Below w3.heap.size w3 w4→Low w3.heap.size w4 A s0→Ds B (w.heap.size+2) w.heap.size (.map (some (w.heap.size+1))) (w4.setCell ⟨w.heap.size,0,none⟩ (tp A.Q)) A s0 0∧DeedsIs (w4.setCell ⟨w.heap.size,0,none⟩ (tp A.Q)) (w.heap.size+1) w.heap.size∧Below w.heap.size w (w4.setCell ⟨w.heap.size,0,none⟩ (tp A.Q))):=fun A w4 x hb4 hl=>by
  have hlt:w.heap.size<w3.heap.size:=by omega
  have o:∀ y,y≠w.heap.size→(w4.setCell ⟨w.heap.size,0,none⟩ (tp A.Q)).heap[y]?=w4.heap[y]?:=fun y hy=>Below.heap_setCell w4 ⟨w.heap.size,0,none⟩ _ y hy
  have ht:isC w4 w.heap.size 168:=et.same (hb4.block _ hlt)
  obtain⟨p1,p2⟩:=x.aside (w':=w4.setCell ⟨w.heap.size,0,none⟩ (tp A.Q)) (by simp) (fun y hy=>o y (by
   intro e
   rw[e] at hy
   rcases hy with q|q
   ·exact x.notFoot ht (by decide) (by decide) (by decide) (by decide) (by decide) q
   ·exact ht.ne q (by decide) rfl))
  have hbk:Bk s0 0:=Bk.fresh (tob:=20) (tv:=8) (td:=0) (n:=2) (by decide) 0
  have hbel:Below w.heap.size w (w4.setCell ⟨w.heap.size,0,none⟩ (tp A.Q)):=(eb.trans (hb4.mono eb.size)).setCell (p:=⟨w.heap.size,0,none⟩) (Nat.le_refl _) _
  refine⟨⟨⟨Wal.typ_setCell ht,World.cell?_setCell_same _ _ _ ((hb4.cell (p:=⟨w.heap.size,0,none⟩) hlt).trans e0),(World.cell?_setCell_other _ _ _ _ (by intro q;injection q with _ q;cases q)).trans ((hb4.cell (p:=⟨w.heap.size,1,none⟩) hlt).trans e1),p1⟩,fun i=>?_,fun k hk=>by have:=hl k (p2 k hk);omega,h.on hbel,h.size,by omega,?_,hbk.1,hbk.2.1,hbk.2.2⟩,?_,hbel⟩
  ·rw[World.frozen?_setCell]
   exact(hb4.frozen (p:=⟨w.heap.size,i,none⟩) hlt).trans (ef i)
  ·rw[World.size_setCell]
   have:=hb4.size
   omega
  ·unfold DeedsIs
   rw[o _ (by omega),hb4.block _ (by omega)]
   exact em
 have HC0:Hid (∀ w4,Below w3.heap.size w3 w4→w4.cell? ⟨w.heap.size,0,none⟩=some (.pointer none)∧w4.frozen? ⟨w.heap.size,0,none⟩=false):=fun w4 hb4=>⟨(hb4.cell (p:=⟨w.heap.size,0,none⟩) (by dsimp only;omega)).trans e0,(hb4.frozen (p:=⟨w.heap.size,0,none⟩) (by dsimp only;omega)).trans (ef 0)⟩
 clear hmap hB HS d1 f1 hM d0 hd3 e0 e1 ef et em es eb c0 c1 cf ct hb1 h
 refine hnew.mono ?_
 rintro e w4 ⟨A,rfl,x,hb4,hl⟩
 obtain⟨g0,g1⟩:=HC0.out w4 hb4
 have HF:=HG.out A w4 x hb4 hl
 have HF2:Hid (Ds B (w.heap.size+2) w.heap.size (.map (some (w.heap.size+1))) (w4.setCell ⟨w.heap.size,0,none⟩ (tp A.Q)) A s0 0∧DeedsIs (w4.setCell ⟨w.heap.size,0,none⟩ (tp A.Q)) (w.heap.size+1) w.heap.size∧Below w.heap.size w (w4.setCell ⟨w.heap.size,0,none⟩ (tp A.Q))):=HF
 clear hnew HG HC0 HF x hb4 hl
 go_wp2_with fail
 go_ret
 exact⟨A,rfl,HF2.out⟩
end Wld
end
end Go.Proofs.YtbebfliimjjohabGreatDoor
