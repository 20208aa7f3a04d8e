/- Parts of the proof. -/
import Derived.Test.YtbebfliimjjohabGreatDoorLd40
import Derived.Test.YtbebfliimjjohabGreatDoorLd24
import Derived.Maps.RangeWalk
set_option maxRecDepth 100000
set_option maxHeartbeats 8000000
namespace Go.Proofs.YtbebfliimjjohabGreatDoor
section
namespace Wld
open Go.RowKit Go.Maps
open Cache (tp row_kept)
open Lease (HasI)
theorem calm_walk(d q:Nat)(v:Value)(ws:List ByteArray)(w:World)(Post:Ending→World→Prop)(hd:d<w.heap.size)(c0:w.cell? ⟨d,0,none⟩=some (tp q))
  (hnum:Calls Tryz.prog 145 #[v,.int .i64 1] w (NumsPost ws 1 w))
  (hop:∀ w2 (a:Nat),Below w.heap.size w w2→numsOf ws 1=some [(a:Int)]→a≤200→Calls Tryz.prog 12 #[tp q,.int .i64 a] w2 (fun e w3=>e = .returned (.tuple #[])∧Post (.returned (.string ⟨#[99,97,108,109]⟩)) w3))
  (hno:numsOf ws 1=none→∀ w2,Below w.heap.size w w2→Post (thrown 3) w2)
  (hbad:∀ a w2,numsOf ws 1=some [a]→(a<0∨200<a)→Below w.heap.size w w2→Post (thrown 2) w2) :
  Calls Tryz.prog 82 #[tp d,v] w Post:=by
 have HO:Hid (∀ w2 (a:Nat),Below w.heap.size w w2→numsOf ws 1=some [(a:Int)]→a≤200→Calls Tryz.prog 12 #[tp q,.int .i64 a] w2 (fun e w3=>e = .returned (.tuple #[])∧Post (.returned (.string ⟨#[99,97,108,109]⟩)) w3)):=hop
 have HN:Hid (numsOf ws 1=none→∀ w2,Below w.heap.size w w2→Post (thrown 3) w2):=hno
 have HY:Hid (∀ a w2,numsOf ws 1=some [a]→(a<0∨200<a)→Below w.heap.size w w2→Post (thrown 2) w2):=hbad
 clear hop hno hbad
 go_enter Tryz.func82,Tryz.ntmps82
 go_wp2_with fail
 refine hnum.mono ?_
 rintro e w2 ⟨hb,(⟨hn,rfl⟩|⟨l,v2,hn,rfl,hv2⟩)⟩
 ·have HP:Hid (Post (thrown 3) w2):=HN.out hn w2 hb
  clear hnum HO HN HY hn
  go_wp2_with fail
  exact⟨rfl,HP.out⟩
 obtain⟨a,rfl⟩:=nums_one hn
 obtain⟨g,cc,rfl,hcell⟩:=int_cells hv2 (by simp)
 have ha:w2.cell? ⟨g,0,none⟩=some (.int .i64 a):=hcell 0 (by simp)
 have s2:w2.cell? ⟨d,0,none⟩=some (tp q):=(hb.cell (p:=⟨d,0,none⟩) hd).trans c0
 clear hcell hv2 hnum HN
 by_cases h0:a<0
 ·have HP:Hid (Post (thrown 2) w2):=HY.out a w2 hn (.inl h0) hb
  have g0:decide (a<0)=true:=decide_eq_true h0
  clear HO HY hn
  go_wp2_with fail
  exact⟨rfl,HP.out⟩
 ·have g0:decide (a<0)=false:=decide_eq_false h0
  by_cases h1:200<a
  ·have HP:Hid (Post (thrown 2) w2):=HY.out a w2 hn (.inr h1) hb
   have g1:decide (200<a)=true:=decide_eq_true h1
   clear HO HY hn
   go_wp2_with fail
   exact⟨rfl,HP.out⟩
  ·have g1:decide (200<a)=false:=decide_eq_false h1
   obtain⟨k,rfl⟩:∃ k:Nat,a=k:=⟨a.toNat,by omega⟩
   have hop:=HO.out w2 k hb hn (by omega)
   clear HO HY hn
   go_wp2_with fail
   refine hop.mono ?_
   rintro e w3 ⟨rfl,hp⟩
   have HP:Hid (Post (.returned (.string ⟨#[99,97,108,109]⟩)) w3):=hp
   clear hop hp
   go_wp2_with fail
   exact HP.out
theorem value_walk(d q:Nat)(v:Value)(ws:List ByteArray)(w:World)(R:Int→ByteArray→Int→Prop)(Post:Ending→World→Prop)(hd:d<w.heap.size)(c0:w.cell? ⟨d,0,none⟩=some (tp q))
  (hnum:∀ w1,Below w.heap.size w w1→Calls Tryz.prog 145 #[v,.int .i64 1] w1 (NumsPost ws 1 w1))
  (hop:∀ w2 a,Below w.heap.size w w2→numsOf ws 1=some [a]→Calls Tryz.prog 152 #[tp q,.int .i64 a] w2 (fun e w3=>(∃ n dd y,e = .returned (.tuple #[.agg #[.string dd,.int .i64 y],eV n])∧R n dd y)∧Below w2.heap.size w2 w3))
  (hch:∀ n w3,Below w.heap.size w w3→Calls Tryz.prog 144 #[eV n] w3 (fun e w4=>e=(if n=0 then .returned (.tuple #[]) else thrown n)∧Below w3.heap.size w3 w4))
  (hno:numsOf ws 1=none→∀ w2,Below w.heap.size w w2→Post (thrown 3) w2)
  (hbad:∀ n dd y w4,R n dd y→n≠0→Below w.heap.size w w4→Post (thrown n) w4)
  (hsh:∀ dd y w4,R 0 dd y→Below w.heap.size w w4→Calls Tryz.prog 153 #[.agg #[.string dd,.int .i64 y]] w4 (fun e w5=>∃ t,e = .returned (.string t)∧Post (.returned (.string t)) w5)) :
  Calls Tryz.prog 96 #[tp d,v] w Post:=by
 have HM:Hid (∀ w1,Below w.heap.size w w1→Calls Tryz.prog 145 #[v,.int .i64 1] w1 (NumsPost ws 1 w1)):=hnum
 have HO:Hid (∀ w2 a,Below w.heap.size w w2→numsOf ws 1=some [a]→Calls Tryz.prog 152 #[tp q,.int .i64 a] w2 (fun e w3=>(∃ n dd y,e = .returned (.tuple #[.agg #[.string dd,.int .i64 y],eV n])∧R n dd y)∧Below w2.heap.size w2 w3)):=hop
 have HC:Hid (∀ n w3,Below w.heap.size w w3→Calls Tryz.prog 144 #[eV n] w3 (fun e w4=>e=(if n=0 then .returned (.tuple #[]) else thrown n)∧Below w3.heap.size w3 w4)):=hch
 have HN:Hid (numsOf ws 1=none→∀ w2,Below w.heap.size w w2→Post (thrown 3) w2):=hno
 have HY:Hid (∀ n dd y w4,R n dd y→n≠0→Below w.heap.size w w4→Post (thrown n) w4):=hbad
 have HS:Hid (∀ dd y w4,R 0 dd y→Below w.heap.size w w4→Calls Tryz.prog 153 #[.agg #[.string dd,.int .i64 y]] w4 (fun e w5=>∃ t,e = .returned (.string t)∧Post (.returned (.string t)) w5)):=hsh
 have HD:Hid (∀ W,Below w.heap.size w W→W.cell? ⟨d,0,none⟩=some (tp q)):=fun W hb=>(hb.cell (p:=⟨d,0,none⟩) hd).trans c0
 clear hnum hop hch hno hbad hsh
 go_enter Tryz.func96,Tryz.ntmps96
 go_upto_region 1 with fail
 have hbw1:Below w.heap.size w w.drew:=below_drew w
 refine Gen.start (S:=fun w'=>w'.cell? ⟨d,0,none⟩=some (tp q)∧True) (by kernel_rfl) ⟨c0,trivial⟩ (fun hHeld=>?_)
 generalize w.drew=w1 at *
 refine Gen.tk 0 1 ?_ rfl rfl (Or.inl ⟨by rfl,?_⟩) hHeld ?_
 rotate_left
 ·intro w' hSw
  have s0:=hSw.1
  have s1:=hSw.2
  go_simp
  try with_reducible rfl
 go_frame
 refine Gen.tk 1 2 ?_ rfl rfl (Or.inl ⟨by rfl,?_⟩) hHeld ?_
 rotate_left
 ·intro w' hSw
  have s0:=hSw.1
  have s1:=hSw.2
  go_simp
  try with_reducible rfl
 go_frame
 refine Gen.tk 2 3 ?_ rfl rfl (Or.inl ⟨by rfl,?_⟩) hHeld ?_
 rotate_left
 ·intro w' hSw
  have s0:=hSw.1
  have s1:=hSw.2
  go_simp
  try with_reducible rfl
 go_frame
 refine Gen.tk 3 8 ?_ rfl rfl (Or.inl ⟨by rfl,?_⟩) hHeld ?_
 rotate_left
 ·intro w' hSw
  have s0:=hSw.1
  have s1:=hSw.2
  go_simp
  try with_reducible rfl
 go_frame
 refine Gen.tk 4 5 ?_ rfl rfl (Or.inl ⟨by rfl,?_⟩) hHeld ?_
 rotate_left
 ·intro w' hSw
  have s0:=hSw.1
  have s1:=hSw.2
  go_simp
  try with_reducible rfl
 go_frame
 refine Gen.two (i:=5) (j:=12) (by kernel_rfl) rfl rfl rfl rfl (fun K hK=>?_) (fun K hK=>?_)
 ·go_simp
  refine(HM.out w1 hbw1).mono ?_
  rintro e w2 ⟨hb,(⟨hn,rfl⟩|⟨l,v2,hn,rfl,hv2⟩)⟩
  ·have HP:Hid (Post (thrown 3) w2):=HN.out hn w2 (hbw1.trans (hb.mono hbw1.size))
   clear HM HO HC HN HY HS hn hHeld hK
   dsimp only
   exact⟨rfl,HP.out⟩
  obtain⟨a,rfl⟩:=nums_one hn
  obtain⟨g,cc,rfl,hcell⟩:=int_cells hv2 (by simp)
  have ha:w2.cell? ⟨g,0,none⟩=some (.int .i64 a):=hcell 0 (by simp)
  have HA:Hid (numsOf ws 1=some [a]):=hn
  have hlg:g<w2.heap.size:=(World.ownsRow.lt hv2 g rfl).2
  have hbw2:Below w.heap.size w w2:=hbw1.trans (hb.mono hbw1.size)
  have hbn:=hb
  clear hcell hv2 hn hb
  dsimp only
  refine hK.out _ _ ⟨HD.out _ hbw2,trivial⟩ (fun hHeld=>?_)
  clear hK K
  try go_frame
  refine Gen.tk 6 7 ?_ rfl rfl (Or.inl ⟨by rfl,?_⟩) hHeld ?_
  rotate_left
  ·intro w' hSw
   have s0:=hSw.1
   have s1:=hSw.2
   go_simp
   try with_reducible rfl
  go_frame
  refine Gen.two (i:=7) (j:=12) (by kernel_rfl) rfl rfl rfl rfl (fun K hK=>?_) (fun K hK=>?_)
  ·go_simp
   refine hK.out _ _ ⟨hHeld.1,trivial⟩ (fun hHeld=>?_)
   clear hK K
   try go_frame
   refine Gen.two (i:=8) (j:=12) (by kernel_rfl) rfl rfl rfl rfl (fun K hK=>?_) (fun K hK=>?_)
   ·go_simp
    refine(HO.out w2 a hbw2 HA.out).mono ?_
    rintro e w3 ⟨⟨n,dd,y,rfl,hr⟩,hb⟩
    have HR:Hid (R n dd y):=hr
    have hbw3:Below w.heap.size w w3:=hbw2.trans (hb.mono hbw2.size)
    have hbv:=hb
    clear hr hb
    dsimp only
    refine hK.out _ _ ⟨HD.out _ hbw3,trivial⟩ (fun hHeld=>?_)
    clear hK K
    try go_frame
    refine Gen.tk 9 10 ?_ rfl rfl (Or.inl ⟨by rfl,?_⟩) hHeld ?_
    rotate_left
    ·intro w' hSw
     have s0:=hSw.1
     have s1:=hSw.2
     go_simp
     try with_reducible rfl
    go_frame
    refine Gen.tk 10 13 ?_ rfl rfl (Or.inl ⟨by rfl,?_⟩) hHeld ?_
    rotate_left
    ·intro w' hSw
     have s0:=hSw.1
     have s1:=hSw.2
     go_simp
     try with_reducible rfl
    go_frame
    refine Gen.tk 11 14 ?_ rfl rfl (Or.inl ⟨by rfl,?_⟩) hHeld ?_
    rotate_left
    ·intro w' hSw
     have s0:=hSw.1
     have s1:=hSw.2
     go_simp
     try with_reducible rfl
    go_frame
    refine Gen.one (i:=12) (by kernel_rfl) rfl rfl (fun K hK=>?_)
    go_simp
    have hbw4':Below w3.heap.size w3 (w3.alloc (.cells #[.string ⟨#[]⟩,.int .i64 0] 41)):=(Below.refl _ _).alloc (Nat.le_refl _) _
    have p0:(w3.alloc (.cells #[.string ⟨#[]⟩,.int .i64 0] 41)).cell? ⟨w3.heap.size,0,none⟩=some (.string ⟨#[]⟩):=by simp
    have p1:(w3.alloc (.cells #[.string ⟨#[]⟩,.int .i64 0] 41)).cell? ⟨w3.heap.size,1,none⟩=some (.int .i64 0):=by simp
    have pf:∀ i,(w3.alloc (.cells #[.string ⟨#[]⟩,.int .i64 0] 41)).frozen? ⟨w3.heap.size,i,none⟩=false:=fun i=>by simp
    have pl:w3.heap.size<(w3.alloc (.cells #[.string ⟨#[]⟩,.int .i64 0] 41)).heap.size:=by simp
    refine hK.out _ _ ⟨HD.out _ (hbw3.trans (hbw4'.mono hbw3.size)),trivial⟩ (fun hHeld=>?_)
    clear hK K
    try go_frame
    have hpB:w.heap.size≤w3.heap.size:=hbw3.size
    generalize w3.alloc (.cells #[.string ⟨#[]⟩,.int .i64 0] 41)=w4 at *
    generalize w3.heap.size=p at *
    have hbw4:Below w.heap.size w w4:=hbw3.trans (hbw4'.mono hpB)
    have pf0:=pf 0
    have pf1:=pf 1
    clear pf
    refine Gen.one (i:=13) (by kernel_rfl) rfl rfl (fun K hK=>?_)
    go_simp
    have hbs:Below w.heap.size w ((w4.setCell ⟨p,0,none⟩ (.string dd)).setCell ⟨p,1,none⟩ (.int .i64 y)):=(hbw4.setCell (p:=⟨p,0,none⟩) hpB _).setCell (p:=⟨p,1,none⟩) hpB _
    have t0:((w4.setCell ⟨p,0,none⟩ (.string dd)).setCell ⟨p,1,none⟩ (.int .i64 y)).cell? ⟨p,0,none⟩=some (.string dd):=by
     rw[World.cell?_setCell_other _ _ _ _ (by intro q;injection q with _ q;cases q)]
     exact World.cell?_setCell_same _ _ _ p0
    have t1:((w4.setCell ⟨p,0,none⟩ (.string dd)).setCell ⟨p,1,none⟩ (.int .i64 y)).cell? ⟨p,1,none⟩=some (.int .i64 y):=World.cell?_setCell_same _ _ _ ((World.cell?_setCell_other _ _ _ _ (by intro q;injection q with _ q;cases q)).trans p1)
    refine hK.out _ _ ⟨HD.out _ hbs,trivial⟩ (fun hHeld=>?_)
    clear hK K p0 p1 pf0 pf1
    try go_frame
    generalize (w4.setCell ⟨p,0,none⟩ (.string dd)).setCell ⟨p,1,none⟩ (.int .i64 y)=w6 at *
    refine Gen.last (i:=14) (by kernel_rfl) rfl rfl (by kernel_rfl) (by kernel_rfl) (fun K hK=>?_)
    go_simp
    refine hK.out _ _ ?_
    clear hK K hHeld
    have hch:=HC.out n w6 hbs
    have hp6:p<w6.heap.size:=by
     unfold World.cell? at t0
     cases hq:w6.heap[p]? with
     | none=>simp[hq] at t0
     | some o=>exact(Array.getElem?_eq_some_iff.1 hq).1
    go_wp2_with fail
    refine hch.mono ?_
    rintro e w7 ⟨he,hb7⟩
    have hbw7:Below w.heap.size w w7:=hbs.trans (hb7.mono hbs.size)
    by_cases hn:n=0
    ·rw[if_pos hn] at he
     subst he
     subst hn
     have hs:=HS.out dd y w7 HR.out hbw7
     have t0:=(hb7.cell (p:=⟨p,0,none⟩) hp6).trans t0
     have t1:=(hb7.cell (p:=⟨p,1,none⟩) hp6).trans t1
     clear hch HY HC HS HM HO HN hb7
     go_wp2_with fail
     refine hs.mono ?_
     rintro e w8 ⟨t,rfl,hp⟩
     have HP:Hid (Post (.returned (.string t)) w8):=hp
     clear hs hp
     go_wp2_with fail
     exact HP.out
    ·rw[if_neg hn] at he
     subst he
     have HP:Hid (Post (thrown n) w7):=HY.out n dd y w7 HR.out hn hbw7
     clear hch HY HC HS HM HO HN hb7 hn
     go_wp2_with fail
     exact⟨rfl,HP.out⟩
   ·go_simp
    have hbw3':Below w2.heap.size w2 (w2.alloc (.cells #[.string ⟨#[]⟩,.int .i64 0] 41)):=(Below.refl _ _).alloc (Nat.le_refl _) _
    have p0:(w2.alloc (.cells #[.string ⟨#[]⟩,.int .i64 0] 41)).cell? ⟨w2.heap.size,0,none⟩=some (.string ⟨#[]⟩):=by simp
    have p1:(w2.alloc (.cells #[.string ⟨#[]⟩,.int .i64 0] 41)).cell? ⟨w2.heap.size,1,none⟩=some (.int .i64 0):=by simp
    have pf:∀ i,(w2.alloc (.cells #[.string ⟨#[]⟩,.int .i64 0] 41)).frozen? ⟨w2.heap.size,i,none⟩=false:=fun i=>by simp
    have pl:w2.heap.size<(w2.alloc (.cells #[.string ⟨#[]⟩,.int .i64 0] 41)).heap.size:=by simp
    refine hK.out _ _ ⟨HD.out _ (hbw2.trans (hbw3'.mono hbw2.size)),trivial⟩ (fun hHeld=>?_)
    clear hK K
    try go_frame
    have hpB:w.heap.size≤w2.heap.size:=hbw2.size
    generalize w2.alloc (.cells #[.string ⟨#[]⟩,.int .i64 0] 41)=w3 at *
    generalize w2.heap.size=p at *
    have hbw3:Below w.heap.size w w3:=hbw2.trans (hbw3'.mono hpB)
    refine Gen.one (i:=8) (by kernel_rfl) rfl rfl (fun K hK=>?_)
    go_simp
    refine(HO.out w3 a hbw3 HA.out).mono ?_
    rintro e w4 ⟨⟨n,dd,y,rfl,hr⟩,hb⟩
    have HR:Hid (R n dd y):=hr
    have hbw4:Below w.heap.size w w4:=hbw3.trans (hb.mono hbw3.size)
    have hbv:=hb
    clear hr hb
    dsimp only
    refine hK.out _ _ ⟨HD.out _ hbw4,trivial⟩ (fun hHeld=>?_)
    clear hK K
    try go_frame
    have p0:=(hbv.cell (p:=⟨p,0,none⟩) pl).trans p0
    have p1:=(hbv.cell (p:=⟨p,1,none⟩) pl).trans p1
    have pf:∀ i,w4.frozen? ⟨p,i,none⟩=false:=fun i=>(hbv.frozen (p:=⟨p,i,none⟩) pl).trans (pf i)
    have pl:p<w4.heap.size:=Nat.lt_of_lt_of_le pl hbv.size
    refine Gen.tk 9 10 ?_ rfl rfl (Or.inl ⟨by rfl,?_⟩) hHeld ?_
    rotate_left
    ·intro w' hSw
     have s0:=hSw.1
     have s1:=hSw.2
     go_simp
     try with_reducible rfl
    go_frame
    refine Gen.tk 10 13 ?_ rfl rfl (Or.inl ⟨by rfl,?_⟩) hHeld ?_
    rotate_left
    ·intro w' hSw
     have s0:=hSw.1
     have s1:=hSw.2
     go_simp
     try with_reducible rfl
    go_frame
    refine Gen.tk 11 14 ?_ rfl rfl (Or.inl ⟨by rfl,?_⟩) hHeld ?_
    rotate_left
    ·intro w' hSw
     have s0:=hSw.1
     have s1:=hSw.2
     go_simp
     try with_reducible rfl
    go_frame
    have pf0:=pf 0
    have pf1:=pf 1
    clear pf
    refine Gen.one (i:=13) (by kernel_rfl) rfl rfl (fun K hK=>?_)
    go_simp
    have hbs:Below w.heap.size w ((w4.setCell ⟨p,0,none⟩ (.string dd)).setCell ⟨p,1,none⟩ (.int .i64 y)):=(hbw4.setCell (p:=⟨p,0,none⟩) hpB _).setCell (p:=⟨p,1,none⟩) hpB _
    have t0:((w4.setCell ⟨p,0,none⟩ (.string dd)).setCell ⟨p,1,none⟩ (.int .i64 y)).cell? ⟨p,0,none⟩=some (.string dd):=by
     rw[World.cell?_setCell_other _ _ _ _ (by intro q;injection q with _ q;cases q)]
     exact World.cell?_setCell_same _ _ _ p0
    have t1:((w4.setCell ⟨p,0,none⟩ (.string dd)).setCell ⟨p,1,none⟩ (.int .i64 y)).cell? ⟨p,1,none⟩=some (.int .i64 y):=World.cell?_setCell_same _ _ _ ((World.cell?_setCell_other _ _ _ _ (by intro q;injection q with _ q;cases q)).trans p1)
    refine hK.out _ _ ⟨HD.out _ hbs,trivial⟩ (fun hHeld=>?_)
    clear hK K p0 p1 pf0 pf1
    try go_frame
    generalize (w4.setCell ⟨p,0,none⟩ (.string dd)).setCell ⟨p,1,none⟩ (.int .i64 y)=w6 at *
    refine Gen.last (i:=14) (by kernel_rfl) rfl rfl (by kernel_rfl) (by kernel_rfl) (fun K hK=>?_)
    go_simp
    refine hK.out _ _ ?_
    clear hK K hHeld
    have hch:=HC.out n w6 hbs
    have hp6:p<w6.heap.size:=by
     unfold World.cell? at t0
     cases hq:w6.heap[p]? with
     | none=>simp[hq] at t0
     | some o=>exact(Array.getElem?_eq_some_iff.1 hq).1
    go_wp2_with fail
    refine hch.mono ?_
    rintro e w7 ⟨he,hb7⟩
    have hbw7:Below w.heap.size w w7:=hbs.trans (hb7.mono hbs.size)
    by_cases hn:n=0
    ·rw[if_pos hn] at he
     subst he
     subst hn
     have hs:=HS.out dd y w7 HR.out hbw7
     have t0:=(hb7.cell (p:=⟨p,0,none⟩) hp6).trans t0
     have t1:=(hb7.cell (p:=⟨p,1,none⟩) hp6).trans t1
     clear hch HY HC HS HM HO HN hb7
     go_wp2_with fail
     refine hs.mono ?_
     rintro e w8 ⟨t,rfl,hp⟩
     have HP:Hid (Post (.returned (.string t)) w8):=hp
     clear hs hp
     go_wp2_with fail
     exact HP.out
    ·rw[if_neg hn] at he
     subst he
     have HP:Hid (Post (thrown n) w7):=HY.out n dd y w7 HR.out hn hbw7
     clear hch HY HC HS HM HO HN hb7 hn
     go_wp2_with fail
     exact⟨rfl,HP.out⟩
  ·go_simp
   have hbw3':Below w2.heap.size w2 (w2.alloc (.cells #[.string ⟨#[]⟩,.int .i64 0] 41)):=(Below.refl _ _).alloc (Nat.le_refl _) _
   have p0:(w2.alloc (.cells #[.string ⟨#[]⟩,.int .i64 0] 41)).cell? ⟨w2.heap.size,0,none⟩=some (.string ⟨#[]⟩):=by simp
   have p1:(w2.alloc (.cells #[.string ⟨#[]⟩,.int .i64 0] 41)).cell? ⟨w2.heap.size,1,none⟩=some (.int .i64 0):=by simp
   have pf:∀ i,(w2.alloc (.cells #[.string ⟨#[]⟩,.int .i64 0] 41)).frozen? ⟨w2.heap.size,i,none⟩=false:=fun i=>by simp
   have pl:w2.heap.size<(w2.alloc (.cells #[.string ⟨#[]⟩,.int .i64 0] 41)).heap.size:=by simp
   refine hK.out _ _ ⟨HD.out _ (hbw2.trans (hbw3'.mono hbw2.size)),trivial⟩ (fun hHeld=>?_)
   clear hK K
   try go_frame
   have hpB:w.heap.size≤w2.heap.size:=hbw2.size
   generalize w2.alloc (.cells #[.string ⟨#[]⟩,.int .i64 0] 41)=w3 at *
   generalize w2.heap.size=p at *
   have hbw3:Below w.heap.size w w3:=hbw2.trans (hbw3'.mono hpB)
   have ha:=(hbw3'.cell (p:=⟨g,0,none⟩) hlg).trans ha
   refine Gen.one (i:=7) (by kernel_rfl) rfl rfl (fun K hK=>?_)
   go_simp
   refine hK.out _ _ ⟨hHeld.1,trivial⟩ (fun hHeld=>?_)
   clear hK K
   try go_frame
   refine Gen.one (i:=8) (by kernel_rfl) rfl rfl (fun K hK=>?_)
   go_simp
   refine(HO.out w3 a hbw3 HA.out).mono ?_
   rintro e w4 ⟨⟨n,dd,y,rfl,hr⟩,hb⟩
   have HR:Hid (R n dd y):=hr
   have hbw4:Below w.heap.size w w4:=hbw3.trans (hb.mono hbw3.size)
   have hbv:=hb
   clear hr hb
   dsimp only
   refine hK.out _ _ ⟨HD.out _ hbw4,trivial⟩ (fun hHeld=>?_)
   clear hK K
   try go_frame
   have p0:=(hbv.cell (p:=⟨p,0,none⟩) pl).trans p0
   have p1:=(hbv.cell (p:=⟨p,1,none⟩) pl).trans p1
   have pf:∀ i,w4.frozen? ⟨p,i,none⟩=false:=fun i=>(hbv.frozen (p:=⟨p,i,none⟩) pl).trans (pf i)
   have pl:p<w4.heap.size:=Nat.lt_of_lt_of_le pl hbv.size
   refine Gen.tk 9 10 ?_ rfl rfl (Or.inl ⟨by rfl,?_⟩) hHeld ?_
   rotate_left
   ·intro w' hSw
    have s0:=hSw.1
    have s1:=hSw.2
    go_simp
    try with_reducible rfl
   go_frame
   refine Gen.tk 10 13 ?_ rfl rfl (Or.inl ⟨by rfl,?_⟩) hHeld ?_
   rotate_left
   ·intro w' hSw
    have s0:=hSw.1
    have s1:=hSw.2
    go_simp
    try with_reducible rfl
   go_frame
   refine Gen.tk 11 14 ?_ rfl rfl (Or.inl ⟨by rfl,?_⟩) hHeld ?_
   rotate_left
   ·intro w' hSw
    have s0:=hSw.1
    have s1:=hSw.2
    go_simp
    try with_reducible rfl
   go_frame
   have pf0:=pf 0
   have pf1:=pf 1
   clear pf
   refine Gen.one (i:=13) (by kernel_rfl) rfl rfl (fun K hK=>?_)
   go_simp
   have hbs:Below w.heap.size w ((w4.setCell ⟨p,0,none⟩ (.string dd)).setCell ⟨p,1,none⟩ (.int .i64 y)):=(hbw4.setCell (p:=⟨p,0,none⟩) hpB _).setCell (p:=⟨p,1,none⟩) hpB _
   have t0:((w4.setCell ⟨p,0,none⟩ (.string dd)).setCell ⟨p,1,none⟩ (.int .i64 y)).cell? ⟨p,0,none⟩=some (.string dd):=by
    rw[World.cell?_setCell_other _ _ _ _ (by intro q;injection q with _ q;cases q)]
    exact World.cell?_setCell_same _ _ _ p0
   have t1:((w4.setCell ⟨p,0,none⟩ (.string dd)).setCell ⟨p,1,none⟩ (.int .i64 y)).cell? ⟨p,1,none⟩=some (.int .i64 y):=World.cell?_setCell_same _ _ _ ((World.cell?_setCell_other _ _ _ _ (by intro q;injection q with _ q;cases q)).trans p1)
   refine hK.out _ _ ⟨HD.out _ hbs,trivial⟩ (fun hHeld=>?_)
   clear hK K p0 p1 pf0 pf1
   try go_frame
   generalize (w4.setCell ⟨p,0,none⟩ (.string dd)).setCell ⟨p,1,none⟩ (.int .i64 y)=w6 at *
   refine Gen.last (i:=14) (by kernel_rfl) rfl rfl (by kernel_rfl) (by kernel_rfl) (fun K hK=>?_)
   go_simp
   refine hK.out _ _ ?_
   clear hK K hHeld
   have hch:=HC.out n w6 hbs
   have hp6:p<w6.heap.size:=by
    unfold World.cell? at t0
    cases hq:w6.heap[p]? with
    | none=>simp[hq] at t0
    | some o=>exact(Array.getElem?_eq_some_iff.1 hq).1
   go_wp2_with fail
   refine hch.mono ?_
   rintro e w7 ⟨he,hb7⟩
   have hbw7:Below w.heap.size w w7:=hbs.trans (hb7.mono hbs.size)
   by_cases hn:n=0
   ·rw[if_pos hn] at he
    subst he
    subst hn
    have hs:=HS.out dd y w7 HR.out hbw7
    have t0:=(hb7.cell (p:=⟨p,0,none⟩) hp6).trans t0
    have t1:=(hb7.cell (p:=⟨p,1,none⟩) hp6).trans t1
    clear hch HY HC HS HM HO HN hb7
    go_wp2_with fail
    refine hs.mono ?_
    rintro e w8 ⟨t,rfl,hp⟩
    have HP:Hid (Post (.returned (.string t)) w8):=hp
    clear hs hp
    go_wp2_with fail
    exact HP.out
   ·rw[if_neg hn] at he
    subst he
    have HP:Hid (Post (thrown n) w7):=HY.out n dd y w7 HR.out hn hbw7
    clear hch HY HC HS HM HO HN hb7 hn
    go_wp2_with fail
    exact⟨rfl,HP.out⟩
 ·go_simp
  have hbw2':Below w1.heap.size w1 (w1.alloc (.cells #[.string ⟨#[]⟩,.int .i64 0] 41)):=(Below.refl _ _).alloc (Nat.le_refl _) _
  have p0:(w1.alloc (.cells #[.string ⟨#[]⟩,.int .i64 0] 41)).cell? ⟨w1.heap.size,0,none⟩=some (.string ⟨#[]⟩):=by simp
  have p1:(w1.alloc (.cells #[.string ⟨#[]⟩,.int .i64 0] 41)).cell? ⟨w1.heap.size,1,none⟩=some (.int .i64 0):=by simp
  have pf:∀ i,(w1.alloc (.cells #[.string ⟨#[]⟩,.int .i64 0] 41)).frozen? ⟨w1.heap.size,i,none⟩=false:=fun i=>by simp
  have pl:w1.heap.size<(w1.alloc (.cells #[.string ⟨#[]⟩,.int .i64 0] 41)).heap.size:=by simp
  refine hK.out _ _ ⟨HD.out _ (hbw1.trans (hbw2'.mono hbw1.size)),trivial⟩ (fun hHeld=>?_)
  clear hK K
  try go_frame
  have hpB:w.heap.size≤w1.heap.size:=hbw1.size
  generalize w1.alloc (.cells #[.string ⟨#[]⟩,.int .i64 0] 41)=w2 at *
  generalize w1.heap.size=p at *
  have hbw2:Below w.heap.size w w2:=hbw1.trans (hbw2'.mono hpB)
  refine Gen.one (i:=5) (by kernel_rfl) rfl rfl (fun K hK=>?_)
  go_simp
  refine(HM.out w2 hbw2).mono ?_
  rintro e w3 ⟨hb,(⟨hn,rfl⟩|⟨l,v2,hn,rfl,hv2⟩)⟩
  ·have HP:Hid (Post (thrown 3) w3):=HN.out hn w3 (hbw2.trans (hb.mono hbw2.size))
   clear HM HO HC HN HY HS hn hHeld hK
   dsimp only
   exact⟨rfl,HP.out⟩
  obtain⟨a,rfl⟩:=nums_one hn
  obtain⟨g,cc,rfl,hcell⟩:=int_cells hv2 (by simp)
  have ha:w3.cell? ⟨g,0,none⟩=some (.int .i64 a):=hcell 0 (by simp)
  have HA:Hid (numsOf ws 1=some [a]):=hn
  have hlg:g<w3.heap.size:=(World.ownsRow.lt hv2 g rfl).2
  have hbw3:Below w.heap.size w w3:=hbw2.trans (hb.mono hbw2.size)
  have hbn:=hb
  clear hcell hv2 hn hb
  dsimp only
  refine hK.out _ _ ⟨HD.out _ hbw3,trivial⟩ (fun hHeld=>?_)
  clear hK K
  try go_frame
  have p0:=(hbn.cell (p:=⟨p,0,none⟩) pl).trans p0
  have p1:=(hbn.cell (p:=⟨p,1,none⟩) pl).trans p1
  have pf:∀ i,w3.frozen? ⟨p,i,none⟩=false:=fun i=>(hbn.frozen (p:=⟨p,i,none⟩) pl).trans (pf i)
  have pl:p<w3.heap.size:=Nat.lt_of_lt_of_le pl hbn.size
  refine Gen.tk 6 7 ?_ rfl rfl (Or.inl ⟨by rfl,?_⟩) hHeld ?_
  rotate_left
  ·intro w' hSw
   have s0:=hSw.1
   have s1:=hSw.2
   go_simp
   try with_reducible rfl
  go_frame
  refine Gen.one (i:=7) (by kernel_rfl) rfl rfl (fun K hK=>?_)
  go_simp
  refine hK.out _ _ ⟨hHeld.1,trivial⟩ (fun hHeld=>?_)
  clear hK K
  try go_frame
  refine Gen.one (i:=8) (by kernel_rfl) rfl rfl (fun K hK=>?_)
  go_simp
  refine(HO.out w3 a hbw3 HA.out).mono ?_
  rintro e w4 ⟨⟨n,dd,y,rfl,hr⟩,hb⟩
  have HR:Hid (R n dd y):=hr
  have hbw4:Below w.heap.size w w4:=hbw3.trans (hb.mono hbw3.size)
  have hbv:=hb
  clear hr hb
  dsimp only
  refine hK.out _ _ ⟨HD.out _ hbw4,trivial⟩ (fun hHeld=>?_)
  clear hK K
  try go_frame
  have p0:=(hbv.cell (p:=⟨p,0,none⟩) pl).trans p0
  have p1:=(hbv.cell (p:=⟨p,1,none⟩) pl).trans p1
  have pf:∀ i,w4.frozen? ⟨p,i,none⟩=false:=fun i=>(hbv.frozen (p:=⟨p,i,none⟩) pl).trans (pf i)
  have pl:p<w4.heap.size:=Nat.lt_of_lt_of_le pl hbv.size
  refine Gen.tk 9 10 ?_ rfl rfl (Or.inl ⟨by rfl,?_⟩) hHeld ?_
  rotate_left
  ·intro w' hSw
   have s0:=hSw.1
   have s1:=hSw.2
   go_simp
   try with_reducible rfl
  go_frame
  refine Gen.tk 10 13 ?_ rfl rfl (Or.inl ⟨by rfl,?_⟩) hHeld ?_
  rotate_left
  ·intro w' hSw
   have s0:=hSw.1
   have s1:=hSw.2
   go_simp
   try with_reducible rfl
  go_frame
  refine Gen.tk 11 14 ?_ rfl rfl (Or.inl ⟨by rfl,?_⟩) hHeld ?_
  rotate_left
  ·intro w' hSw
   have s0:=hSw.1
   have s1:=hSw.2
   go_simp
   try with_reducible rfl
  go_frame
  have pf0:=pf 0
  have pf1:=pf 1
  clear pf
  refine Gen.one (i:=13) (by kernel_rfl) rfl rfl (fun K hK=>?_)
  go_simp
  have hbs:Below w.heap.size w ((w4.setCell ⟨p,0,none⟩ (.string dd)).setCell ⟨p,1,none⟩ (.int .i64 y)):=(hbw4.setCell (p:=⟨p,0,none⟩) hpB _).setCell (p:=⟨p,1,none⟩) hpB _
  have t0:((w4.setCell ⟨p,0,none⟩ (.string dd)).setCell ⟨p,1,none⟩ (.int .i64 y)).cell? ⟨p,0,none⟩=some (.string dd):=by
   rw[World.cell?_setCell_other _ _ _ _ (by intro q;injection q with _ q;cases q)]
   exact World.cell?_setCell_same _ _ _ p0
  have t1:((w4.setCell ⟨p,0,none⟩ (.string dd)).setCell ⟨p,1,none⟩ (.int .i64 y)).cell? ⟨p,1,none⟩=some (.int .i64 y):=World.cell?_setCell_same _ _ _ ((World.cell?_setCell_other _ _ _ _ (by intro q;injection q with _ q;cases q)).trans p1)
  refine hK.out _ _ ⟨HD.out _ hbs,trivial⟩ (fun hHeld=>?_)
  clear hK K p0 p1 pf0 pf1
  try go_frame
  generalize (w4.setCell ⟨p,0,none⟩ (.string dd)).setCell ⟨p,1,none⟩ (.int .i64 y)=w6 at *
  refine Gen.last (i:=14) (by kernel_rfl) rfl rfl (by kernel_rfl) (by kernel_rfl) (fun K hK=>?_)
  go_simp
  refine hK.out _ _ ?_
  clear hK K hHeld
  have hch:=HC.out n w6 hbs
  have hp6:p<w6.heap.size:=by
   unfold World.cell? at t0
   cases hq:w6.heap[p]? with
   | none=>simp[hq] at t0
   | some o=>exact(Array.getElem?_eq_some_iff.1 hq).1
  go_wp2_with fail
  refine hch.mono ?_
  rintro e w7 ⟨he,hb7⟩
  have hbw7:Below w.heap.size w w7:=hbs.trans (hb7.mono hbs.size)
  by_cases hn:n=0
  ·rw[if_pos hn] at he
   subst he
   subst hn
   have hs:=HS.out dd y w7 HR.out hbw7
   have t0:=(hb7.cell (p:=⟨p,0,none⟩) hp6).trans t0
   have t1:=(hb7.cell (p:=⟨p,1,none⟩) hp6).trans t1
   clear hch HY HC HS HM HO HN hb7
   go_wp2_with fail
   refine hs.mono ?_
   rintro e w8 ⟨t,rfl,hp⟩
   have HP:Hid (Post (.returned (.string t)) w8):=hp
   clear hs hp
   go_wp2_with fail
   exact HP.out
  ·rw[if_neg hn] at he
   subst he
   have HP:Hid (Post (thrown n) w7):=HY.out n dd y w7 HR.out hn hbw7
   clear hch HY HC HS HM HO HN hb7 hn
   go_wp2_with fail
   exact⟨rfl,HP.out⟩
end Wld
end
end Go.Proofs.YtbebfliimjjohabGreatDoor
