/- Parts of the proof. -/
import Derived.Test.YtbebfliimjjohabGreatDoorLd37
import Derived.Test.YtbebfliimjjohabGreatDoorLd01
import Derived.Test.YtbebfliimjjohabGreatDoorLd06
import Derived.Maps.RangeWalk
set_option maxRecDepth 100000
set_option maxHeartbeats 8000000
namespace Go.Proofs.YtbebfliimjjohabGreatDoor
section
namespace Wld
open Go.RowKit Go.Maps
open Cache (tp)
open Lease (HasI)
theorem below_drew(w:World):Below w.heap.size w w.drew:=(Below.refl _ _).drew
theorem nums_one{ws:List ByteArray}{l:List Int}(h:numsOf ws 1=some l):∃ a,l = [a]:=by
 unfold numsOf at h
 split at h
 ·rename_i h1
  have h2:=numsW_len _ _ h
  match l,h2 with
  | [a],_=>exact⟨a,rfl⟩
  | [],h2=>simp at h2;omega
  | _ :: _ :: _,h2=>simp at h2;omega
 ·cases h
theorem again_walk(d q:Nat)(v:Value)(ws:List ByteArray)(w:World)(R R':Int→World→Prop)(Post:Ending→World→Prop)(hd:d<w.heap.size)(c0:w.cell? ⟨d,0,none⟩=some (tp q))
  (hnum:∀ w1,Below w.heap.size w w1→Calls Tryz.prog 145 #[v,.int .i64 1] w1 (NumsPost ws 1 w1))
  (hop:∀ w2 a,Below w.heap.size w w2→numsOf ws 1=some [a]→Calls Tryz.prog 25 #[tp q,.int .i64 a] w2 (fun e w3=>∃ n,e = .returned (eV n)∧R n w3))
  (hR:∀ n w3,R n w3→w3.cell? ⟨d,0,none⟩=some (tp q))
  (hch:∀ n w3,R n w3→Calls Tryz.prog 144 #[eV n] w3 (fun e w4=>e=(if n=0 then .returned (.tuple #[]) else thrown n)∧R' n w4))
  (hno:numsOf ws 1=none→∀ w2,Below w.heap.size w w2→Post (thrown 3) w2)
  (hyes:∀ n w4,R' n w4→Post (if n=0 then .returned (.string ⟨#[97,103,97,105,110]⟩) else thrown n) w4) :
  Calls Tryz.prog 79 #[tp d,v] w Post:=by
 have hnum:=hnum w.drew (below_drew w)
 have HO:Hid (∀ w2 a,Below w.heap.size w w2→numsOf ws 1=some [a]→Calls Tryz.prog 25 #[tp q,.int .i64 a] w2 (fun e w3=>∃ n,e = .returned (eV n)∧R n w3)):=hop
 have HC:Hid (∀ n w3,R n w3→Calls Tryz.prog 144 #[eV n] w3 (fun e w4=>e=(if n=0 then .returned (.tuple #[]) else thrown n)∧R' n w4)):=hch
 have HR:Hid (∀ n w3,R n w3→w3.cell? ⟨d,0,none⟩=some (tp q)):=hR
 have HN:Hid (numsOf ws 1=none→∀ w2,Below w.heap.size w w2→Post (thrown 3) w2):=hno
 have HY:Hid (∀ n w4,R' n w4→Post (if n=0 then .returned (.string ⟨#[97,103,97,105,110]⟩) else thrown n) w4):=hyes
 clear hop hch hR hno hyes
 go_enter Tryz.func79,Tryz.ntmps79
 go_upto_region 1 with fail
 refine Gen.start (S:=fun w'=>w'.cell? ⟨d,0,none⟩=some (tp q)) (by kernel_rfl) c0 (fun hHeld=>?_)
 refine Gen.tk 0 1 ?_ rfl rfl (Or.inl ⟨by rfl,?_⟩) hHeld ?_
 rotate_left
 ·intro w' hSw
  have s0:=hSw
  go_simp
  try with_reducible rfl
 go_frame
 refine Gen.tk 1 2 ?_ rfl rfl (Or.inl ⟨by rfl,?_⟩) hHeld ?_
 rotate_left
 ·intro w' hSw
  have s0:=hSw
  go_simp
  try with_reducible rfl
 go_frame
 refine Gen.tk 2 3 ?_ rfl rfl (Or.inl ⟨by rfl,?_⟩) hHeld ?_
 rotate_left
 ·intro w' hSw
  have s0:=hSw
  go_simp
  try with_reducible rfl
 go_frame
 refine Gen.tk 3 8 ?_ rfl rfl (Or.inl ⟨by rfl,?_⟩) hHeld ?_
 rotate_left
 ·intro w' hSw
  have s0:=hSw
  go_simp
  try with_reducible rfl
 go_frame
 refine Gen.tk 4 5 ?_ rfl rfl (Or.inl ⟨by rfl,?_⟩) hHeld ?_
 rotate_left
 ·intro w' hSw
  have s0:=hSw
  go_simp
  try with_reducible rfl
 go_frame
 refine Gen.one (i:=5) (by kernel_rfl) rfl rfl (fun K hK=>?_)
 go_simp
 refine hnum.mono ?_
 rintro e w2 ⟨hb,(⟨hn,rfl⟩|⟨l,v2,hn,rfl,hv2⟩)⟩
 ·have HP:Hid (Post (thrown 3) w2):=HN.out hn w2 ((below_drew w).trans hb)
  clear hnum HO HC HR HN HY hn hHeld hK
  dsimp only
  first|exact HP.out|exact⟨rfl,HP.out⟩|skip
 obtain⟨a,rfl⟩:=nums_one hn
 have hb2:Below w.heap.size w w2:=(below_drew w).trans hb
 have s2:w2.cell? ⟨d,0,none⟩=some (tp q):=(hb2.cell (p:=⟨d,0,none⟩) hd).trans c0
 have hop:=HO.out w2 a hb2 hn
 obtain⟨ao,cc,hao,hcells⟩:=hv2.shape
 obtain⟨g,hg,hcell⟩:=hcells (by simp)
 subst hg
 subst hao
 have ha:w2.cell? ⟨g,0,none⟩=some (.int .i64 a):=hcell 0 (by simp)
 clear hcells hcell hv2 hn HO HN hnum
 dsimp only
 refine hK.out _ _ s2 (fun hHeld=>?_)
 clear hK K
 try go_frame
 refine Gen.one (i:=6) (by kernel_rfl) rfl rfl (fun K hK=>?_)
 go_simp
 refine hK.out _ _ s2 (fun hHeld=>?_)
 clear hK K
 try go_frame
 refine Gen.one (i:=7) (by kernel_rfl) rfl rfl (fun K hK=>?_)
 go_simp
 refine hK.out _ _ s2 (fun hHeld=>?_)
 clear hK K
 try go_frame
 refine Gen.one (i:=8) (by kernel_rfl) rfl rfl (fun K hK=>?_)
 go_simp
 refine hop.mono ?_
 rintro e w3 ⟨n,rfl,hr⟩
 have s3:=HR.out n w3 hr
 have hch:=HC.out n w3 hr
 clear hop HC HR hr
 dsimp only
 refine hK.out _ _ s3 (fun hHeld=>?_)
 clear hK K
 try go_frame
 refine Gen.last (i:=9) (by kernel_rfl) rfl rfl (by kernel_rfl) (by kernel_rfl) (fun K hK=>?_)
 go_simp
 refine hch.mono ?_
 rintro e w4 ⟨he,hr'⟩
 have hy:=HY.out n w4 hr'
 by_cases hn:n=0
 ·rw[if_pos hn] at he hy
  subst he
  have HP:Hid (Post (.returned (.string ⟨#[97,103,97,105,110]⟩)) w4):=hy
  clear hch HY hy hr' hn
  dsimp only
  refine hK.out _ _ ?_
  clear hK K
  go_wp2_with fail
  exact HP.out
 ·rw[if_neg hn] at he hy
  subst he
  have HP:Hid (Post (thrown n) w4):=hy
  clear hch HY hy hr' hn
  dsimp only
  first|exact HP.out|exact⟨rfl,HP.out⟩
theorem deliver_walk(d q:Nat)(v:Value)(ws:List ByteArray)(w:World)(R R':Int→World→Prop)(Post:Ending→World→Prop)(hd:d<w.heap.size)(c0:w.cell? ⟨d,0,none⟩=some (tp q))
  (hnum:∀ w1,Below w.heap.size w w1→Calls Tryz.prog 145 #[v,.int .i64 1] w1 (NumsPost ws 1 w1))
  (hop:∀ w2 a,Below w.heap.size w w2→numsOf ws 1=some [a]→Calls Tryz.prog 26 #[tp q,.int .i64 a] w2 (fun e w3=>∃ n,e = .returned (eV n)∧R n w3))
  (hR:∀ n w3,R n w3→w3.cell? ⟨d,0,none⟩=some (tp q))
  (hch:∀ n w3,R n w3→Calls Tryz.prog 144 #[eV n] w3 (fun e w4=>e=(if n=0 then .returned (.tuple #[]) else thrown n)∧R' n w4))
  (hno:numsOf ws 1=none→∀ w2,Below w.heap.size w w2→Post (thrown 3) w2)
  (hyes:∀ n w4,R' n w4→Post (if n=0 then .returned (.string ⟨#[100,101,108,105,118,101,114]⟩) else thrown n) w4) :
  Calls Tryz.prog 84 #[tp d,v] w Post:=by
 have hnum:=hnum w.drew (below_drew w)
 have HO:Hid (∀ w2 a,Below w.heap.size w w2→numsOf ws 1=some [a]→Calls Tryz.prog 26 #[tp q,.int .i64 a] w2 (fun e w3=>∃ n,e = .returned (eV n)∧R n w3)):=hop
 have HC:Hid (∀ n w3,R n w3→Calls Tryz.prog 144 #[eV n] w3 (fun e w4=>e=(if n=0 then .returned (.tuple #[]) else thrown n)∧R' n w4)):=hch
 have HR:Hid (∀ n w3,R n w3→w3.cell? ⟨d,0,none⟩=some (tp q)):=hR
 have HN:Hid (numsOf ws 1=none→∀ w2,Below w.heap.size w w2→Post (thrown 3) w2):=hno
 have HY:Hid (∀ n w4,R' n w4→Post (if n=0 then .returned (.string ⟨#[100,101,108,105,118,101,114]⟩) else thrown n) w4):=hyes
 clear hop hch hR hno hyes
 go_enter Tryz.func84,Tryz.ntmps84
 go_upto_region 1 with fail
 refine Gen.start (S:=fun w'=>w'.cell? ⟨d,0,none⟩=some (tp q)) (by kernel_rfl) c0 (fun hHeld=>?_)
 refine Gen.tk 0 1 ?_ rfl rfl (Or.inl ⟨by rfl,?_⟩) hHeld ?_
 rotate_left
 ·intro w' hSw
  have s0:=hSw
  go_simp
  try with_reducible rfl
 go_frame
 refine Gen.tk 1 2 ?_ rfl rfl (Or.inl ⟨by rfl,?_⟩) hHeld ?_
 rotate_left
 ·intro w' hSw
  have s0:=hSw
  go_simp
  try with_reducible rfl
 go_frame
 refine Gen.tk 2 3 ?_ rfl rfl (Or.inl ⟨by rfl,?_⟩) hHeld ?_
 rotate_left
 ·intro w' hSw
  have s0:=hSw
  go_simp
  try with_reducible rfl
 go_frame
 refine Gen.tk 3 8 ?_ rfl rfl (Or.inl ⟨by rfl,?_⟩) hHeld ?_
 rotate_left
 ·intro w' hSw
  have s0:=hSw
  go_simp
  try with_reducible rfl
 go_frame
 refine Gen.tk 4 5 ?_ rfl rfl (Or.inl ⟨by rfl,?_⟩) hHeld ?_
 rotate_left
 ·intro w' hSw
  have s0:=hSw
  go_simp
  try with_reducible rfl
 go_frame
 refine Gen.one (i:=5) (by kernel_rfl) rfl rfl (fun K hK=>?_)
 go_simp
 refine hnum.mono ?_
 rintro e w2 ⟨hb,(⟨hn,rfl⟩|⟨l,v2,hn,rfl,hv2⟩)⟩
 ·have HP:Hid (Post (thrown 3) w2):=HN.out hn w2 ((below_drew w).trans hb)
  clear hnum HO HC HR HN HY hn hHeld hK
  dsimp only
  first|exact HP.out|exact⟨rfl,HP.out⟩|skip
 obtain⟨a,rfl⟩:=nums_one hn
 have hb2:Below w.heap.size w w2:=(below_drew w).trans hb
 have s2:w2.cell? ⟨d,0,none⟩=some (tp q):=(hb2.cell (p:=⟨d,0,none⟩) hd).trans c0
 have hop:=HO.out w2 a hb2 hn
 obtain⟨ao,cc,hao,hcells⟩:=hv2.shape
 obtain⟨g,hg,hcell⟩:=hcells (by simp)
 subst hg
 subst hao
 have ha:w2.cell? ⟨g,0,none⟩=some (.int .i64 a):=hcell 0 (by simp)
 clear hcells hcell hv2 hn HO HN hnum
 dsimp only
 refine hK.out _ _ s2 (fun hHeld=>?_)
 clear hK K
 try go_frame
 refine Gen.one (i:=6) (by kernel_rfl) rfl rfl (fun K hK=>?_)
 go_simp
 refine hK.out _ _ s2 (fun hHeld=>?_)
 clear hK K
 try go_frame
 refine Gen.one (i:=7) (by kernel_rfl) rfl rfl (fun K hK=>?_)
 go_simp
 refine hK.out _ _ s2 (fun hHeld=>?_)
 clear hK K
 try go_frame
 refine Gen.one (i:=8) (by kernel_rfl) rfl rfl (fun K hK=>?_)
 go_simp
 refine hop.mono ?_
 rintro e w3 ⟨n,rfl,hr⟩
 have s3:=HR.out n w3 hr
 have hch:=HC.out n w3 hr
 clear hop HC HR hr
 dsimp only
 refine hK.out _ _ s3 (fun hHeld=>?_)
 clear hK K
 try go_frame
 refine Gen.last (i:=9) (by kernel_rfl) rfl rfl (by kernel_rfl) (by kernel_rfl) (fun K hK=>?_)
 go_simp
 refine hch.mono ?_
 rintro e w4 ⟨he,hr'⟩
 have hy:=HY.out n w4 hr'
 by_cases hn:n=0
 ·rw[if_pos hn] at he hy
  subst he
  have HP:Hid (Post (.returned (.string ⟨#[100,101,108,105,118,101,114]⟩)) w4):=hy
  clear hch HY hy hr' hn
  dsimp only
  refine hK.out _ _ ?_
  clear hK K
  go_wp2_with fail
  exact HP.out
 ·rw[if_neg hn] at he hy
  subst he
  have HP:Hid (Post (thrown n) w4):=hy
  clear hch HY hy hr' hn
  dsimp only
  first|exact HP.out|exact⟨rfl,HP.out⟩
theorem lose_walk(d q:Nat)(v:Value)(ws:List ByteArray)(w:World)(R R':Int→World→Prop)(Post:Ending→World→Prop)(hd:d<w.heap.size)(c0:w.cell? ⟨d,0,none⟩=some (tp q))
  (hnum:∀ w1,Below w.heap.size w w1→Calls Tryz.prog 145 #[v,.int .i64 1] w1 (NumsPost ws 1 w1))
  (hop:∀ w2 a,Below w.heap.size w w2→numsOf ws 1=some [a]→Calls Tryz.prog 27 #[tp q,.int .i64 a] w2 (fun e w3=>∃ n,e = .returned (eV n)∧R n w3))
  (hR:∀ n w3,R n w3→w3.cell? ⟨d,0,none⟩=some (tp q))
  (hch:∀ n w3,R n w3→Calls Tryz.prog 144 #[eV n] w3 (fun e w4=>e=(if n=0 then .returned (.tuple #[]) else thrown n)∧R' n w4))
  (hno:numsOf ws 1=none→∀ w2,Below w.heap.size w w2→Post (thrown 3) w2)
  (hyes:∀ n w4,R' n w4→Post (if n=0 then .returned (.string ⟨#[108,111,115,101]⟩) else thrown n) w4) :
  Calls Tryz.prog 88 #[tp d,v] w Post:=by
 have hnum:=hnum w.drew (below_drew w)
 have HO:Hid (∀ w2 a,Below w.heap.size w w2→numsOf ws 1=some [a]→Calls Tryz.prog 27 #[tp q,.int .i64 a] w2 (fun e w3=>∃ n,e = .returned (eV n)∧R n w3)):=hop
 have HC:Hid (∀ n w3,R n w3→Calls Tryz.prog 144 #[eV n] w3 (fun e w4=>e=(if n=0 then .returned (.tuple #[]) else thrown n)∧R' n w4)):=hch
 have HR:Hid (∀ n w3,R n w3→w3.cell? ⟨d,0,none⟩=some (tp q)):=hR
 have HN:Hid (numsOf ws 1=none→∀ w2,Below w.heap.size w w2→Post (thrown 3) w2):=hno
 have HY:Hid (∀ n w4,R' n w4→Post (if n=0 then .returned (.string ⟨#[108,111,115,101]⟩) else thrown n) w4):=hyes
 clear hop hch hR hno hyes
 go_enter Tryz.func88,Tryz.ntmps88
 go_upto_region 1 with fail
 refine Gen.start (S:=fun w'=>w'.cell? ⟨d,0,none⟩=some (tp q)) (by kernel_rfl) c0 (fun hHeld=>?_)
 refine Gen.tk 0 1 ?_ rfl rfl (Or.inl ⟨by rfl,?_⟩) hHeld ?_
 rotate_left
 ·intro w' hSw
  have s0:=hSw
  go_simp
  try with_reducible rfl
 go_frame
 refine Gen.tk 1 2 ?_ rfl rfl (Or.inl ⟨by rfl,?_⟩) hHeld ?_
 rotate_left
 ·intro w' hSw
  have s0:=hSw
  go_simp
  try with_reducible rfl
 go_frame
 refine Gen.tk 2 3 ?_ rfl rfl (Or.inl ⟨by rfl,?_⟩) hHeld ?_
 rotate_left
 ·intro w' hSw
  have s0:=hSw
  go_simp
  try with_reducible rfl
 go_frame
 refine Gen.tk 3 8 ?_ rfl rfl (Or.inl ⟨by rfl,?_⟩) hHeld ?_
 rotate_left
 ·intro w' hSw
  have s0:=hSw
  go_simp
  try with_reducible rfl
 go_frame
 refine Gen.tk 4 5 ?_ rfl rfl (Or.inl ⟨by rfl,?_⟩) hHeld ?_
 rotate_left
 ·intro w' hSw
  have s0:=hSw
  go_simp
  try with_reducible rfl
 go_frame
 refine Gen.one (i:=5) (by kernel_rfl) rfl rfl (fun K hK=>?_)
 go_simp
 refine hnum.mono ?_
 rintro e w2 ⟨hb,(⟨hn,rfl⟩|⟨l,v2,hn,rfl,hv2⟩)⟩
 ·have HP:Hid (Post (thrown 3) w2):=HN.out hn w2 ((below_drew w).trans hb)
  clear hnum HO HC HR HN HY hn hHeld hK
  dsimp only
  first|exact HP.out|exact⟨rfl,HP.out⟩|skip
 obtain⟨a,rfl⟩:=nums_one hn
 have hb2:Below w.heap.size w w2:=(below_drew w).trans hb
 have s2:w2.cell? ⟨d,0,none⟩=some (tp q):=(hb2.cell (p:=⟨d,0,none⟩) hd).trans c0
 have hop:=HO.out w2 a hb2 hn
 obtain⟨ao,cc,hao,hcells⟩:=hv2.shape
 obtain⟨g,hg,hcell⟩:=hcells (by simp)
 subst hg
 subst hao
 have ha:w2.cell? ⟨g,0,none⟩=some (.int .i64 a):=hcell 0 (by simp)
 clear hcells hcell hv2 hn HO HN hnum
 dsimp only
 refine hK.out _ _ s2 (fun hHeld=>?_)
 clear hK K
 try go_frame
 refine Gen.one (i:=6) (by kernel_rfl) rfl rfl (fun K hK=>?_)
 go_simp
 refine hK.out _ _ s2 (fun hHeld=>?_)
 clear hK K
 try go_frame
 refine Gen.one (i:=7) (by kernel_rfl) rfl rfl (fun K hK=>?_)
 go_simp
 refine hK.out _ _ s2 (fun hHeld=>?_)
 clear hK K
 try go_frame
 refine Gen.one (i:=8) (by kernel_rfl) rfl rfl (fun K hK=>?_)
 go_simp
 refine hop.mono ?_
 rintro e w3 ⟨n,rfl,hr⟩
 have s3:=HR.out n w3 hr
 have hch:=HC.out n w3 hr
 clear hop HC HR hr
 dsimp only
 refine hK.out _ _ s3 (fun hHeld=>?_)
 clear hK K
 try go_frame
 refine Gen.last (i:=9) (by kernel_rfl) rfl rfl (by kernel_rfl) (by kernel_rfl) (fun K hK=>?_)
 go_simp
 refine hch.mono ?_
 rintro e w4 ⟨he,hr'⟩
 have hy:=HY.out n w4 hr'
 by_cases hn:n=0
 ·rw[if_pos hn] at he hy
  subst he
  have HP:Hid (Post (.returned (.string ⟨#[108,111,115,101]⟩)) w4):=hy
  clear hch HY hy hr' hn
  dsimp only
  refine hK.out _ _ ?_
  clear hK K
  go_wp2_with fail
  exact HP.out
 ·rw[if_neg hn] at he hy
  subst he
  have HP:Hid (Post (thrown n) w4):=hy
  clear hch HY hy hr' hn
  dsimp only
  first|exact HP.out|exact⟨rfl,HP.out⟩
theorem twice_walk(d q:Nat)(v:Value)(ws:List ByteArray)(w:World)(R R':Int→World→Prop)(Post:Ending→World→Prop)(hd:d<w.heap.size)(c0:w.cell? ⟨d,0,none⟩=some (tp q))
  (hnum:∀ w1,Below w.heap.size w w1→Calls Tryz.prog 145 #[v,.int .i64 1] w1 (NumsPost ws 1 w1))
  (hop:∀ w2 a,Below w.heap.size w w2→numsOf ws 1=some [a]→Calls Tryz.prog 28 #[tp q,.int .i64 a] w2 (fun e w3=>∃ n,e = .returned (eV n)∧R n w3))
  (hR:∀ n w3,R n w3→w3.cell? ⟨d,0,none⟩=some (tp q))
  (hch:∀ n w3,R n w3→Calls Tryz.prog 144 #[eV n] w3 (fun e w4=>e=(if n=0 then .returned (.tuple #[]) else thrown n)∧R' n w4))
  (hno:numsOf ws 1=none→∀ w2,Below w.heap.size w w2→Post (thrown 3) w2)
  (hyes:∀ n w4,R' n w4→Post (if n=0 then .returned (.string ⟨#[116,119,105,99,101]⟩) else thrown n) w4) :
  Calls Tryz.prog 94 #[tp d,v] w Post:=by
 have hnum:=hnum w.drew (below_drew w)
 have HO:Hid (∀ w2 a,Below w.heap.size w w2→numsOf ws 1=some [a]→Calls Tryz.prog 28 #[tp q,.int .i64 a] w2 (fun e w3=>∃ n,e = .returned (eV n)∧R n w3)):=hop
 have HC:Hid (∀ n w3,R n w3→Calls Tryz.prog 144 #[eV n] w3 (fun e w4=>e=(if n=0 then .returned (.tuple #[]) else thrown n)∧R' n w4)):=hch
 have HR:Hid (∀ n w3,R n w3→w3.cell? ⟨d,0,none⟩=some (tp q)):=hR
 have HN:Hid (numsOf ws 1=none→∀ w2,Below w.heap.size w w2→Post (thrown 3) w2):=hno
 have HY:Hid (∀ n w4,R' n w4→Post (if n=0 then .returned (.string ⟨#[116,119,105,99,101]⟩) else thrown n) w4):=hyes
 clear hop hch hR hno hyes
 go_enter Tryz.func94,Tryz.ntmps94
 go_upto_region 1 with fail
 refine Gen.start (S:=fun w'=>w'.cell? ⟨d,0,none⟩=some (tp q)) (by kernel_rfl) c0 (fun hHeld=>?_)
 refine Gen.tk 0 1 ?_ rfl rfl (Or.inl ⟨by rfl,?_⟩) hHeld ?_
 rotate_left
 ·intro w' hSw
  have s0:=hSw
  go_simp
  try with_reducible rfl
 go_frame
 refine Gen.tk 1 2 ?_ rfl rfl (Or.inl ⟨by rfl,?_⟩) hHeld ?_
 rotate_left
 ·intro w' hSw
  have s0:=hSw
  go_simp
  try with_reducible rfl
 go_frame
 refine Gen.tk 2 3 ?_ rfl rfl (Or.inl ⟨by rfl,?_⟩) hHeld ?_
 rotate_left
 ·intro w' hSw
  have s0:=hSw
  go_simp
  try with_reducible rfl
 go_frame
 refine Gen.tk 3 8 ?_ rfl rfl (Or.inl ⟨by rfl,?_⟩) hHeld ?_
 rotate_left
 ·intro w' hSw
  have s0:=hSw
  go_simp
  try with_reducible rfl
 go_frame
 refine Gen.tk 4 5 ?_ rfl rfl (Or.inl ⟨by rfl,?_⟩) hHeld ?_
 rotate_left
 ·intro w' hSw
  have s0:=hSw
  go_simp
  try with_reducible rfl
 go_frame
 refine Gen.one (i:=5) (by kernel_rfl) rfl rfl (fun K hK=>?_)
 go_simp
 refine hnum.mono ?_
 rintro e w2 ⟨hb,(⟨hn,rfl⟩|⟨l,v2,hn,rfl,hv2⟩)⟩
 ·have HP:Hid (Post (thrown 3) w2):=HN.out hn w2 ((below_drew w).trans hb)
  clear hnum HO HC HR HN HY hn hHeld hK
  dsimp only
  first|exact HP.out|exact⟨rfl,HP.out⟩|skip
 obtain⟨a,rfl⟩:=nums_one hn
 have hb2:Below w.heap.size w w2:=(below_drew w).trans hb
 have s2:w2.cell? ⟨d,0,none⟩=some (tp q):=(hb2.cell (p:=⟨d,0,none⟩) hd).trans c0
 have hop:=HO.out w2 a hb2 hn
 obtain⟨ao,cc,hao,hcells⟩:=hv2.shape
 obtain⟨g,hg,hcell⟩:=hcells (by simp)
 subst hg
 subst hao
 have ha:w2.cell? ⟨g,0,none⟩=some (.int .i64 a):=hcell 0 (by simp)
 clear hcells hcell hv2 hn HO HN hnum
 dsimp only
 refine hK.out _ _ s2 (fun hHeld=>?_)
 clear hK K
 try go_frame
 refine Gen.one (i:=6) (by kernel_rfl) rfl rfl (fun K hK=>?_)
 go_simp
 refine hK.out _ _ s2 (fun hHeld=>?_)
 clear hK K
 try go_frame
 refine Gen.one (i:=7) (by kernel_rfl) rfl rfl (fun K hK=>?_)
 go_simp
 refine hK.out _ _ s2 (fun hHeld=>?_)
 clear hK K
 try go_frame
 refine Gen.one (i:=8) (by kernel_rfl) rfl rfl (fun K hK=>?_)
 go_simp
 refine hop.mono ?_
 rintro e w3 ⟨n,rfl,hr⟩
 have s3:=HR.out n w3 hr
 have hch:=HC.out n w3 hr
 clear hop HC HR hr
 dsimp only
 refine hK.out _ _ s3 (fun hHeld=>?_)
 clear hK K
 try go_frame
 refine Gen.last (i:=9) (by kernel_rfl) rfl rfl (by kernel_rfl) (by kernel_rfl) (fun K hK=>?_)
 go_simp
 refine hch.mono ?_
 rintro e w4 ⟨he,hr'⟩
 have hy:=HY.out n w4 hr'
 by_cases hn:n=0
 ·rw[if_pos hn] at he hy
  subst he
  have HP:Hid (Post (.returned (.string ⟨#[116,119,105,99,101]⟩)) w4):=hy
  clear hch HY hy hr' hn
  dsimp only
  refine hK.out _ _ ?_
  clear hK K
  go_wp2_with fail
  exact HP.out
 ·rw[if_neg hn] at he hy
  subst he
  have HP:Hid (Post (thrown n) w4):=hy
  clear hch HY hy hr' hn
  dsimp only
  first|exact HP.out|exact⟨rfl,HP.out⟩
theorem reborn_walk(d q:Nat)(v:Value)(ws:List ByteArray)(w:World)(R R':Int→World→Prop)(Post:Ending→World→Prop)(hd:d<w.heap.size)(c0:w.cell? ⟨d,0,none⟩=some (tp q))
  (hnum:∀ w1,Below w.heap.size w w1→Calls Tryz.prog 145 #[v,.int .i64 1] w1 (NumsPost ws 1 w1))
  (hop:∀ w2 a,Below w.heap.size w w2→numsOf ws 1=some [a]→Calls Tryz.prog 32 #[tp q,.int .i64 a] w2 (fun e w3=>∃ n,e = .returned (eV n)∧R n w3))
  (hR:∀ n w3,R n w3→w3.cell? ⟨d,0,none⟩=some (tp q))
  (hch:∀ n w3,R n w3→Calls Tryz.prog 144 #[eV n] w3 (fun e w4=>e=(if n=0 then .returned (.tuple #[]) else thrown n)∧R' n w4))
  (hno:numsOf ws 1=none→∀ w2,Below w.heap.size w w2→Post (thrown 3) w2)
  (hyes:∀ n w4,R' n w4→Post (if n=0 then .returned (.string ⟨#[114,101,98,111,114,110]⟩) else thrown n) w4) :
  Calls Tryz.prog 91 #[tp d,v] w Post:=by
 have hnum:=hnum w.drew (below_drew w)
 have HO:Hid (∀ w2 a,Below w.heap.size w w2→numsOf ws 1=some [a]→Calls Tryz.prog 32 #[tp q,.int .i64 a] w2 (fun e w3=>∃ n,e = .returned (eV n)∧R n w3)):=hop
 have HC:Hid (∀ n w3,R n w3→Calls Tryz.prog 144 #[eV n] w3 (fun e w4=>e=(if n=0 then .returned (.tuple #[]) else thrown n)∧R' n w4)):=hch
 have HR:Hid (∀ n w3,R n w3→w3.cell? ⟨d,0,none⟩=some (tp q)):=hR
 have HN:Hid (numsOf ws 1=none→∀ w2,Below w.heap.size w w2→Post (thrown 3) w2):=hno
 have HY:Hid (∀ n w4,R' n w4→Post (if n=0 then .returned (.string ⟨#[114,101,98,111,114,110]⟩) else thrown n) w4):=hyes
 clear hop hch hR hno hyes
 go_enter Tryz.func91,Tryz.ntmps91
 go_upto_region 1 with fail
 refine Gen.start (S:=fun w'=>w'.cell? ⟨d,0,none⟩=some (tp q)) (by kernel_rfl) c0 (fun hHeld=>?_)
 refine Gen.tk 0 1 ?_ rfl rfl (Or.inl ⟨by rfl,?_⟩) hHeld ?_
 rotate_left
 ·intro w' hSw
  have s0:=hSw
  go_simp
  try with_reducible rfl
 go_frame
 refine Gen.tk 1 2 ?_ rfl rfl (Or.inl ⟨by rfl,?_⟩) hHeld ?_
 rotate_left
 ·intro w' hSw
  have s0:=hSw
  go_simp
  try with_reducible rfl
 go_frame
 refine Gen.tk 2 3 ?_ rfl rfl (Or.inl ⟨by rfl,?_⟩) hHeld ?_
 rotate_left
 ·intro w' hSw
  have s0:=hSw
  go_simp
  try with_reducible rfl
 go_frame
 refine Gen.tk 3 8 ?_ rfl rfl (Or.inl ⟨by rfl,?_⟩) hHeld ?_
 rotate_left
 ·intro w' hSw
  have s0:=hSw
  go_simp
  try with_reducible rfl
 go_frame
 refine Gen.tk 4 5 ?_ rfl rfl (Or.inl ⟨by rfl,?_⟩) hHeld ?_
 rotate_left
 ·intro w' hSw
  have s0:=hSw
  go_simp
  try with_reducible rfl
 go_frame
 refine Gen.one (i:=5) (by kernel_rfl) rfl rfl (fun K hK=>?_)
 go_simp
 refine hnum.mono ?_
 rintro e w2 ⟨hb,(⟨hn,rfl⟩|⟨l,v2,hn,rfl,hv2⟩)⟩
 ·have HP:Hid (Post (thrown 3) w2):=HN.out hn w2 ((below_drew w).trans hb)
  clear hnum HO HC HR HN HY hn hHeld hK
  dsimp only
  first|exact HP.out|exact⟨rfl,HP.out⟩|skip
 obtain⟨a,rfl⟩:=nums_one hn
 have hb2:Below w.heap.size w w2:=(below_drew w).trans hb
 have s2:w2.cell? ⟨d,0,none⟩=some (tp q):=(hb2.cell (p:=⟨d,0,none⟩) hd).trans c0
 have hop:=HO.out w2 a hb2 hn
 obtain⟨ao,cc,hao,hcells⟩:=hv2.shape
 obtain⟨g,hg,hcell⟩:=hcells (by simp)
 subst hg
 subst hao
 have ha:w2.cell? ⟨g,0,none⟩=some (.int .i64 a):=hcell 0 (by simp)
 clear hcells hcell hv2 hn HO HN hnum
 dsimp only
 refine hK.out _ _ s2 (fun hHeld=>?_)
 clear hK K
 try go_frame
 refine Gen.one (i:=6) (by kernel_rfl) rfl rfl (fun K hK=>?_)
 go_simp
 refine hK.out _ _ s2 (fun hHeld=>?_)
 clear hK K
 try go_frame
 refine Gen.one (i:=7) (by kernel_rfl) rfl rfl (fun K hK=>?_)
 go_simp
 refine hK.out _ _ s2 (fun hHeld=>?_)
 clear hK K
 try go_frame
 refine Gen.one (i:=8) (by kernel_rfl) rfl rfl (fun K hK=>?_)
 go_simp
 refine hop.mono ?_
 rintro e w3 ⟨n,rfl,hr⟩
 have s3:=HR.out n w3 hr
 have hch:=HC.out n w3 hr
 clear hop HC HR hr
 dsimp only
 refine hK.out _ _ s3 (fun hHeld=>?_)
 clear hK K
 try go_frame
 refine Gen.last (i:=9) (by kernel_rfl) rfl rfl (by kernel_rfl) (by kernel_rfl) (fun K hK=>?_)
 go_simp
 refine hch.mono ?_
 rintro e w4 ⟨he,hr'⟩
 have hy:=HY.out n w4 hr'
 by_cases hn:n=0
 ·rw[if_pos hn] at he hy
  subst he
  have HP:Hid (Post (.returned (.string ⟨#[114,101,98,111,114,110]⟩)) w4):=hy
  clear hch HY hy hr' hn
  dsimp only
  refine hK.out _ _ ?_
  clear hK K
  go_wp2_with fail
  exact HP.out
 ·rw[if_neg hn] at he hy
  subst he
  have HP:Hid (Post (thrown n) w4):=hy
  clear hch HY hy hr' hn
  dsimp only
  first|exact HP.out|exact⟨rfl,HP.out⟩
end Wld
end
end Go.Proofs.YtbebfliimjjohabGreatDoor
