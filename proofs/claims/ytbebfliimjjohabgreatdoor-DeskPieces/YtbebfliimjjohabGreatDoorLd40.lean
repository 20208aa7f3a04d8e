/- Parts of the proof. -/
import Derived.Test.YtbebfliimjjohabGreatDoorLd39
import Derived.Maps.RangeWalk
set_option maxRecDepth 100000
set_option maxHeartbeats 8000000
namespace Go.Proofs.YtbebfliimjjohabGreatDoor
section
namespace Wld
open Go.RowKit Go.Maps
open Cache (tp row_kept)
open Lease (HasI)
def Kpi(d:Nat)(w w':World):Prop:=w'.cell? ⟨d,0,none⟩=w.cell? ⟨d,0,none⟩∧∀ (X:Nat) (cs:Array Value) (t:TypeId) (f:Nat×Nat),w.heap[X]?=some (.cells cs t f)→(t=3∨t=9)→w'.heap[X]?=w.heap[X]?
theorem Kpi.row{d B:Nat}{w w':World}{v:Value}{l:List Int}(h:Kpi d w w')(hv:HasI w B v l):HasI w' B v l:=row_kept hv fun g hg=>by
 rcases hv.2 with ⟨rfl,_⟩|⟨g',cap,cur,rfl,hB,hh,_⟩
 ·simp[Value.ownBlock] at hg
 ·simp[Value.ownBlock] at hg
  subst hg
  exact h.2 _ _ _ _ hh (.inl rfl)
theorem nums_two{ws:List ByteArray}{l:List Int}(h:numsOf ws 2=some l):∃ a b,l = [a,b]:=by
 unfold numsOf at h
 split at h
 ·rename_i h1
  have h2:=numsW_len _ _ h
  match l,h2 with
  | [a,b],_=>exact⟨a,b,rfl⟩
  | [],h2=>simp at h2;omega
  | [_],h2=>simp at h2;omega
  | _ :: _ :: _ :: _,h2=>simp at h2;omega
 ·cases h
theorem nums_four{ws:List ByteArray}{l:List Int}(h:numsOf ws 4=some l):∃ a b c d,l = [a,b,c,d]:=by
 unfold numsOf at h
 split at h
 ·rename_i h1
  have h2:=numsW_len _ _ h
  match l,h2 with
  | [a,b,c,d],_=>exact⟨a,b,c,d,rfl⟩
  | [],h2=>simp at h2;omega
  | [_],h2=>simp at h2;omega
  | [_,_],h2=>simp at h2;omega
  | [_,_,_],h2=>simp at h2;omega
  | _ :: _ :: _ :: _ :: _ :: _,h2=>simp at h2;omega
 ·cases h
theorem int_cells{w:World}{B:Nat}{v:Value}{l:List Int}(h:HasI w B v l)(hl:0<l.length):∃ g c,v = .slice (some ⟨g,0,none⟩) l.length c∧∀ i (hi:i<l.length),w.cell? ⟨g,i,none⟩=some (.int .i64 l[i]):=by
 obtain⟨ao,c,rfl,hc⟩:=h.shape
 obtain⟨g,hg,hc2⟩:=hc hl
 subst hg
 exact⟨g,c,rfl,hc2⟩
theorem read_walk(d q:Nat)(v:Value)(ws:List ByteArray)(w:World)(R R':Int→World→Prop)(Post:Ending→World→Prop)(hd:d<w.heap.size)(c0:w.cell? ⟨d,0,none⟩=some (tp q))
  (hnum:Calls Tryz.prog 145 #[v,.int .i64 2] w (NumsPost ws 2 w))
  (hop:∀ w2 a b,Below w.heap.size w w2→numsOf ws 2=some [a,b]→Calls Tryz.prog 16 #[tp q,.int .i64 a,.int .i64 b] w2 (fun e w3=>(∃ n,e = .returned (eV n)∧R n w3)∧Kpi d w2 w3))
  (hch:∀ n w3,R n w3→Calls Tryz.prog 144 #[eV n] w3 (fun e w4=>e=(if n=0 then .returned (.tuple #[]) else thrown n)∧R' n w4))
  (hno:numsOf ws 2=none→∀ w2,Below w.heap.size w w2→Post (thrown 3) w2)
  (hyes:∀ n w4,R' n w4→Post (if n=0 then .returned (.string ⟨#[114,101,97,100]⟩) else thrown n) w4) :
  Calls Tryz.prog 90 #[tp d,v] w Post:=by
 have HO:Hid (∀ w2 a b,Below w.heap.size w w2→numsOf ws 2=some [a,b]→Calls Tryz.prog 16 #[tp q,.int .i64 a,.int .i64 b] w2 (fun e w3=>(∃ n,e = .returned (eV n)∧R n w3)∧Kpi d w2 w3)):=hop
 have HC:Hid (∀ n w3,R n w3→Calls Tryz.prog 144 #[eV n] w3 (fun e w4=>e=(if n=0 then .returned (.tuple #[]) else thrown n)∧R' n w4)):=hch
 have HN:Hid (numsOf ws 2=none→∀ w2,Below w.heap.size w w2→Post (thrown 3) w2):=hno
 have HY:Hid (∀ n w4,R' n w4→Post (if n=0 then .returned (.string ⟨#[114,101,97,100]⟩) else thrown n) w4):=hyes
 clear hop hch hno hyes
 go_enter Tryz.func90,Tryz.ntmps90
 go_wp2_with fail
 refine hnum.mono ?_
 rintro e w2 ⟨hb,(⟨hn,rfl⟩|⟨l,v2,hn,rfl,hv2⟩)⟩
 ·have HP:Hid (Post (thrown 3) w2):=HN.out hn w2 hb
  clear hnum HO HC HN HY hn
  go_wp2_with fail
  exact⟨rfl,HP.out⟩
 obtain⟨a,b,rfl⟩:=nums_two hn
 have hb2:Below w.heap.size w w2.drew:=hb.drew
 have s2:w2.cell? ⟨d,0,none⟩=some (tp q):=(hb.cell (p:=⟨d,0,none⟩) hd).trans c0
 have hop:=HO.out w2.drew a b hb2 hn
 obtain⟨g,cc,rfl,hcell⟩:=int_cells hv2 (by simp)
 have ha:w2.cell? ⟨g,0,none⟩=some (.int .i64 a):=hcell 0 (by simp)
 have hbb:w2.cell? ⟨g,1,none⟩=some (.int .i64 b):=hcell 1 (by simp)
 have HV:Hid (HasI w2 w.heap.size (.slice (some ⟨g,0,none⟩) 2 cc) [a,b]):=hv2
 clear hcell hv2 hn HO HN hnum hb hb2
 go_upto_region 2 with fail
 refine Gen.start (S:=fun w'=>w'.cell? ⟨d,0,none⟩=some (tp q)∧w'.cell? ⟨g,0,none⟩=some (.int .i64 a)∧w'.cell? ⟨g,1,none⟩=some (.int .i64 b)) (by kernel_rfl) ⟨s2,ha,hbb⟩ (fun hHeld=>?_)
 refine Gen.tk 0 1 ?_ rfl rfl (Or.inl ⟨by rfl,?_⟩) hHeld ?_;rotate_left
 ·rintro w' ⟨s0,s1,s2⟩;go_simp;try with_reducible rfl
 go_frame
 refine Gen.tk 1 2 ?_ rfl rfl (Or.inl ⟨by rfl,?_⟩) hHeld ?_;rotate_left
 ·rintro w' ⟨s0,s1,s2⟩;go_simp;try with_reducible rfl
 go_frame
 refine Gen.tk 2 3 ?_ rfl rfl (Or.inl ⟨by rfl,?_⟩) hHeld ?_;rotate_left
 ·rintro w' ⟨s0,s1,s2⟩;go_simp;try with_reducible rfl
 go_frame
 refine Gen.tk 3 10 ?_ rfl rfl (Or.inl ⟨by rfl,?_⟩) hHeld ?_;rotate_left
 ·rintro w' ⟨s0,s1,s2⟩;go_simp;try with_reducible rfl
 go_frame
 refine Gen.tk 4 5 ?_ rfl rfl (Or.inl ⟨by rfl,?_⟩) hHeld ?_;rotate_left
 ·rintro w' ⟨s0,s1,s2⟩;go_simp;try with_reducible rfl
 go_frame
 refine Gen.tk 5 6 ?_ rfl rfl (Or.inl ⟨by rfl,?_⟩) hHeld ?_;rotate_left
 ·rintro w' ⟨s0,s1,s2⟩;go_simp;try with_reducible rfl
 go_frame
 refine Gen.tk 6 10 ?_ rfl rfl (Or.inl ⟨by rfl,?_⟩) hHeld ?_;rotate_left
 ·rintro w' ⟨s0,s1,s2⟩;go_simp;try with_reducible rfl
 go_frame
 refine Gen.tk 7 8 ?_ rfl rfl (Or.inl ⟨by rfl,?_⟩) hHeld ?_;rotate_left
 ·rintro w' ⟨s0,s1,s2⟩;go_simp;try with_reducible rfl
 go_frame
 refine Gen.tk 8 9 ?_ rfl rfl (Or.inl ⟨by rfl,?_⟩) hHeld ?_;rotate_left
 ·rintro w' ⟨s0,s1,s2⟩;go_simp;try with_reducible rfl
 go_frame
 refine Gen.tk 9 10 ?_ rfl rfl (Or.inl ⟨by rfl,?_⟩) hHeld ?_;rotate_left
 ·rintro w' ⟨s0,s1,s2⟩;go_simp;try with_reducible rfl
 go_frame
 refine Gen.one (i:=10) (by kernel_rfl) rfl rfl (fun K hK=>?_)
 go_simp
 refine hop.mono ?_
 rintro e w3 ⟨⟨n,rfl,hr⟩,hk⟩
 have s3:w3.cell? ⟨d,0,none⟩=some (tp q):=hk.1.trans s2
 have hr3:=Kpi.row (w:=w2.drew) hk HV.out
 have hch:=HC.out n w3 hr
 clear hop HC hr hk
 dsimp only
 refine hK.out _ _ ⟨s3,by rw[World.ownsRow.cellAt hr3 0 (by simp)];rfl,by rw[World.ownsRow.cellAt hr3 1 (by simp)];rfl⟩ (fun hHeld=>?_)
 clear hK K hr3
 try go_frame
 refine Gen.last (i:=11) (by kernel_rfl) rfl rfl (by kernel_rfl) (by kernel_rfl) (fun K hK=>?_)
 go_simp
 refine hch.mono ?_
 rintro e w4 ⟨he,hr'⟩
 have hy:=HY.out n w4 hr'
 by_cases hn:n=0
 ·rw[if_pos hn] at he hy
  subst he
  have HP:Hid (Post (.returned (.string ⟨#[114,101,97,100]⟩)) w4):=hy
  clear hch HY hy hr' hn
  dsimp only
  refine hK.out _ _ ?_
  clear hK K
  go_wp2_with fail
  exact HP.out
 ·rw[if_neg hn] at he hy
  subst he
  have HP:Hid (Post (thrown n) w4):=hy
  clear hch HY hy hr' hn
  dsimp only
  exact⟨rfl,HP.out⟩
theorem fails_walk(d q:Nat)(v:Value)(ws:List ByteArray)(w:World)(Post:Ending→World→Prop)(hd:d<w.heap.size)(c0:w.cell? ⟨d,0,none⟩=some (tp q))
  (hnum:Calls Tryz.prog 145 #[v,.int .i64 2] w (NumsPost ws 2 w))
  (hop:∀ w2 a b,Below w.heap.size w w2→numsOf ws 2=some [a,b]→Calls Tryz.prog 11 #[tp q,.int .i64 a,.int .i64 b] w2 (fun e w3=>e = .returned (.tuple #[])∧Post (.returned (.string ⟨#[102,97,105,108,115]⟩)) w3))
  (hno:numsOf ws 2=none→∀ w2,Below w.heap.size w w2→Post (thrown 3) w2) :
  Calls Tryz.prog 85 #[tp d,v] w Post:=by
 have HO:Hid (∀ w2 a b,Below w.heap.size w w2→numsOf ws 2=some [a,b]→Calls Tryz.prog 11 #[tp q,.int .i64 a,.int .i64 b] w2 (fun e w3=>e = .returned (.tuple #[])∧Post (.returned (.string ⟨#[102,97,105,108,115]⟩)) w3)):=hop
 have HN:Hid (numsOf ws 2=none→∀ w2,Below w.heap.size w w2→Post (thrown 3) w2):=hno
 clear hop hno
 go_enter Tryz.func85,Tryz.ntmps85
 go_wp2_with fail
 refine hnum.mono ?_
 rintro e w2 ⟨hb,(⟨hn,rfl⟩|⟨l,v2,hn,rfl,hv2⟩)⟩
 ·have HP:Hid (Post (thrown 3) w2):=HN.out hn w2 hb
  clear hnum HO HN hn
  go_wp2_with fail
  exact⟨rfl,HP.out⟩
 obtain⟨a,b,rfl⟩:=nums_two hn
 have hb2:Below w.heap.size w w2.drew:=hb.drew
 have s2:w2.cell? ⟨d,0,none⟩=some (tp q):=(hb.cell (p:=⟨d,0,none⟩) hd).trans c0
 have hop:=HO.out w2.drew a b hb2 hn
 obtain⟨g,cc,rfl,hcell⟩:=int_cells hv2 (by simp)
 have ha:w2.cell? ⟨g,0,none⟩=some (.int .i64 a):=hcell 0 (by simp)
 have hbb:w2.cell? ⟨g,1,none⟩=some (.int .i64 b):=hcell 1 (by simp)
 clear hcell hv2 hn HO HN hnum hb hb2
 go_upto_region 2 with fail
 refine Gen.start (S:=fun w'=>w'.cell? ⟨d,0,none⟩=some (tp q)∧w'.cell? ⟨g,0,none⟩=some (.int .i64 a)∧w'.cell? ⟨g,1,none⟩=some (.int .i64 b)) (by kernel_rfl) ⟨s2,ha,hbb⟩ (fun hHeld=>?_)
 refine Gen.tk 0 1 ?_ rfl rfl (Or.inl ⟨by rfl,?_⟩) hHeld ?_;rotate_left
 ·rintro w' ⟨s0,s1,s2⟩;go_simp;try with_reducible rfl
 go_frame
 refine Gen.tk 1 2 ?_ rfl rfl (Or.inl ⟨by rfl,?_⟩) hHeld ?_;rotate_left
 ·rintro w' ⟨s0,s1,s2⟩;go_simp;try with_reducible rfl
 go_frame
 refine Gen.tk 2 3 ?_ rfl rfl (Or.inl ⟨by rfl,?_⟩) hHeld ?_;rotate_left
 ·rintro w' ⟨s0,s1,s2⟩;go_simp;try with_reducible rfl
 go_frame
 refine Gen.tk 3 10 ?_ rfl rfl (Or.inl ⟨by rfl,?_⟩) hHeld ?_;rotate_left
 ·rintro w' ⟨s0,s1,s2⟩;go_simp;try with_reducible rfl
 go_frame
 refine Gen.tk 4 5 ?_ rfl rfl (Or.inl ⟨by rfl,?_⟩) hHeld ?_;rotate_left
 ·rintro w' ⟨s0,s1,s2⟩;go_simp;try with_reducible rfl
 go_frame
 refine Gen.tk 5 6 ?_ rfl rfl (Or.inl ⟨by rfl,?_⟩) hHeld ?_;rotate_left
 ·rintro w' ⟨s0,s1,s2⟩;go_simp;try with_reducible rfl
 go_frame
 refine Gen.tk 6 10 ?_ rfl rfl (Or.inl ⟨by rfl,?_⟩) hHeld ?_;rotate_left
 ·rintro w' ⟨s0,s1,s2⟩;go_simp;try with_reducible rfl
 go_frame
 refine Gen.tk 7 8 ?_ rfl rfl (Or.inl ⟨by rfl,?_⟩) hHeld ?_;rotate_left
 ·rintro w' ⟨s0,s1,s2⟩;go_simp;try with_reducible rfl
 go_frame
 refine Gen.tk 8 9 ?_ rfl rfl (Or.inl ⟨by rfl,?_⟩) hHeld ?_;rotate_left
 ·rintro w' ⟨s0,s1,s2⟩;go_simp;try with_reducible rfl
 go_frame
 refine Gen.tk 9 10 ?_ rfl rfl (Or.inl ⟨by rfl,?_⟩) hHeld ?_;rotate_left
 ·rintro w' ⟨s0,s1,s2⟩;go_simp;try with_reducible rfl
 go_frame
 refine Gen.last (i:=10) (by kernel_rfl) rfl rfl (by kernel_rfl) (by kernel_rfl) (fun K hK=>?_)
 go_simp
 refine hop.mono ?_
 rintro e w3 ⟨rfl,hp⟩
 have HP:Hid (Post (.returned (.string ⟨#[102,97,105,108,115]⟩)) w3):=hp
 clear hop hp
 dsimp only
 refine hK.out _ _ ?_
 clear hK K
 go_wp2_with fail
 exact HP.out
theorem goes_walk(d q:Nat)(ao:Option Addr)(c:Nat)(ws:List ByteArray)(w:World)(R R':Int→World→Prop)(Post:Ending→World→Prop)(hd:d<w.heap.size)(c0:w.cell? ⟨d,0,none⟩=some (tp q))
  (hnum:Calls Tryz.prog 145 #[.slice ao ws.length c,.int .i64 ws.length] w.drew (NumsPost ws ws.length w.drew))
  (hop:∀ w2 v2 l B,Below w.heap.size w w2→numsOf ws ws.length=some l→HasI w2 B v2 l→Calls Tryz.prog 37 #[tp q,v2] w2 (fun e w3=>(∃ n,e = .returned (eV n)∧R n w3)∧Kpi d w2 w3))
  (hch:∀ n w3,R n w3→Calls Tryz.prog 144 #[eV n] w3 (fun e w4=>e=(if n=0 then .returned (.tuple #[]) else thrown n)∧R' n w4))
  (hno:numsOf ws ws.length=none→∀ w2,Below w.heap.size w w2→Post (thrown 3) w2)
  (hyes:∀ n w4,R' n w4→Post (if n=0 then .returned (.string ⟨#[103,111,101,115]⟩) else thrown n) w4) :
  Calls Tryz.prog 86 #[tp d,.slice ao ws.length c] w Post:=by
 have HO:Hid (∀ w2 v2 l B,Below w.heap.size w w2→numsOf ws ws.length=some l→HasI w2 B v2 l→Calls Tryz.prog 37 #[tp q,v2] w2 (fun e w3=>(∃ n,e = .returned (eV n)∧R n w3)∧Kpi d w2 w3)):=hop
 have HC:Hid (∀ n w3,R n w3→Calls Tryz.prog 144 #[eV n] w3 (fun e w4=>e=(if n=0 then .returned (.tuple #[]) else thrown n)∧R' n w4)):=hch
 have HN:Hid (numsOf ws ws.length=none→∀ w2,Below w.heap.size w w2→Post (thrown 3) w2):=hno
 have HY:Hid (∀ n w4,R' n w4→Post (if n=0 then .returned (.string ⟨#[103,111,101,115]⟩) else thrown n) w4):=hyes
 clear hop hch hno hyes
 go_enter Tryz.func86,Tryz.ntmps86
 go_upto_region 1 with fail
 refine Gen.start (S:=fun w'=>w'.cell? ⟨d,0,none⟩=some (tp q)) (by kernel_rfl) c0 (fun hHeld=>?_)
 refine Gen.tk 0 1 ?_ rfl rfl (Or.inl ⟨by rfl,?_⟩) hHeld ?_
 rotate_left
 ·intro w' hSw
  have s0:=hSw
  go_simp
  try with_reducible rfl
 go_frame
 refine Gen.tk 1 2 ?_ rfl rfl (Or.inl ⟨by rfl,?_⟩) hHeld ?_
 rotate_left
 ·intro w' hSw
  have s0:=hSw
  go_simp
  try with_reducible rfl
 go_frame
 refine Gen.tk 2 3 ?_ rfl rfl (Or.inl ⟨by rfl,?_⟩) hHeld ?_
 rotate_left
 ·intro w' hSw
  have s0:=hSw
  go_simp
  try with_reducible rfl
 go_frame
 refine Gen.tk 3 8 ?_ rfl rfl (Or.inl ⟨by rfl,?_⟩) hHeld ?_
 rotate_left
 ·intro w' hSw
  have s0:=hSw
  go_simp
  try with_reducible rfl
 go_frame
 refine Gen.tk 4 7 ?_ rfl rfl (Or.inl ⟨by rfl,?_⟩) hHeld ?_
 rotate_left
 ·intro w' hSw
  have s0:=hSw
  go_simp
  try with_reducible rfl
 go_frame
 refine Gen.tk 5 6 ?_ rfl rfl (Or.inl ⟨by rfl,?_⟩) hHeld ?_
 rotate_left
 ·intro w' hSw
  have s0:=hSw
  go_simp
  try with_reducible rfl
 go_frame
 refine Gen.tk 6 7 ?_ rfl rfl (Or.inl ⟨by rfl,?_⟩) hHeld ?_
 rotate_left
 ·intro w' hSw
  have s0:=hSw
  go_simp
  try with_reducible rfl
 go_frame
 refine Gen.one (i:=7) (by kernel_rfl) rfl rfl (fun K hK=>?_)
 go_simp
 refine hnum.mono ?_
 rintro e w2 ⟨hb,(⟨hn,rfl⟩|⟨l,v2,hn,rfl,hv2⟩)⟩
 ·have HP:Hid (Post (thrown 3) w2):=HN.out hn w2 ((below_drew w).trans hb)
  clear hnum HO HC HN HY hn hHeld hK
  dsimp only
  exact⟨rfl,HP.out⟩
 have hb2:Below w.heap.size w w2:=(below_drew w).trans hb
 have s2:w2.cell? ⟨d,0,none⟩=some (tp q):=(hb2.cell (p:=⟨d,0,none⟩) hd).trans c0
 have hop:=HO.out w2 v2 l _ hb2 hn hv2
 clear hv2 hn HO HN hnum
 dsimp only
 refine hK.out _ _ s2 (fun hHeld=>?_)
 clear hK K
 try go_frame
 refine Gen.one (i:=8) (by kernel_rfl) rfl rfl (fun K hK=>?_)
 go_simp
 refine hop.mono ?_
 rintro e w3 ⟨⟨n,rfl,hr⟩,hk⟩
 have s3:w3.cell? ⟨d,0,none⟩=some (tp q):=hk.1.trans s2
 have hch:=HC.out n w3 hr
 clear hop HC hr hk
 dsimp only
 refine hK.out _ _ s3 (fun hHeld=>?_)
 clear hK K
 try go_frame
 refine Gen.last (i:=9) (by kernel_rfl) rfl rfl (by kernel_rfl) (by kernel_rfl) (fun K hK=>?_)
 go_simp
 refine hch.mono ?_
 rintro e w4 ⟨he,hr'⟩
 have hy:=HY.out n w4 hr'
 by_cases hn:n=0
 ·rw[if_pos hn] at he hy
  subst he
  have HP:Hid (Post (.returned (.string ⟨#[103,111,101,115]⟩)) w4):=hy
  clear hch HY hy hr' hn
  dsimp only
  refine hK.out _ _ ?_
  clear hK K
  go_wp2_with fail
  exact HP.out
 ·rw[if_neg hn] at he hy
  subst he
  have HP:Hid (Post (thrown n) w4):=hy
  clear hch HY hy hr' hn
  dsimp only
  exact⟨rfl,HP.out⟩
theorem write_walk(d q gw o:Nat)(c:Nat)(x:ByteArray)(ws:List ByteArray)(w:World)(R R':Int→World→Prop)(Post:Ending→World→Prop)(hd:d<w.heap.size)(c0:w.cell? ⟨d,0,none⟩=some (tp q))(hc3:3≤c)
  (hgw:∃ cs f,w.heap[gw]?=some (.cells cs 9 f)) (hx:w.cell? ⟨gw,o+2,none⟩=some (.string x))
  (hnum:Calls Tryz.prog 145 #[.slice (some ⟨gw,o,none⟩) 2 c,.int .i64 2] w (NumsPost (ws.take 2) 2 w))
  (hop:∀ w2 a b,Below w.heap.size w w2→numsOf (ws.take 2) 2=some [a,b]→Calls Tryz.prog 23 #[tp q,.int .i64 a,.int .i64 b,.string x] w2 (fun e w3=>(∃ n,e = .returned (eV n)∧R n w3)∧Kpi d w2 w3))
  (hch:∀ n w3,R n w3→Calls Tryz.prog 144 #[eV n] w3 (fun e w4=>e=(if n=0 then .returned (.tuple #[]) else thrown n)∧R' n w4))
  (hno:numsOf (ws.take 2) 2=none→∀ w2,Below w.heap.size w w2→Post (thrown 3) w2)
  (hyes:∀ n w4,R' n w4→Post (if n=0 then .returned (.string ⟨#[119,114,105,116,101]⟩) else thrown n) w4) :
  Calls Tryz.prog 97 #[tp d,.slice (some ⟨gw,o,none⟩) 3 c] w Post:=by
 have HO:Hid (∀ w2 a b,Below w.heap.size w w2→numsOf (ws.take 2) 2=some [a,b]→Calls Tryz.prog 23 #[tp q,.int .i64 a,.int .i64 b,.string x] w2 (fun e w3=>(∃ n,e = .returned (eV n)∧R n w3)∧Kpi d w2 w3)):=hop
 have HC:Hid (∀ n w3,R n w3→Calls Tryz.prog 144 #[eV n] w3 (fun e w4=>e=(if n=0 then .returned (.tuple #[]) else thrown n)∧R' n w4)):=hch
 have HN:Hid (numsOf (ws.take 2) 2=none→∀ w2,Below w.heap.size w w2→Post (thrown 3) w2):=hno
 have HY:Hid (∀ n w4,R' n w4→Post (if n=0 then .returned (.string ⟨#[119,114,105,116,101]⟩) else thrown n) w4):=hyes
 have hne:=need_ok (some ⟨gw,o,none⟩) c 3 w
 clear hop hch hno hyes
 go_enter Tryz.func97,Tryz.ntmps97
 go_wp2_with fail
 refine hne.mono ?_
 rintro e w1 ⟨rfl,hw1⟩
 rw[hw1]
 clear hw1 hne
 go_wp2_with fail
 refine hnum.mono ?_
 rintro e w2 ⟨hb,(⟨hn,rfl⟩|⟨l,v2,hn,rfl,hv2⟩)⟩
 ·have HP:Hid (Post (thrown 3) w2):=HN.out hn w2 hb
  clear hnum HO HC HN HY hn
  go_wp2_with fail
  exact⟨rfl,HP.out⟩
 obtain⟨a,b,rfl⟩:=nums_two hn
 have hb2:Below w.heap.size w w2.drew:=hb.drew
 have s2:w2.cell? ⟨d,0,none⟩=some (tp q):=(hb.cell (p:=⟨d,0,none⟩) hd).trans c0
 have hop:=HO.out w2.drew a b hb2 hn
 obtain⟨g,cc,rfl,hcell⟩:=int_cells hv2 (by simp)
 have ha:w2.cell? ⟨g,0,none⟩=some (.int .i64 a):=hcell 0 (by simp)
 have hbb:w2.cell? ⟨g,1,none⟩=some (.int .i64 b):=hcell 1 (by simp)
 have HV:Hid (HasI w2 w.heap.size (.slice (some ⟨g,0,none⟩) 2 cc) [a,b]):=hv2
 obtain⟨cs,f,hgw⟩:=hgw
 have hlw:gw<w.heap.size:=(Array.getElem?_eq_some_iff.1 hgw).1
 have hgw2:=(hb.block gw hlw).trans hgw
 have hx2:w2.cell? ⟨gw,o+2,none⟩=some (.string x):=(hb.cell (p:=⟨gw,o+2,none⟩) hlw).trans hx
 clear hcell hv2 hn HO HN hnum hb hb2 hgw hx
 go_upto_region 3 with fail
 refine Gen.start (S:=fun w'=>w'.cell? ⟨d,0,none⟩=some (tp q)∧w'.cell? ⟨g,0,none⟩=some (.int .i64 a)∧w'.cell? ⟨g,1,none⟩=some (.int .i64 b)∧w'.cell? ⟨gw,o+2,none⟩=some (.string x)) (by kernel_rfl) ⟨s2,ha,hbb,hx2⟩ (fun hHeld=>?_)
 refine Gen.tk 0 1 ?_ rfl rfl (Or.inl ⟨by rfl,?_⟩) hHeld ?_;rotate_left
 ·rintro w' ⟨s0,s1,s2,s3⟩;go_simp;try with_reducible rfl
 go_frame
 refine Gen.tk 1 2 ?_ rfl rfl (Or.inl ⟨by rfl,?_⟩) hHeld ?_;rotate_left
 ·rintro w' ⟨s0,s1,s2,s3⟩;go_simp;try with_reducible rfl
 go_frame
 refine Gen.tk 2 3 ?_ rfl rfl (Or.inl ⟨by rfl,?_⟩) hHeld ?_;rotate_left
 ·rintro w' ⟨s0,s1,s2,s3⟩;go_simp;try with_reducible rfl
 go_frame
 refine Gen.tk 3 13 ?_ rfl rfl (Or.inl ⟨by rfl,?_⟩) hHeld ?_;rotate_left
 ·rintro w' ⟨s0,s1,s2,s3⟩;go_simp;try with_reducible rfl
 go_frame
 refine Gen.tk 4 5 ?_ rfl rfl (Or.inl ⟨by rfl,?_⟩) hHeld ?_;rotate_left
 ·rintro w' ⟨s0,s1,s2,s3⟩;go_simp;try with_reducible rfl
 go_frame
 refine Gen.tk 5 6 ?_ rfl rfl (Or.inl ⟨by rfl,?_⟩) hHeld ?_;rotate_left
 ·rintro w' ⟨s0,s1,s2,s3⟩;go_simp;try with_reducible rfl
 go_frame
 refine Gen.tk 6 13 ?_ rfl rfl (Or.inl ⟨by rfl,?_⟩) hHeld ?_;rotate_left
 ·rintro w' ⟨s0,s1,s2,s3⟩;go_simp;try with_reducible rfl
 go_frame
 refine Gen.tk 7 8 ?_ rfl rfl (Or.inl ⟨by rfl,?_⟩) hHeld ?_;rotate_left
 ·rintro w' ⟨s0,s1,s2,s3⟩;go_simp;try with_reducible rfl
 go_frame
 refine Gen.tk 8 9 ?_ rfl rfl (Or.inl ⟨by rfl,?_⟩) hHeld ?_;rotate_left
 ·rintro w' ⟨s0,s1,s2,s3⟩;go_simp;try with_reducible rfl
 go_frame
 refine Gen.tk 9 13 ?_ rfl rfl (Or.inl ⟨by rfl,?_⟩) hHeld ?_;rotate_left
 ·rintro w' ⟨s0,s1,s2,s3⟩;go_simp;try with_reducible rfl
 go_frame
 refine Gen.tk 10 11 ?_ rfl rfl (Or.inl ⟨by rfl,?_⟩) hHeld ?_;rotate_left
 ·rintro w' ⟨s0,s1,s2,s3⟩;go_simp;try with_reducible rfl
 go_frame
 refine Gen.tk 11 12 ?_ rfl rfl (Or.inl ⟨by rfl,?_⟩) hHeld ?_;rotate_left
 ·rintro w' ⟨s0,s1,s2,s3⟩;go_simp;try with_reducible rfl
 go_frame
 refine Gen.tk 12 13 ?_ rfl rfl (Or.inl ⟨by rfl,?_⟩) hHeld ?_;rotate_left
 ·rintro w' ⟨s0,s1,s2,s3⟩;go_simp;try with_reducible rfl
 go_frame
 refine Gen.one (i:=13) (by kernel_rfl) rfl rfl (fun K hK=>?_)
 go_simp
 refine hop.mono ?_
 rintro e w3 ⟨⟨n,rfl,hr⟩,hk⟩
 have s3:w3.cell? ⟨d,0,none⟩=some (tp q):=hk.1.trans s2
 have hr3:=Kpi.row (w:=w2.drew) hk HV.out
 have hx3:w3.cell? ⟨gw,o+2,none⟩=some (.string x):=(World.cell?_of_block (a:=⟨gw,o+2,none⟩) (hk.2 _ _ _ _ hgw2 (.inr rfl))).trans hx2
 have hch:=HC.out n w3 hr
 clear hop HC hr hk
 dsimp only
 refine hK.out _ _ ⟨s3,by rw[World.ownsRow.cellAt hr3 0 (by simp)];rfl,by rw[World.ownsRow.cellAt hr3 1 (by simp)];rfl,hx3⟩ (fun hHeld=>?_)
 clear hK K hr3
 try go_frame
 refine Gen.last (i:=14) (by kernel_rfl) rfl rfl (by kernel_rfl) (by kernel_rfl) (fun K hK=>?_)
 go_simp
 refine hch.mono ?_
 rintro e w4 ⟨he,hr'⟩
 have hy:=HY.out n w4 hr'
 by_cases hn:n=0
 ·rw[if_pos hn] at he hy
  subst he
  have HP:Hid (Post (.returned (.string ⟨#[119,114,105,116,101]⟩)) w4):=hy
  clear hch HY hy hr' hn
  dsimp only
  refine hK.out _ _ ?_
  clear hK K
  go_wp2_with fail
  exact HP.out
 ·rw[if_neg hn] at he hy
  subst he
  have HP:Hid (Post (thrown n) w4):=hy
  clear hch HY hy hr' hn
  dsimp only
  exact⟨rfl,HP.out⟩
theorem short_walk(d:Nat)(v:Value)(ws:List ByteArray)(w:World)(R R':Int→Int→World→Prop)(Post:Ending→World→Prop)
  (hnum:Calls Tryz.prog 145 #[v,.int .i64 2] w (NumsPost ws 2 w))
  (hop:∀ w2 a b,Below w.heap.size w w2→numsOf ws 2=some [a,b]→Calls Tryz.prog 15 #[.int .i64 a,.int .i64 b] w2 (fun e w3=>(∃ n y,e = .returned (.tuple #[.int .i64 y,eV n])∧R n y w3)∧Kpi d w2 w3))
  (hch:∀ n y w3,R n y w3→Calls Tryz.prog 144 #[eV n] w3 (fun e w4=>e=(if n=0 then .returned (.tuple #[]) else thrown n)∧R' n y w4))
  (hno:numsOf ws 2=none→∀ w2,Below w.heap.size w w2→Post (thrown 3) w2)
  (hbad:∀ n y w4,R' n y w4→n≠0→Post (thrown n) w4)
  (hit:∀ y w4,R' 0 y w4→Calls Tryz.prog 78 #[.int .i64 y] w4 (fun e w5=>∃ t,e = .returned (.string t)∧Post (.returned (.string t)) w5)) :
  Calls Tryz.prog 93 #[tp d,v] w Post:=by
 have HO:Hid (∀ w2 a b,Below w.heap.size w w2→numsOf ws 2=some [a,b]→Calls Tryz.prog 15 #[.int .i64 a,.int .i64 b] w2 (fun e w3=>(∃ n y,e = .returned (.tuple #[.int .i64 y,eV n])∧R n y w3)∧Kpi d w2 w3)):=hop
 have HC:Hid (∀ n y w3,R n y w3→Calls Tryz.prog 144 #[eV n] w3 (fun e w4=>e=(if n=0 then .returned (.tuple #[]) else thrown n)∧R' n y w4)):=hch
 have HN:Hid (numsOf ws 2=none→∀ w2,Below w.heap.size w w2→Post (thrown 3) w2):=hno
 have HY:Hid (∀ n y w4,R' n y w4→n≠0→Post (thrown n) w4):=hbad
 have HI:Hid (∀ y w4,R' 0 y w4→Calls Tryz.prog 78 #[.int .i64 y] w4 (fun e w5=>∃ t,e = .returned (.string t)∧Post (.returned (.string t)) w5)):=hit
 clear hop hch hno hbad hit
 go_enter Tryz.func93,Tryz.ntmps93
 go_wp2_with fail
 refine hnum.mono ?_
 rintro e w2 ⟨hb,(⟨hn,rfl⟩|⟨l,v2,hn,rfl,hv2⟩)⟩
 ·have HP:Hid (Post (thrown 3) w2):=HN.out hn w2 hb
  clear hnum HO HC HN HY HI hn
  go_wp2_with fail
  exact⟨rfl,HP.out⟩
 obtain⟨a,b,rfl⟩:=nums_two hn
 have hb2:Below w.heap.size w w2.drew:=hb.drew
 have hop:=HO.out w2.drew a b hb2 hn
 obtain⟨g,cc,rfl,hcell⟩:=int_cells hv2 (by simp)
 have ha:w2.cell? ⟨g,0,none⟩=some (.int .i64 a):=hcell 0 (by simp)
 have hbb:w2.cell? ⟨g,1,none⟩=some (.int .i64 b):=hcell 1 (by simp)
 have HV:Hid (HasI w2 w.heap.size (.slice (some ⟨g,0,none⟩) 2 cc) [a,b]):=hv2
 clear hcell hv2 hn HO HN hnum hb hb2
 go_upto_region 2 with fail
 refine Gen.start (S:=fun w'=>w'.cell? ⟨g,0,none⟩=some (.int .i64 a)∧w'.cell? ⟨g,1,none⟩=some (.int .i64 b)) (by kernel_rfl) ⟨ha,hbb⟩ (fun hHeld=>?_)
 refine Gen.tk 0 1 ?_ rfl rfl (Or.inl ⟨by rfl,?_⟩) hHeld ?_;rotate_left
 ·rintro w' ⟨s0,s1⟩;go_simp;try with_reducible rfl
 go_frame
 refine Gen.tk 1 2 ?_ rfl rfl (Or.inl ⟨by rfl,?_⟩) hHeld ?_;rotate_left
 ·rintro w' ⟨s0,s1⟩;go_simp;try with_reducible rfl
 go_frame
 refine Gen.tk 2 6 ?_ rfl rfl (Or.inl ⟨by rfl,?_⟩) hHeld ?_;rotate_left
 ·rintro w' ⟨s0,s1⟩;go_simp;try with_reducible rfl
 go_frame
 refine Gen.tk 3 4 ?_ rfl rfl (Or.inl ⟨by rfl,?_⟩) hHeld ?_;rotate_left
 ·rintro w' ⟨s0,s1⟩;go_simp;try with_reducible rfl
 go_frame
 refine Gen.tk 4 5 ?_ rfl rfl (Or.inl ⟨by rfl,?_⟩) hHeld ?_;rotate_left
 ·rintro w' ⟨s0,s1⟩;go_simp;try with_reducible rfl
 go_frame
 refine Gen.tk 5 6 ?_ rfl rfl (Or.inl ⟨by rfl,?_⟩) hHeld ?_;rotate_left
 ·rintro w' ⟨s0,s1⟩;go_simp;try with_reducible rfl
 go_frame
 refine Gen.one (i:=6) (by kernel_rfl) rfl rfl (fun K hK=>?_)
 go_simp
 refine hop.mono ?_
 rintro e w3 ⟨⟨n,y,rfl,hr⟩,hk⟩
 have hr3:=Kpi.row (w:=w2.drew) hk HV.out
 have hch:=HC.out n y w3 hr
 clear hop HC hr hk
 dsimp only
 refine hK.out _ _ ⟨by rw[World.ownsRow.cellAt hr3 0 (by simp)];rfl,by rw[World.ownsRow.cellAt hr3 1 (by simp)];rfl⟩ (fun hHeld=>?_)
 clear hK K hr3
 try go_frame
 refine Gen.tk 7 8 ?_ rfl rfl (Or.inl ⟨by rfl,?_⟩) hHeld ?_;rotate_left
 ·rintro w' ⟨s0,s1⟩;go_simp;try with_reducible rfl
 go_frame
 refine Gen.tk 8 10 ?_ rfl rfl (Or.inl ⟨by rfl,?_⟩) hHeld ?_;rotate_left
 ·rintro w' ⟨s0,s1⟩;go_simp;try with_reducible rfl
 go_frame
 refine Gen.tk 9 11 ?_ rfl rfl (Or.inl ⟨by rfl,?_⟩) hHeld ?_;rotate_left
 ·rintro w' ⟨s0,s1⟩;go_simp;try with_reducible rfl
 go_frame
 refine Gen.tk 10 11 ?_ rfl rfl (Or.inl ⟨by rfl,?_⟩) hHeld ?_;rotate_left
 ·rintro w' ⟨s0,s1⟩;go_simp;try with_reducible rfl
 go_frame
 refine Gen.last (i:=11) (by kernel_rfl) rfl rfl (by kernel_rfl) (by kernel_rfl) (fun K hK=>?_)
 go_simp
 refine hK.out _ _ ?_
 clear hK K hHeld
 go_wp2_with fail
 refine hch.mono ?_
 rintro e w4 ⟨he,hr'⟩
 by_cases hn:n=0
 ·rw[if_pos hn] at he
  subst he
  subst hn
  have hit:=HI.out y w4 hr'
  clear hch HY hr' HI
  go_wp2_with fail
  refine hit.mono ?_
  rintro e w5 ⟨t,rfl,hp⟩
  have HP:Hid (Post (.returned (.string t)) w5):=hp
  clear hit hp
  go_wp2_with fail
  exact HP.out
 ·rw[if_neg hn] at he
  subst he
  have HP:Hid (Post (thrown n) w4):=HY.out n y w4 hr' hn
  clear hch HY hr' HI hn
  go_wp2_with fail
  exact⟨rfl,HP.out⟩
theorem begin_walk(d:Nat)(v:Value)(ws:List ByteArray)(w:World)(R R':Int→Option Addr→World→Prop)(Post:Ending→World→Prop)
  (hnum:Calls Tryz.prog 145 #[v,.int .i64 4] w (NumsPost ws 4 w))
  (hop:∀ w2 a b c k,Below w.heap.size w w2→numsOf ws 4=some [a,b,c,k]→Calls Tryz.prog 22 #[.agg #[.int .i64 a,.int .i64 b,.int .i64 c],.int .i64 k] w2 (fun e w3=>(∃ n y,e = .returned (.tuple #[.pointer y,eV n])∧R n y w3)∧Kpi d w2 w3))
  (hch:∀ n y w3,R n y w3→Calls Tryz.prog 144 #[eV n] w3 (fun e w4=>e=(if n=0 then .returned (.tuple #[]) else thrown n)∧R' n y w4))
  (hno:numsOf ws 4=none→∀ w2,Below w.heap.size w w2→Post (thrown 3) w2)
  (hbad:∀ n y w4,R' n y w4→n≠0→Post (thrown n) w4)
  (hok:∀ y w4,R' 0 y w4→w4.frozen? ⟨d,0,none⟩=false∧(∃ u,w4.cell? ⟨d,0,none⟩=some u)∧Post (.returned (.string ⟨#[98,101,103,105,110]⟩)) (w4.setCell ⟨d,0,none⟩ (.pointer y))) :
  Calls Tryz.prog 80 #[tp d,v] w Post:=by
 have HO:Hid (∀ w2 a b c k,Below w.heap.size w w2→numsOf ws 4=some [a,b,c,k]→Calls Tryz.prog 22 #[.agg #[.int .i64 a,.int .i64 b,.int .i64 c],.int .i64 k] w2 (fun e w3=>(∃ n y,e = .returned (.tuple #[.pointer y,eV n])∧R n y w3)∧Kpi d w2 w3)):=hop
 have HC:Hid (∀ n y w3,R n y w3→Calls Tryz.prog 144 #[eV n] w3 (fun e w4=>e=(if n=0 then .returned (.tuple #[]) else thrown n)∧R' n y w4)):=hch
 have HN:Hid (numsOf ws 4=none→∀ w2,Below w.heap.size w w2→Post (thrown 3) w2):=hno
 have HY:Hid (∀ n y w4,R' n y w4→n≠0→Post (thrown n) w4):=hbad
 have HI:Hid (∀ y w4,R' 0 y w4→w4.frozen? ⟨d,0,none⟩=false∧(∃ u,w4.cell? ⟨d,0,none⟩=some u)∧Post (.returned (.string ⟨#[98,101,103,105,110]⟩)) (w4.setCell ⟨d,0,none⟩ (.pointer y))):=hok
 clear hop hch hno hbad hok
 go_enter Tryz.func80,Tryz.ntmps80
 go_wp2_with fail
 refine hnum.mono ?_
 rintro e w2 ⟨hb,(⟨hn,rfl⟩|⟨l,v2,hn,rfl,hv2⟩)⟩
 ·have HP:Hid (Post (thrown 3) w2):=HN.out hn w2 hb
  clear hnum HO HC HN HY HI hn
  go_wp2_with fail
  exact⟨rfl,HP.out⟩
 obtain⟨a,b,c,k,rfl⟩:=nums_four hn
 have hb2:Below w.heap.size w w2.drew:=hb.drew
 have hop:=HO.out w2.drew a b c k hb2 hn
 obtain⟨g,cc,rfl,hcell⟩:=int_cells hv2 (by simp)
 have h0:w2.cell? ⟨g,0,none⟩=some (.int .i64 a):=hcell 0 (by simp)
 have h1:w2.cell? ⟨g,1,none⟩=some (.int .i64 b):=hcell 1 (by simp)
 have h2:w2.cell? ⟨g,2,none⟩=some (.int .i64 c):=hcell 2 (by simp)
 have h3:w2.cell? ⟨g,3,none⟩=some (.int .i64 k):=hcell 3 (by simp)
 have HV:Hid (HasI w2 w.heap.size (.slice (some ⟨g,0,none⟩) 4 cc) [a,b,c,k]):=hv2
 clear hcell hv2 hn HO HN hnum hb hb2
 go_upto_region 2 with fail
 refine Gen.start (S:=fun w'=>w'.cell? ⟨g,0,none⟩=some (.int .i64 a)∧w'.cell? ⟨g,1,none⟩=some (.int .i64 b)∧w'.cell? ⟨g,2,none⟩=some (.int .i64 c)∧w'.cell? ⟨g,3,none⟩=some (.int .i64 k)) (by kernel_rfl) ⟨h0,h1,h2,h3⟩ (fun hHeld=>?_)
 refine Gen.tk 0 1 ?_ rfl rfl (Or.inl ⟨by rfl,?_⟩) hHeld ?_;rotate_left
 ·rintro w' ⟨s0,s1,s2,s3⟩;go_simp;try with_reducible rfl
 go_frame
 refine Gen.tk 1 2 ?_ rfl rfl (Or.inl ⟨by rfl,?_⟩) hHeld ?_;rotate_left
 ·rintro w' ⟨s0,s1,s2,s3⟩;go_simp;try with_reducible rfl
 go_frame
 refine Gen.tk 2 9 ?_ rfl rfl (Or.inl ⟨by rfl,?_⟩) hHeld ?_;rotate_left
 ·rintro w' ⟨s0,s1,s2,s3⟩;go_simp;try with_reducible rfl
 go_frame
 refine Gen.tk 3 4 ?_ rfl rfl (Or.inl ⟨by rfl,?_⟩) hHeld ?_;rotate_left
 ·rintro w' ⟨s0,s1,s2,s3⟩;go_simp;try with_reducible rfl
 go_frame
 refine Gen.tk 4 5 ?_ rfl rfl (Or.inl ⟨by rfl,?_⟩) hHeld ?_;rotate_left
 ·rintro w' ⟨s0,s1,s2,s3⟩;go_simp;try with_reducible rfl
 go_frame
 refine Gen.tk 5 9 ?_ rfl rfl (Or.inl ⟨by rfl,?_⟩) hHeld ?_;rotate_left
 ·rintro w' ⟨s0,s1,s2,s3⟩;go_simp;try with_reducible rfl
 go_frame
 refine Gen.tk 6 7 ?_ rfl rfl (Or.inl ⟨by rfl,?_⟩) hHeld ?_;rotate_left
 ·rintro w' ⟨s0,s1,s2,s3⟩;go_simp;try with_reducible rfl
 go_frame
 refine Gen.tk 7 8 ?_ rfl rfl (Or.inl ⟨by rfl,?_⟩) hHeld ?_;rotate_left
 ·rintro w' ⟨s0,s1,s2,s3⟩;go_simp;try with_reducible rfl
 go_frame
 refine Gen.tk 8 9 ?_ rfl rfl (Or.inl ⟨by rfl,?_⟩) hHeld ?_;rotate_left
 ·rintro w' ⟨s0,s1,s2,s3⟩;go_simp;try with_reducible rfl
 go_frame
 refine Gen.tk 9 13 ?_ rfl rfl (Or.inl ⟨by rfl,?_⟩) hHeld ?_;rotate_left
 ·rintro w' ⟨s0,s1,s2,s3⟩;go_simp;try with_reducible rfl
 go_frame
 refine Gen.tk 10 11 ?_ rfl rfl (Or.inl ⟨by rfl,?_⟩) hHeld ?_;rotate_left
 ·rintro w' ⟨s0,s1,s2,s3⟩;go_simp;try with_reducible rfl
 go_frame
 refine Gen.tk 11 12 ?_ rfl rfl (Or.inl ⟨by rfl,?_⟩) hHeld ?_;rotate_left
 ·rintro w' ⟨s0,s1,s2,s3⟩;go_simp;try with_reducible rfl
 go_frame
 refine Gen.tk 12 13 ?_ rfl rfl (Or.inl ⟨by rfl,?_⟩) hHeld ?_;rotate_left
 ·rintro w' ⟨s0,s1,s2,s3⟩;go_simp;try with_reducible rfl
 go_frame
 refine Gen.one (i:=13) (by kernel_rfl) rfl rfl (fun K hK=>?_)
 go_simp
 refine hop.mono ?_
 rintro e w3 ⟨⟨n,y,rfl,hr⟩,hk⟩
 have hr3:=Kpi.row (w:=w2.drew) hk HV.out
 have hch:=HC.out n y w3 hr
 clear hop HC hr hk
 dsimp only
 refine hK.out _ _ ⟨by rw[World.ownsRow.cellAt hr3 0 (by simp)];rfl,by rw[World.ownsRow.cellAt hr3 1 (by simp)];rfl,by rw[World.ownsRow.cellAt hr3 2 (by simp)];rfl,by rw[World.ownsRow.cellAt hr3 3 (by simp)];rfl⟩ (fun hHeld=>?_)
 clear hK K hr3
 try go_frame
 refine Gen.tk 14 15 ?_ rfl rfl (Or.inl ⟨by rfl,?_⟩) hHeld ?_;rotate_left
 ·rintro w' ⟨s0,s1,s2,s3⟩;go_simp;try with_reducible rfl
 go_frame
 refine Gen.tk 15 17 ?_ rfl rfl (Or.inl ⟨by rfl,?_⟩) hHeld ?_;rotate_left
 ·rintro w' ⟨s0,s1,s2,s3⟩;go_simp;try with_reducible rfl
 go_frame
 refine Gen.tk 16 18 ?_ rfl rfl (Or.inl ⟨by rfl,?_⟩) hHeld ?_;rotate_left
 ·rintro w' ⟨s0,s1,s2,s3⟩;go_simp;try with_reducible rfl
 go_frame
 refine Gen.tk 17 18 ?_ rfl rfl (Or.inl ⟨by rfl,?_⟩) hHeld ?_;rotate_left
 ·rintro w' ⟨s0,s1,s2,s3⟩;go_simp;try with_reducible rfl
 go_frame
 refine Gen.last (i:=18) (by kernel_rfl) rfl rfl (by kernel_rfl) (by kernel_rfl) (fun K hK=>?_)
 go_simp
 refine hK.out _ _ ?_
 clear hK K hHeld
 go_wp2_with fail
 refine hch.mono ?_
 rintro e w4 ⟨he,hr'⟩
 by_cases hn:n=0
 ·rw[if_pos hn] at he
  subst he
  subst hn
  obtain⟨hf,⟨u,hu⟩,hp⟩:=HI.out y w4 hr'
  have HP:Hid (Post (.returned (.string ⟨#[98,101,103,105,110]⟩)) (w4.setCell ⟨d,0,none⟩ (.pointer y))):=hp
  clear hch HY hr' HI hp
  go_wp2_with fail
  exact HP.out
 ·rw[if_neg hn] at he
  subst he
  have HP:Hid (Post (thrown n) w4):=HY.out n y w4 hr' hn
  clear hch HY hr' HI hn
  go_wp2_with fail
  exact⟨rfl,HP.out⟩
end Wld
end
end Go.Proofs.YtbebfliimjjohabGreatDoor
