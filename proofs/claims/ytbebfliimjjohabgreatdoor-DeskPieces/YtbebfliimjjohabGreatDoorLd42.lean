/- Parts of the proof. -/
import Derived.Test.YtbebfliimjjohabGreatDoorLd38
import Derived.Test.YtbebfliimjjohabGreatDoorLd41
set_option maxRecDepth 100000
set_option maxHeartbeats 8000000
namespace Go.Proofs.YtbebfliimjjohabGreatDoor
section
namespace Wld
open Go.RowKit Go.Maps
open Cache (tp)
open Lease (HasI)
def Rdd(B N d q:Nat)(M:Value)(w:World)(C:Nat)(X:Int→Wd→Prop)(n:Int)(w3:World):Prop:=∃ A s',X n s'∧0≤n∧A.Q=q∧Ds B N d M w3 A s' C∧Dz N d w w3
theorem Rdd.cell{B N d q:Nat}{M:Value}{w:World}{C:Nat}{X:Int→Wd→Prop}{n:Int}{w3:World}(h:Rdd B N d q M w C X n w3):w3.cell? ⟨d,0,none⟩=some (tp q):=by
 obtain⟨A,s,_,_,rfl,h,_⟩:=h
 exact h.dk.c0
theorem Rdd.check{B N d q:Nat}{M:Value}{w:World}{C:Nat}{X:Int→Wd→Prop}{n:Int}{w3:World}(h:Rdd B N d q M w C X n w3) :
  Calls Tryz.prog 144 #[eV n] w3 (fun e w4=>e=(if n=0 then .returned (.tuple #[]) else thrown n)∧Rdd B N d q M w C X n w4):=by
 obtain⟨A,s,hX,h0,hq,hD,hz⟩:=h
 refine(check_ev n h0 w3 hD.laid).mono ?_
 rintro e w4 ⟨rfl,hb⟩
 obtain⟨x,z⟩:=hD.below hb
 exact⟨rfl,A,s,hX,h0,hq,x,hz.trans z⟩
theorem Rdd.op{B N d:Nat}{M:Value}{w w2 w3:World}{A:Wa}{s s':Wd}{C C':Nat}{X:Int→Wd→Prop}{n:Int}{e:Ending}(h:Ds B N d M w A s C)(hb:Below w.heap.size w w2)(ho:Op A s w2 n s' e w3)(hk:Bk s' C')(h0:0≤n)(hX:X n s'):∃ n,e = .returned (eV n)∧Rdd B N d A.Q M w C' X n w3:=by
 obtain⟨rfl,A',hw,f⟩:=ho
 obtain⟨x,z⟩:=h.done hb hw f hk (Below.refl _ _)
 exact⟨n,rfl,A',s',hX,h0,f.Q,x,z⟩
theorem Rdd.kpi{B N d:Nat}{M:Value}{w w2 w3:World}{A:Wa}{s s':Wd}{C:Nat}{n:Int}{e:Ending}(h:Ds B N d M w A s C)(hb:Below w.heap.size w w2)(ho:Op A s w2 n s' e w3):Kpi d w2 w3:=by
 obtain⟨_,A',hw,f⟩:=ho
 obtain⟨x,_⟩:=h.below hb
 have hd:=Fz.desk x.dk.wd f x.dk.typ
 refine⟨World.cell?_of_block (a:=⟨d,0,none⟩) hd,fun X cs t fz hX ht=>?_⟩
 have z:Dz N d w2 w3:=Dz.fz x.dk.wd f x.low
 exact z.off X ⟨_,hX,by rcases ht with rfl|rfl<;>rfl⟩
theorem Rdd.said{B N d q:Nat}{M:Value}{w w4:World}{C:Nat}{X:Int→Wd→Prop}{n:Int}{T:ByteArray}{r:Res}(h:Rdd B N d q M w C X n w4)(hr:∀ s',X n s'→r=told n T s'):Did B N d M w C r (if n=0 then .returned (.string T) else thrown n) w4:=by
 obtain⟨A,s',hX,h0,_,hD,hz⟩:=h
 rw[hr s' hX]
 refine⟨?_,A,hD,hz⟩
 unfold told
 by_cases hn:n=0
 ·rw[if_pos hn];simp only[if_pos hn]
 ·rw[if_neg hn]
  simp only[if_neg hn]
  rw[Int.toNat_of_nonneg h0]
theorem Ds.q{B N d:Nat}{M:Value}{w:World}{A:Wa}{s:Wd}{C:Nat}(h:Ds B N d M w A s C):d<w.heap.size∧w.cell? ⟨d,0,none⟩=some (tp A.Q):=⟨h.dk.typ.lt,h.dk.c0⟩
theorem Did.form{B N d:Nat}{M:Value}{w w2:World}{A:Wa}{s:Wd}{C C':Nat}{r:Res}(h:Ds B N d M w A s C)(hC:C≤C')(hr:r=(.inr 3,s))(hb:Below w.heap.size w w2):Did B N d M w C' r (thrown 3) w2:=by
 rw[hr]
 exact Did.after h hC hb (.inr 3)
structure Wds(w:World)(v:Value)(ws:List ByteArray):Prop where
 has:HasS w v ws
 size:∀ x∈ws,x.size≤1000000
 len:ws.length≤1000000
theorem Wds.nums{B N d:Nat}{M:Value}{w:World}{A:Wa}{s:Wd}{C:Nat}{v:Value}{ws:List ByteArray}(h:Wds w v ws)(hD:Ds B N d M w A s C)(many:Int){w1:World}(hb:Below w.heap.size w w1):Calls Tryz.prog 145 #[v,.int .i64 many] w1 (NumsPost ws many w1):=
 numbers_any B v ws many w1 (hD.base.on hb) (h.has.below hb) h.size h.len
def againP(ws:List ByteArray)(s:Wd):Res:=num1 ws s fun k=>told (s.hasE k) ⟨#[97,103,97,105,110]⟩ (s.againD k)
theorem againT(B N d:Nat)(M:Value)(w:World)(A:Wa)(s:Wd)(C:Nat)(v:Value)(ws:List ByteArray)(h:Ds B N d M w A s C)(hw:Wds w v ws)(hC:C≤800000000) :
  Calls Tryz.prog 79 #[tp d,v] w (Did B N d M w (C+3) (againP ws s)):=by
 refine again_walk d A.Q v ws w (Rdd B N d A.Q M w (C+3) fun n s'=>∃ a,numsOf ws 1=some [a]∧n=s.hasE a∧s'=s.againD a) (Rdd B N d A.Q M w (C+3) fun n s'=>∃ a,numsOf ws 1=some [a]∧n=s.hasE a∧s'=s.againD a) _ h.q.1 h.q.2 (fun w1 hb=>hw.nums h 1 hb) (fun w2 a hb ha=>?_) (fun n w3 hr=>hr.cell) (fun n w3 hr=>hr.check) (fun hn w2 hb=>?_) (fun n w4 hr=>?_)
 ·refine(again_all A s a C w2 (h.below hb).1.dk.wd h.num (by omega)).mono ?_
  intro e w3 ho
  exact Rdd.op h hb ho (h.bk.againD a) (s.hasE_pos a) ⟨a,ha,rfl,rfl⟩
 ·exact Did.form h (by omega) (by unfold againP num1;rw[hn]) hb
 ·refine hr.said ?_
  rintro s' ⟨a,ha,rfl,rfl⟩
  unfold againP num1
  rw[ha]
def deliverP(ws:List ByteArray)(s:Wd):Res:=num1 ws s fun k=>told (s.netE k) ⟨#[100,101,108,105,118,101,114]⟩ (s.deliverD k)
theorem deliverT(B N d:Nat)(M:Value)(w:World)(A:Wa)(s:Wd)(C:Nat)(v:Value)(ws:List ByteArray)(h:Ds B N d M w A s C)(hw:Wds w v ws)(hC:C≤800000000) :
  Calls Tryz.prog 84 #[tp d,v] w (Did B N d M w (C+3) (deliverP ws s)):=by
 refine deliver_walk d A.Q v ws w (Rdd B N d A.Q M w (C+3) fun n s'=>∃ a,numsOf ws 1=some [a]∧n=s.netE a∧s'=s.deliverD a) (Rdd B N d A.Q M w (C+3) fun n s'=>∃ a,numsOf ws 1=some [a]∧n=s.netE a∧s'=s.deliverD a) _ h.q.1 h.q.2 (fun w1 hb=>hw.nums h 1 hb) (fun w2 a hb ha=>?_) (fun n w3 hr=>hr.cell) (fun n w3 hr=>hr.check) (fun hn w2 hb=>?_) (fun n w4 hr=>?_)
 ·refine(deliver_all A s a C w2 (h.below hb).1.dk.wd h.num (by omega)).mono ?_
  intro e w3 ho
  exact Rdd.op h hb ho (h.bk.deliverD a) (s.netE_pos a) ⟨a,ha,rfl,rfl⟩
 ·exact Did.form h (by omega) (by unfold deliverP num1;rw[hn]) hb
 ·refine hr.said ?_
  rintro s' ⟨a,ha,rfl,rfl⟩
  unfold deliverP num1
  rw[ha]
def loseP(ws:List ByteArray)(s:Wd):Res:=num1 ws s fun k=>told (s.netE k) ⟨#[108,111,115,101]⟩ (s.loseD k)
theorem loseT(B N d:Nat)(M:Value)(w:World)(A:Wa)(s:Wd)(C:Nat)(v:Value)(ws:List ByteArray)(h:Ds B N d M w A s C)(hw:Wds w v ws)(hC:C≤800000000) :
  Calls Tryz.prog 88 #[tp d,v] w (Did B N d M w (C+3) (loseP ws s)):=by
 refine lose_walk d A.Q v ws w (Rdd B N d A.Q M w (C+3) fun n s'=>∃ a,numsOf ws 1=some [a]∧n=s.netE a∧s'=s.loseD a) (Rdd B N d A.Q M w (C+3) fun n s'=>∃ a,numsOf ws 1=some [a]∧n=s.netE a∧s'=s.loseD a) _ h.q.1 h.q.2 (fun w1 hb=>hw.nums h 1 hb) (fun w2 a hb ha=>?_) (fun n w3 hr=>hr.cell) (fun n w3 hr=>hr.check) (fun hn w2 hb=>?_) (fun n w4 hr=>?_)
 ·refine(lose_all A s a C w2 (h.below hb).1.dk.wd h.num (by omega)).mono ?_
  intro e w3 ho
  exact Rdd.op h hb ho (h.bk.loseD a) (s.netE_pos a) ⟨a,ha,rfl,rfl⟩
 ·exact Did.form h (by omega) (by unfold loseP num1;rw[hn]) hb
 ·refine hr.said ?_
  rintro s' ⟨a,ha,rfl,rfl⟩
  unfold loseP num1
  rw[ha]
def twiceP(ws:List ByteArray)(s:Wd):Res:=num1 ws s fun k=>told (s.netE k) ⟨#[116,119,105,99,101]⟩ (s.twiceD k)
theorem twiceT(B N d:Nat)(M:Value)(w:World)(A:Wa)(s:Wd)(C:Nat)(v:Value)(ws:List ByteArray)(h:Ds B N d M w A s C)(hw:Wds w v ws)(hC:C≤800000000) :
  Calls Tryz.prog 94 #[tp d,v] w (Did B N d M w (C+3) (twiceP ws s)):=by
 refine twice_walk d A.Q v ws w (Rdd B N d A.Q M w (C+3) fun n s'=>∃ a,numsOf ws 1=some [a]∧n=s.netE a∧s'=s.twiceD a) (Rdd B N d A.Q M w (C+3) fun n s'=>∃ a,numsOf ws 1=some [a]∧n=s.netE a∧s'=s.twiceD a) _ h.q.1 h.q.2 (fun w1 hb=>hw.nums h 1 hb) (fun w2 a hb ha=>?_) (fun n w3 hr=>hr.cell) (fun n w3 hr=>hr.check) (fun hn w2 hb=>?_) (fun n w4 hr=>?_)
 ·refine(twice_all A s a C w2 (h.below hb).1.dk.wd h.num (by omega)).mono ?_
  intro e w3 ho
  exact Rdd.op h hb ho (h.bk.twiceD a) (s.netE_pos a) ⟨a,ha,rfl,rfl⟩
 ·exact Did.form h (by omega) (by unfold twiceP num1;rw[hn]) hb
 ·refine hr.said ?_
  rintro s' ⟨a,ha,rfl,rfl⟩
  unfold twiceP num1
  rw[ha]
def rebornP(ws:List ByteArray)(s:Wd):Res:=num1 ws s fun k=>told (s.hasE k) ⟨#[114,101,98,111,114,110]⟩ (s.rebornD k)
theorem rebornT(B N d:Nat)(M:Value)(w:World)(A:Wa)(s:Wd)(C:Nat)(v:Value)(ws:List ByteArray)(h:Ds B N d M w A s C)(hw:Wds w v ws)(hC:C≤800000000) :
  Calls Tryz.prog 91 #[tp d,v] w (Did B N d M w (C+3) (rebornP ws s)):=by
 refine reborn_walk d A.Q v ws w (Rdd B N d A.Q M w (C+3) fun n s'=>∃ a,numsOf ws 1=some [a]∧n=s.hasE a∧s'=s.rebornD a) (Rdd B N d A.Q M w (C+3) fun n s'=>∃ a,numsOf ws 1=some [a]∧n=s.hasE a∧s'=s.rebornD a) _ h.q.1 h.q.2 (fun w1 hb=>hw.nums h 1 hb) (fun w2 a hb ha=>?_) (fun n w3 hr=>hr.cell) (fun n w3 hr=>hr.check) (fun hn w2 hb=>?_) (fun n w4 hr=>?_)
 ·refine(reborn_all A s a C w2 (h.below hb).1.dk.wd h.num (by omega)).mono ?_
  intro e w3 ho
  exact Rdd.op h hb ho (h.bk.rebornD a) (s.hasE_pos a) ⟨a,ha,rfl,rfl⟩
 ·exact Did.form h (by omega) (by unfold rebornP num1;rw[hn]) hb
 ·refine hr.said ?_
  rintro s' ⟨a,ha,rfl,rfl⟩
  unfold rebornP num1
  rw[ha]
def readP(ws:List ByteArray)(s:Wd):Res:=num2 ws s fun k o=>told (s.readE k o) ⟨#[114,101,97,100]⟩ (s.readD k o)
theorem readT(B N d:Nat)(M:Value)(w:World)(A:Wa)(s:Wd)(C:Nat)(v:Value)(ws:List ByteArray)(h:Ds B N d M w A s C)(hw:Wds w v ws)(hC:C≤800000000) :
  Calls Tryz.prog 90 #[tp d,v] w (Did B N d M w (C+3) (readP ws s)):=by
 refine read_walk d A.Q v ws w (Rdd B N d A.Q M w (C+3) fun n s'=>∃ a b,numsOf ws 2=some [a,b]∧n=s.readE a b∧s'=s.readD a b) (Rdd B N d A.Q M w (C+3) fun n s'=>∃ a b,numsOf ws 2=some [a,b]∧n=s.readE a b∧s'=s.readD a b) _ h.q.1 h.q.2 (hw.nums h 2 (Below.refl _ _)) (fun w2 a b hb ha=>?_) (fun n w3 hr=>hr.check) (fun hn w2 hb=>?_) (fun n w4 hr=>?_)
 ·refine(read_all A s a b C w2 (h.below hb).1.dk.wd h.num (by omega)).mono ?_
  intro e w3 ho
  exact⟨Rdd.op h hb ho (h.bk.readD a b) (s.readE_pos a b) ⟨a,b,ha,rfl,rfl⟩,Rdd.kpi h hb ho⟩
 ·exact Did.form h (by omega) (by unfold readP num2;rw[hn]) hb
 ·refine hr.said ?_
  rintro s' ⟨a,b,ha,rfl,rfl⟩
  unfold readP num2
  rw[ha]
theorem goesT(B N d:Nat)(M:Value)(w:World)(A:Wa)(s:Wd)(C:Nat)(v:Value)(ws:List ByteArray)(h:Ds B N d M w A s C)(hw:Wds w v ws)(hC:C≤800000000) :
  Calls Tryz.prog 86 #[tp d,v] w (Did B N d M w (C+3) (goesP ws s)):=by
 have hnw:=hw.nums h ws.length (below_drew w)
 obtain⟨ao,c,rfl,hc,hp⟩:=hw.has
 have hno:numsOf ws ws.length=numsW ws:=by unfold numsOf;rw[if_pos rfl]
 refine goes_walk d A.Q ao c ws w (Rdd B N d A.Q M w (C+3) fun n s'=>∃ l,numsOf ws ws.length=some l∧n=s.goesE l∧s'=s.goesD l) (Rdd B N d A.Q M w (C+3) fun n s'=>∃ l,numsOf ws ws.length=some l∧n=s.goesE l∧s'=s.goesD l) _ h.q.1 h.q.2 hnw (fun w2 v2 l B2 hb ha hv=>?_) (fun n w3 hr=>hr.check) (fun hn w2 hb=>?_) (fun n w4 hr=>?_)
 ·have hll:l.length≤1000000:=by
   rw[hno] at ha
   rw[numsW_len _ _ ha]
   exact hw.len
  refine(goes_all A s B2 v2 l C w2 (h.below hb).1.dk.wd h.num (by omega) hv hll).mono ?_
  intro e w3 ho
  exact⟨Rdd.op h hb ho (h.bk.goesD l) (s.goesE_pos l) ⟨l,ha,rfl,rfl⟩,Rdd.kpi h hb ho⟩
 ·exact Did.form h (by omega) (by unfold goesP;rw[hno] at hn;rw[hn]) hb
 ·refine hr.said ?_
  rintro s' ⟨l,ha,rfl,rfl⟩
  unfold goesP
  rw[hno] at ha
  rw[ha]
theorem writeT(B N d:Nat)(M:Value)(w:World)(A:Wa)(s:Wd)(C:Nat)(v:Value)(ws:List ByteArray)(h:Ds B N d M w A s C)(hw:Wds w v ws)(hC:C≤800000000)(hgs:∀ g o n c,v = .slice (some ⟨g,o,none⟩) n c→∃ cs f,w.heap[g]?=some (.cells cs 9 f)) :
  Calls Tryz.prog 97 #[tp d,v] w (Did B N d M w (C+3) (writeP ws s)):=by
 have hw':=hw
 obtain⟨ao,c,rfl,hc,hp⟩:=hw.has
 by_cases h3:ws.length=3
 ·obtain⟨gw,o,rfl,hlt,hcell⟩:=hp (by omega)
  have hx:w.cell? ⟨gw,o+2,none⟩=some (.string (ws.getD 2 ⟨#[]⟩)):=by
   rw[hcell 2 (by omega),List.getD_eq_getElem?_getD,List.getElem?_eq_getElem (by omega)]
   rfl
  have hxs:(ws.getD 2 ⟨#[]⟩).size≤1000000:=by
   rw[List.getD_eq_getElem?_getD,List.getElem?_eq_getElem (by omega)]
   exact hw.size _ (List.getElem_mem _)
  have hl2:(ws.take 2).length=2:=by rw[List.length_take];omega
  have hw2:Wds w (.slice (some ⟨gw,o,none⟩) 2 c) (ws.take 2):=⟨⟨_,c,by rw[hl2],by omega,fun _=>⟨gw,o,rfl,hlt,fun i hi=>by rw[List.getElem_take];exact hcell i (by omega)⟩⟩,fun x hx=>hw.size x (List.mem_of_mem_take hx),by omega⟩
  have hnw:=hw2.nums h 2 (Below.refl _ _)
  have hg:=hgs gw o _ _ rfl
  rw[h3]
  refine write_walk d A.Q gw o c (ws.getD 2 ⟨#[]⟩) ws w (Rdd B N d A.Q M w (C+3) fun n s'=>∃ a b,numsOf (ws.take 2) 2=some [a,b]∧n=s.writeE a b (ws.getD 2 ⟨#[]⟩)∧s'=s.writeD a b (ws.getD 2 ⟨#[]⟩)) (Rdd B N d A.Q M w (C+3) fun n s'=>∃ a b,numsOf (ws.take 2) 2=some [a,b]∧n=s.writeE a b (ws.getD 2 ⟨#[]⟩)∧s'=s.writeD a b (ws.getD 2 ⟨#[]⟩)) _ h.q.1 h.q.2 (by omega) hg hx hnw (fun w2 a b hb ha=>?_) (fun n w3 hr=>hr.check) (fun hn w2 hb=>?_) (fun n w4 hr=>?_)
  ·refine(write_all A s a b _ C w2 (h.below hb).1.dk.wd h.num (by omega) hxs).mono ?_
   intro e w3 ho
   exact⟨Rdd.op h hb ho (h.bk.writeD a b _) (s.writeE_pos a b _) ⟨a,b,ha,rfl,rfl⟩,Rdd.kpi h hb ho⟩
  ·exact Did.form h (by omega) (by unfold writeP num2;rw[if_pos h3,hn]) hb
  ·refine hr.said ?_
   rintro s' ⟨a,b,ha,rfl,rfl⟩
   unfold writeP num2
   rw[if_pos h3,ha]
 ·have hn:=need_no ao c ws.length 3 w (by omega)
  have HE:Hid (Did B N d M w (C+3) (writeP ws s) (thrown 3) w):=Did.form h (by omega) (by unfold writeP;rw[if_neg h3]) (Below.refl _ _)
  clear h hw hw' hgs hp
  go_enter Tryz.func97,Tryz.ntmps97
  go_wp2_with fail
  refine hn.mono ?_
  rintro e w2 ⟨rfl,hw2⟩
  rw[hw2]
  clear hw2 hn
  go_wp2_with fail
  exact⟨rfl,HE.out⟩
def failsP(ws:List ByteArray)(s:Wd):Res:=num2 ws s fun a b=>(.inl ⟨#[102,97,105,108,115]⟩,s.failing a b)
theorem numW_le{x:ByteArray}{n:Int}(h:numW x=some n):-9223372036854775808≤n∧n≤9223372036854775807:=by
 unfold numW at h
 cases ha:Lib.atoiAll x.data.toList with
 | ok v=>
  rw[ha] at h
  dsimp only at h
  split at h
  ·injection h with h
   subst h
   exact Lib.atoiAll_bounds ha
  ·cases h
 | «syntax»=>rw[ha] at h;cases h
 | range=>rw[ha] at h;cases h
theorem numsW_le:∀ {ws:List ByteArray} {l:List Int},numsW ws=some l→∀ n∈l,-9223372036854775808≤n∧n≤9223372036854775807
 | [],l,h,n,hn=>by
  injection h with h
  subst h
  cases hn
 | x :: t,l,h,n,hn=>by
  unfold numsW at h
  cases hx:numW x with
  | none=>rw[hx] at h;cases h
  | some m=>
   rw[hx] at h
   dsimp only at h
   cases ht:numsW t with
   | none=>rw[ht] at h;cases h
   | some l'=>
    rw[ht] at h
    injection h with h
    subst h
    rcases List.mem_cons.1 hn with rfl|hn
    ·exact numW_le hx
    ·exact numsW_le ht n hn
theorem numsOf_le{ws:List ByteArray}{k:Int}{l:List Int}(h:numsOf ws k=some l):∀ n∈l,-9223372036854775808≤n∧n≤9223372036854775807:=by
 unfold numsOf at h
 split at h
 ·exact numsW_le h
 ·cases h
theorem failsT(B N d:Nat)(M:Value)(w:World)(A:Wa)(s:Wd)(C:Nat)(v:Value)(ws:List ByteArray)(h:Ds B N d M w A s C)(hw:Wds w v ws) :
  Calls Tryz.prog 85 #[tp d,v] w (Did B N d M w (C+3) (failsP ws s)):=by
 refine fails_walk d A.Q v ws w _ h.q.1 h.q.2 (hw.nums h 2 (Below.refl _ _)) (fun w2 a b hb ha=>?_) (fun hn w2 hb=>?_)
 ·refine(fails_any A s a b w2 (h.below hb).1.dk.wd).mono ?_
  rintro e w3 ⟨rfl,x,f⟩
  obtain⟨y,z⟩:=h.done hb x f (h.bk.failing (numsOf_le ha a (by simp)).2 b) (Below.refl _ _)
  refine⟨rfl,?_⟩
  unfold failsP num2
  rw[ha]
  exact⟨rfl,A,y,z⟩
 ·exact Did.form h (by omega) (by unfold failsP num2;rw[hn]) hb
def calmP(ws:List ByteArray)(s:Wd):Res:=num1 ws s fun r=>if r<0∨200<r then (.inr 2,s) else (.inl ⟨#[99,97,108,109]⟩,s.calm r.toNat)
theorem calmT(B N d:Nat)(M:Value)(w:World)(A:Wa)(s:Wd)(C:Nat)(v:Value)(ws:List ByteArray)(h:Ds B N d M w A s C)(hw:Wds w v ws)(hC:C+3600000≤800000000) :
  Calls Tryz.prog 82 #[tp d,v] w (Did B N d M w (C+3600000) (calmP ws s)):=by
 refine calm_walk d A.Q v ws w _ h.q.1 h.q.2 (hw.nums h 1 (Below.refl _ _)) (fun w2 a hb ha h2=>?_) (fun hn w2 hb=>?_) (fun a w2 ha h2 hb=>?_)
 ·obtain⟨x,z⟩:=h.below hb
  refine(calmA_any A s C a w2 x.dk.wd h.num (by omega) h.rk x.laid x.low1).mono ?_
  rintro e w3 ⟨rfl,a',y,f⟩
  obtain⟨u,t⟩:=h.done hb y f ((h.bk.calm x.dk.wd.n4 a).mono (show C+18000*a≤C+3600000 by omega)) (Below.refl _ _)
  refine⟨rfl,?_⟩
  unfold calmP num1
  rw[ha]
  dsimp only
  rw[if_neg (by omega)]
  exact⟨rfl,_,u,t⟩
 ·exact Did.form h (by omega) (by unfold calmP num1;rw[hn]) hb
 ·unfold calmP num1
  rw[ha]
  dsimp only
  rw[if_pos h2]
  exact Did.after h (by omega) hb (.inr 2)
end Wld
end
section
namespace Wld
open Go.RowKit Go.Maps
open Cache (tp)
open Lease (HasI I64)
theorem itoa_any{B:Nat}{w:World}(h:Base B w){y:Int}(hy:I64 y):Calls Tryz.prog 78 #[.int .i64 y] w fun e w'=>e = .returned (.string (itoaT y))∧Below w.heap.size w w':=by
 refine(Tryz.strconv_Itoa y (by have:=hy.1;omega) (by have:=hy.2;omega) w h.tab.here).mono ?_
 rintro e w' ⟨rfl,k,os,rfl⟩
 exact⟨rfl,Lib.below_grow _ _ (Nat.le_refl _) k os⟩
theorem itoaT_size{y:Int}(hy:I64 y):(itoaT y).size≤100:=by
 have h2:=Lib.itoa_length_le y (by have:=hy.1;omega) (by have:=hy.2;omega)
 show (Lib.itoa y).toArray.size≤100
 rw[List.size_toArray]
 omega
theorem shown_any(B:Nat)(d:ByteArray)(y:Int)(w:World)(h:Base B w)(hd:d.size≤1000000)(hy:I64 y) :
  Calls Tryz.prog 153 #[.agg #[.string d,.int .i64 y]] w fun e w'=>e = .returned (.string (shownT d y))∧Below w.heap.size w w':=by
 have hb1:Below w.heap.size w (w.alloc (.cells #[.string d,.int .i64 y] 41)):=(Below.refl _ _).alloc (Nat.le_refl _) _
 have hit:=itoa_any (h.on hb1) hy
 have hsz:=itoaT_size hy
 have HE:Hid (shownT d y=(if d=⟨#[]⟩ then ⟨#[95]⟩ else d)++⟨#[32]⟩++itoaT y):=rfl
 generalize itoaT y=t at *
 generalize shownT d y=r at *
 have HB:Hid (∀ w',Below (w.alloc (.cells #[.string d,.int .i64 y] 41)).heap.size (w.alloc (.cells #[.string d,.int .i64 y] 41)) w'→Below w.heap.size w w'):=fun w' hb=>hb1.trans (hb.mono hb1.size)
 clear h hb1 hy
 by_cases h0:d=⟨#[]⟩
 ·have HR:Hid (r=⟨#[95]⟩++⟨#[32]⟩++t):=by rw[Hid,HE.out,if_pos h0]
  clear HE
  subst h0
  go_enter Tryz.func153,Tryz.ntmps153
  go_wp2_with fail
  refine hit.mono ?_
  rintro e w2 ⟨rfl,hb⟩
  have HF:Hid (Below w.heap.size w w2):=HB.out w2 hb
  clear hit hb HB
  have hlen:¬ 9223372036854775807<2+t.size:=by omega
  go_wp2_with fail
  go_ret
  exact⟨by rw[HR.out];rfl,HF.out⟩
 ·have HR:Hid (r=d++⟨#[32]⟩++t):=by rw[Hid,HE.out,if_neg h0]
  have hne:d.toList.isEmpty=false:=by
   cases hl:d.toList with
   | nil=>
    rw[ByteArray.toList_eq] at hl
    exact absurd (Go.WideShapes.bytes_inj (b:=⟨#[]⟩) hl) h0
   | cons a b=>rfl
  clear HE h0
  have hl1:¬ 9223372036854775807<d.size+1:=by omega
  go_enter Tryz.func153,Tryz.ntmps153
  go_wp2_with fail
  refine hit.mono ?_
  rintro e w2 ⟨rfl,hb⟩
  have HF:Hid (Below w.heap.size w w2):=HB.out w2 hb
  clear hit hb HB
  have hlen:¬ 9223372036854775807<d.size+1+t.size:=by omega
  go_wp2_with fail
  go_ret
  exact⟨by rw[HR.out];rfl,HF.out⟩
theorem Did.text{B N d:Nat}{M:Value}{w w2:World}{A:Wa}{s:Wd}{C C':Nat}{r:Res}{t:ByteArray}(h:Ds B N d M w A s C)(hC:C≤C')(hr:r=(.inl t,s))(hb:Below w.heap.size w w2):Did B N d M w C' r (.returned (.string t)) w2:=by
 rw[hr]
 exact Did.after h hC hb (.inl t)
theorem Did.fault{B N d:Nat}{M:Value}{w w2:World}{A:Wa}{s:Wd}{C C':Nat}{r:Res}{n:Nat}(h:Ds B N d M w A s C)(hC:C≤C')(hr:r=(.inr n,s))(hb:Below w.heap.size w w2):Did B N d M w C' r (thrown n) w2:=by
 rw[hr]
 exact Did.after h hC hb (.inr n)
theorem valueT(B N d:Nat)(M:Value)(w:World)(A:Wa)(s:Wd)(C:Nat)(v:Value)(ws:List ByteArray)(h:Ds B N d M w A s C)(hw:Wds w v ws) :
  Calls Tryz.prog 96 #[tp d,v] w (Did B N d M w (C+3) (num1 ws s fun o=>valueP s o)):=by
 refine value_walk d A.Q v ws w (fun n dd y=>∃ a,numsOf ws 1=some [a]∧(n=0→valueP s a=(.inl (shownT dd y),s)∧dd.size≤1000000∧I64 y)∧(n≠0→0≤n∧valueP s a=(.inr n.toNat,s))∧0≤n) _ h.q.1 h.q.2 (fun w1 hb=>hw.nums h 1 hb) (fun w2 a hb ha=>?_) (fun n w3 hb=>?_) (fun hn w2 hb=>?_) (fun n dd y w4 hr hn hb=>?_) (fun dd y w4 hr hb=>?_)
 ·have x:=(h.below hb).1.dk.wd
  cases hs:s.sv with
  | none=>
   refine(valueW_down A s a w2 x hs).mono ?_
   rintro e w3 ⟨rfl,hb3⟩
   exact⟨⟨6,_,_,rfl,a,ha,(by omega),fun _=>⟨by omega,by unfold valueP;rw[hs];rfl⟩,by omega⟩,hb3⟩
  | some u=>
   by_cases ho:Lease.objB a=true
   ·have h1:0≤a∧a≤7:=by simpa[Lease.objB,Num.inB] using ho
    have e1:((a.toNat:Nat):Int)=a:=Int.toNat_of_nonneg h1.1
    have hv:=valueW_ok A s u a.toNat w2 x hs (by omega)
    rw[e1] at hv
    refine hv.mono ?_
    rintro e w3 ⟨rfl,hb3⟩
    obtain⟨hu,_⟩:=h.num.sv u hs
    refine⟨⟨0,_,_,rfl,a,ha,fun _=>⟨by unfold valueP;rw[hs];dsimp only;rw[if_pos ho],by have:=hu.vdl a.toNat;omega,?_⟩,fun q=>absurd rfl q,by omega⟩,hb3⟩
    have h2:=hu.vv0 a.toNat
    have h3:=hu.vv1 a.toNat
    have h4:=hu.len
    exact⟨by omega,by omega⟩
   ·have ho':Lease.objB a=false:=by simpa using ho
    refine(valueW_bad A s u a w2 x hs ho').mono ?_
    rintro e w3 ⟨rfl,hb3⟩
    exact⟨⟨2,_,_,rfl,a,ha,(by omega),fun _=>⟨by omega,by unfold valueP;rw[hs];dsimp only;rw[if_neg ho];rfl⟩,by omega⟩,hb3⟩
 ·by_cases h0:0≤n
  ·exact check_ev n h0 w3 (h.below hb).1.laid
  ·rw[show eV n = .iface 59 (.int .i64 n) from if_neg (by omega),if_neg (by omega)]
   exact check_err n w3 (h.below hb).1.laid
 ·exact Did.form h (by omega) (by unfold num1;rw[hn]) hb
 ·obtain⟨a,ha,_,h2,h3⟩:=hr
  have:=Did.fault (C':=C+3) h (by omega) (show (num1 ws s fun o=>valueP s o)=(.inr n.toNat,s) by unfold num1;rw[ha];exact(h2 hn).2) hb
  rw[Int.toNat_of_nonneg h3] at this
  exact this
 ·obtain⟨a,ha,h1,_,_⟩:=hr
  obtain⟨h1,h2,h3⟩:=h1 rfl
  refine(shown_any B dd y w4 (h.below hb).1.base h2 h3).mono ?_
  rintro e w5 ⟨rfl,hb5⟩
  exact⟨_,rfl,Did.text h (by omega) (by unfold num1;rw[ha];exact h1) (hb.trans (hb5.mono hb.size))⟩
end Wld
end
section
namespace Wld
open Go.RowKit Go.Maps
open Cache (tp row_kept)
open Lease (HasI I64)
open Wal (DiskIs)
open Net (NetIs)
theorem within_all(n m:Int)(w:World) :
  Calls Tryz.prog 39 #[.int .i64 n,.int .i64 m] w fun e w'=>e = .returned (.bool (decide (0≤n∧n≤m)))∧w'=w:=by
 by_cases h0:0≤n
 ·have g0:decide (0≤n)=true:=decide_eq_true h0
  go_enter Tryz.func39,Tryz.ntmps39
  go_wp2
  go_ret
  exact⟨by simp[h0],rfl⟩
 ·have g0:decide (0≤n)=false:=decide_eq_false h0
  go_enter Tryz.func39,Tryz.ntmps39
  go_wp2
  go_ret
  exact⟨by simp,rfl⟩
theorem shortC_all(a b:Int)(w:World) :
  Calls Tryz.prog 15 #[.int .i64 a,.int .i64 b] w fun e w'=>e = .returned (.tuple #[.int .i64 (if shortB a b=true then short a b else 0),eV (if shortB a b=true then 0 else 2)])∧w'=w:=by
 by_cases ha:0≤a∧a≤500
 ·by_cases hb:0≤b∧b≤1099511627776
  ·rw[if_pos (by simp[shortB,ha,hb]),if_pos (by simp[shortB,ha,hb])]
   exact Clock.short_any a b w ha.1 ha.2 hb.1 hb.2
  ·rw[if_neg (by simp[shortB];omega),if_neg (by simp[shortB];omega)]
   have h1:=fun w=>within_all a 500 w
   have h2:=fun w=>within_all b 1099511627776 w
   rw[decide_eq_true ha] at h1
   rw[decide_eq_false hb] at h2
   clear ha hb
   go_enter Tryz.func15,Tryz.ntmps15
   go_wp2_with fail
   refine(h1 _).mono ?_
   rintro e w' ⟨rfl,rfl⟩
   clear h1
   go_wp2_with fail
   refine(h2 _).mono ?_
   rintro e w' ⟨rfl,rfl⟩
   clear h2
   go_wp2_with fail
   go_ret2
   exact⟨rfl,rfl⟩
 ·rw[if_neg (by simp[shortB];omega),if_neg (by simp[shortB];omega)]
  have h1:=fun w=>within_all a 500 w
  rw[decide_eq_false ha] at h1
  clear ha
  go_enter Tryz.func15,Tryz.ntmps15
  go_wp2_with fail
  refine(h1 _).mono ?_
  rintro e w' ⟨rfl,rfl⟩
  clear h1
  go_wp2_with fail
  go_ret2
  exact⟨rfl,rfl⟩
def shortP(ws:List ByteArray)(s:Wd):Res:=num2 ws s fun a b=>if shortB a b=true then (.inl (itoaT (short a b)),s) else (.inr 2,s)
theorem short_i64{a b:Int}(h:shortB a b=true):I64 (short a b):=by
 simp[shortB] at h
 obtain⟨⟨h1,h2⟩,h3,h4⟩:=h
 obtain⟨p0,p1⟩:=Plain.prod_bd (a:=b) (b:=1000-a) (A:=1099511627776) (B:=1000) h3 h4 (by omega) (by omega)
 unfold short
 have q0:0≤b*(1000-a) / (1000+a):=Int.ediv_nonneg p0 (by omega)
 have q1:b*(1000-a) / (1000+a)≤b*(1000-a):=Int.ediv_le_self _ p0
 exact⟨by omega,by omega⟩
theorem kpi_below{d:Nat}{w w':World}(hd:d<w.heap.size)(hb:Below w.heap.size w w'):Kpi d w w':=⟨hb.cell (p:=⟨d,0,none⟩) hd,fun X _ _ _ hX _=>hb.block X (Array.getElem?_eq_some_iff.1 hX).1⟩
theorem shortT(B N d:Nat)(M:Value)(w:World)(A:Wa)(s:Wd)(C:Nat)(v:Value)(ws:List ByteArray)(h:Ds B N d M w A s C)(hw:Wds w v ws) :
  Calls Tryz.prog 93 #[tp d,v] w (Did B N d M w (C+3) (shortP ws s)):=by
 refine short_walk d v ws w (fun n y w3=>Below w.heap.size w w3∧∃ a b,numsOf ws 2=some [a,b]∧n=(if shortB a b=true then 0 else 2)∧y=(if shortB a b=true then short a b else 0)) (fun n y w3=>Below w.heap.size w w3∧∃ a b,numsOf ws 2=some [a,b]∧n=(if shortB a b=true then 0 else 2)∧y=(if shortB a b=true then short a b else 0)) _ (hw.nums h 2 (Below.refl _ _)) (fun w2 a b hb ha=>?_) (fun n y w3 hr=>?_) (fun hn w2 hb=>?_) (fun n y w4 hr hn=>?_) (fun y w4 hr=>?_)
 ·refine(shortC_all a b w2).mono ?_
  rintro e w3 ⟨rfl,rfl⟩
  exact⟨⟨_,_,rfl,hb,a,b,ha,rfl,rfl⟩,kpi_below (Nat.lt_of_lt_of_le h.q.1 hb.size) (Below.refl _ _)⟩
 ·obtain⟨hb,a,b,ha,rfl,rfl⟩:=hr
  refine(check_ev _ (by split<;>omega) w3 (h.below hb).1.laid).mono ?_
  rintro e w4 ⟨rfl,hb4⟩
  exact⟨rfl,hb.trans (hb4.mono hb.size),a,b,ha,rfl,rfl⟩
 ·exact Did.form h (by omega) (by unfold shortP num2;rw[hn]) hb
 ·obtain⟨hb,a,b,ha,rfl,rfl⟩:=hr
  have hf:¬ shortB a b=true:=fun q=>hn (if_pos q)
  rw[if_neg hf]
  exact Did.fault (n:=2) h (by omega) (by unfold shortP num2;rw[ha];exact if_neg hf) hb
 ·obtain⟨hb,a,b,ha,h1,rfl⟩:=hr
  have hf:shortB a b=true:=by
   cases hq:shortB a b with
   | true=>rfl
   | false=>rw[hq] at h1;cases h1
  rw[if_pos hf]
  refine(itoa_any (h.below hb).1.base (short_i64 hf)).mono ?_
  rintro e w5 ⟨rfl,hb5⟩
  exact⟨_,rfl,Did.text h (by omega) (by unfold shortP num2;rw[ha];exact if_pos hf) (hb.trans (hb5.mono hb.size))⟩
theorem Deed.did{B N d:Nat}{M:Value}{w w':World}{A:Wa}{s s':Wd}{C C':Nat}{r:ByteArray ⊕ Nat}{e:Ending}(h:Ds B N d M w A s C)(hD:Deed d M A s w r s' e w')(hk:Bk s' C'):Did B N d M w C' (r,s') e w':=by
 obtain⟨rfl,A',hw,f⟩:=hD
 obtain⟨x,z⟩:=h.fz hw.wd f hk.1 hk.2.1 hk.2.2
 exact⟨rfl,A',x,z⟩
def crashP(ws:List ByteArray)(s:Wd):Res:=num0 ws s (.inl ⟨#[99,114,97,115,104]⟩,s.crash)
theorem crashT(B N d:Nat)(M:Value)(w:World)(A:Wa)(s:Wd)(C:Nat)(v:Value)(ws:List ByteArray)(h:Ds B N d M w A s C)(hw:Wds w v ws)(hC:C≤800000000) :
  Calls Tryz.prog 83 #[tp d,v] w (Did B N d M w (C+3) (crashP ws s)):=by
 obtain⟨ao,c,rfl,_,_⟩:=hw.has
 refine(crashD d M A s C ao ws.length c w h.dk h.num (by omega)).mono ?_
 intro e w' hD
 unfold crashP num0
 by_cases h0:ws.length=0
 ·rw[if_pos h0] at hD ⊢
  rw[if_pos h0] at hD
  exact hD.did h h.bk.crash
 ·rw[if_neg h0] at hD ⊢
  rw[if_neg h0] at hD
  exact hD.did h (h.bk.mono (by omega))
def restartP(ws:List ByteArray)(s:Wd):Res:=num0 ws s (if s.sv.isSome=true then .inr 6 else .inl RST,s.restart)
theorem restartT(B N d:Nat)(M:Value)(w:World)(A:Wa)(s:Wd)(C:Nat)(v:Value)(ws:List ByteArray)(h:Ds B N d M w A s C)(hw:Wds w v ws)(hC:C≤800000000) :
  Calls Tryz.prog 92 #[tp d,v] w (Did B N d M w (C+3) (restartP ws s)):=by
 obtain⟨ao,c,rfl,_,_⟩:=hw.has
 refine(restartD d M A s B C ao ws.length c w h.dk h.num (by omega) h.base h.low1 h.rk).mono ?_
 intro e w' hD
 unfold restartP num0
 by_cases h0:ws.length=0
 ·rw[if_pos h0] at hD ⊢
  rw[if_pos h0] at hD
  exact hD.did h h.bk.restart
 ·rw[if_neg h0] at hD ⊢
  rw[if_neg h0] at hD
  exact hD.did h (h.bk.mono (by omega))
def manyP(ws:List ByteArray)(s:Wd):Res:=num0 ws s (.inl (itoaT s.net.length),s)
theorem manyT(B N d:Nat)(M:Value)(w:World)(A:Wa)(s:Wd)(C:Nat)(v:Value)(ws:List ByteArray)(h:Ds B N d M w A s C)(hw:Wds w v ws) :
  Calls Tryz.prog 89 #[tp d,v] w (Did B N d M w (C+3) (manyP ws s)):=by
 obtain⟨ao,c,rfl,_,_⟩:=hw.has
 refine(manyD d M A s B ao ws.length c w h.dk h.num.netl h.base).mono ?_
 intro e w' hD
 unfold manyP num0
 by_cases h0:ws.length=0
 ·rw[if_pos h0] at hD ⊢
  exact hD.did h (h.bk.mono (by omega))
 ·rw[if_neg h0] at hD ⊢
  exact hD.did h (h.bk.mono (by omega))
def upP(ws:List ByteArray)(s:Wd):Res:=num0 ws s (.inl ⟨(Lib.formatBool s.sv.isSome).toArray⟩,s)
theorem upT(B N d:Nat)(M:Value)(w:World)(A:Wa)(s:Wd)(C:Nat)(v:Value)(ws:List ByteArray)(h:Ds B N d M w A s C)(hw:Wds w v ws) :
  Calls Tryz.prog 95 #[tp d,v] w (Did B N d M w (C+3) (upP ws s)):=by
 obtain⟨ao,c,rfl,_,_⟩:=hw.has
 refine(upD d M A s ao ws.length c w h.dk).mono ?_
 intro e w' hD
 unfold upP num0
 by_cases h0:ws.length=0
 ·rw[if_pos h0] at hD ⊢
  exact hD.did h (h.bk.mono (by omega))
 ·rw[if_neg h0] at hD ⊢
  exact hD.did h (h.bk.mono (by omega))
theorem WdIs.aside{w w':World}{A:Wa}{s:Wd}(h:WdIs w A s)(hs:w.heap.size≤w'.heap.size)(o:∀ y,wfoot w A s y∨isC w y 201→w'.heap[y]?=w.heap[y]?):WdIs w' A s∧∀ k,wfoot w' A s k→wfoot w A s k:=by
 have hQ:=o A.Q (.inl (.Q rfl))
 have eQ:∀ i,w'.cell? ⟨A.Q,i,none⟩=w.cell? ⟨A.Q,i,none⟩:=fun i=>World.cell?_of_block hQ
 have fQ:∀ i,w'.frozen? ⟨A.Q,i,none⟩=w.frozen? ⟨A.Q,i,none⟩:=fun i=>World.frozen?_of_block hQ
 have hG:=o A.G (.inl (.G rfl))
 have hN:NetIs w' (A.Q+1) A.Q (s.net.map encN):=NetIs.kept h.net hs (eQ _) (eQ _) fQ fun v g hv hg=>by
  obtain⟨v',hv',hr⟩:=h.net.row
  rw[hv] at hv'
  injection hv' with hv'
  subst hv'
  exact o g (.inr (row_isC hr hg).2)
 have hD:DiskIs w' A.Q s.rs s.fails s.left:=DiskIs.cells h.disk (fun i _ _=>eQ i) fQ
 have hfoot:∀ v,s.sv=some v→∀ y,foot w A.a y→y≠A.a.q→w'.heap[y]?=w.heap[y]?:=fun v hv y hy _=>o y (.inl (.sv (by rw[hv];rfl) hy))
 refine⟨⟨h.core.cells (h.core.typ.same hQ) (fun i _ _=>eQ i) fQ,hD,hN,h.evs.imp fun v hv=>⟨(eQ _).trans hv.1,row_kept hv.2 fun g hg=>o g (.inl (.ev v hv.1 hg))⟩,h.gt.same hG,fun i=>(World.frozen?_of_block (a:=⟨A.G,i,none⟩) hG).trans (h.gf i),fun i hi=>(h.seats i hi).same hG,fun i hi=>(h.cli i hi).blocks (o _ (.inl (.c i hi rfl))) (o _ (.inl (.m i hi rfl))),h.ap,fun v hv=>?_,h.n1,h.n4⟩,fun k f=>?_⟩
 ·have u:=h.up v hv
  exact⟨u.sv.feet hs (by rw[u.q,u.rs,u.fails,u.left];exact hD) (hfoot v hv),u.q,u.rs,u.fails,u.left,u.ne,u.to,u.tv⟩
 ·rcases f with f|f|⟨v,f1,f2⟩|⟨i,hi,f⟩|⟨i,hi,f⟩|⟨f1,f2⟩
  ·exact .Q f
  ·exact .G f
  ·exact .ev v ((eQ _).symm.trans f1) f2
  ·exact .c i hi f
  ·exact .m i hi f
  ·obtain⟨v,hv⟩:=Option.isSome_iff_exists.1 f1
   have u:=h.up v hv
   have hl:=u.sv.lts
   exact .sv f1 ((foot_kept (hfoot v hv _ (.inr (.inr (.inr (.inl rfl)))) (by omega)) (hfoot v hv _ (.inr (.inr (.inl rfl))) (by omega)) k).1 f2)
end Wld
end
section
namespace Wld
open Go.RowKit Go.Maps
open Cache (tp row_kept)
open Lease (HasI I64)
def beginP(ws:List ByteArray)(s:Wd):Res:=num4 ws s fun a b c k=>if beginB a b c k=true then (.inl ⟨#[98,101,103,105,110]⟩,(Wd.bare a b c k.toNat).start) else (.inr 2,s)
def Bg(ws:List ByteArray)(w:World)(n:Int)(y:Option Addr)(w3:World):Prop:=
 Below w.heap.size w w3∧∃ a b c k,numsOf ws 4=some [a,b,c,k]∧((n=0∧beginB a b c k=true∧∃ A,y=some ⟨A.Q,0,none⟩∧WdIs w3 A (Wd.bare a b c k.toNat).start∧Low w.heap.size w3 A (Wd.bare a b c k.toNat).start)∨(n=2∧beginB a b c k=false))
theorem Ds.turned{B N d:Nat}{M:Value}{w w4:World}{A A':Wa}{s s':Wd}{C C':Nat}(h:Ds B N d M w A s C)(hb:Below w.heap.size w w4)(hw:WdIs w4 A' s')(hl:Low w.heap.size w4 A' s')(hk:Bk s' C') :
  Ds B N d M (w4.setCell ⟨d,0,none⟩ (tp A'.Q)) A' s' C'∧Dz N d w (w4.setCell ⟨d,0,none⟩ (tp A'.Q)):=by
 have o:∀ y,y≠d→(w4.setCell ⟨d,0,none⟩ (tp A'.Q)).heap[y]?=w4.heap[y]?:=fun y hy=>Below.heap_setCell w4 ⟨d,0,none⟩ _ y hy
 have ht:isC w4 d 168:=h.dk.typ.same (hb.block d h.q.1)
 obtain⟨x,y⟩:=hw.aside (w':=w4.setCell ⟨d,0,none⟩ (tp A'.Q)) (by simp) (fun y hy=>o y (by
  rintro rfl
  rcases hy with q|q
  ·exact hw.notFoot ht (by decide) (by decide) (by decide) (by decide) (by decide) q
  ·exact ht.ne q (by decide) rfl))
 have e0:w4.cell? ⟨d,0,none⟩=some (tp A.Q):=(hb.cell (p:=⟨d,0,none⟩) h.q.1).trans h.dk.c0
 have e1:w4.cell? ⟨d,1,none⟩=some M:=(hb.cell (p:=⟨d,1,none⟩) h.q.1).trans h.dk.c1
 have z:Dz N d w (w4.setCell ⟨d,0,none⟩ (tp A'.Q)):=⟨hb.os,hb.tape,hb.output,by have:=hb.size;simpa using this,fun k hk hd=>(o k hd).trans (hb.block k (by have:=h.nw;omega)),fun k hk=>(o k (by
  rintro rfl
  exact h.dk.typ.notOff rfl hk)).trans (hb.block k hk.lt)⟩
 refine⟨⟨⟨Wal.typ_setCell ht,World.cell?_setCell_same _ _ _ e0,(World.cell?_setCell_other _ _ _ _ (by intro q;injection q with _ q;cases q)).trans e1,x⟩,fun i=>?_,fun k hk=>Nat.le_trans h.nw (hl k (y k hk)),h.base.below (z.to (by have:=h.bd;have:=h.dN;omega) h.bd),h.bd,h.dN,Nat.le_trans h.nw z.size,hk.1,hk.2.1,hk.2.2⟩,z⟩
 rw[World.frozen?_setCell]
 exact(hb.frozen (p:=⟨d,i,none⟩) h.q.1).trans (h.fro i)
theorem beginT(B N d:Nat)(M:Value)(w:World)(A:Wa)(s:Wd)(C:Nat)(v:Value)(ws:List ByteArray)(h:Ds B N d M w A s C)(hw:Wds w v ws) :
  Calls Tryz.prog 80 #[tp d,v] w (Did B N d M w (C+3) (beginP ws s)):=by
 refine begin_walk d v ws w (Bg ws w) (Bg ws w) _ (hw.nums h 4 (Below.refl _ _)) (fun w2 a b c k hb ha=>?_) (fun n y w3 hr=>?_) (fun hn w2 hb=>?_) (fun n y w4 hr hn=>?_) (fun y w4 hr=>?_)
 ·have hd2:d<w2.heap.size:=Nat.lt_of_lt_of_le h.q.1 hb.size
  cases hB:beginB a b c k with
  | true=>
   have hB':=hB
   unfold beginB mayT at hB'
   simp at hB'
   obtain⟨⟨h1,h2,h3,h4,h5⟩,h6,h7⟩:=hB'
   have hn:=newW_any a b c k.toNat w2 (by omega) (by omega) h1 h2 h3 h4 h5
   rw[Int.toNat_of_nonneg (by omega)] at hn
   refine hn.mono ?_
   rintro e w3 ⟨A',rfl,x,hb3,hl⟩
   exact⟨⟨0,_,rfl,hb.trans (hb3.mono hb.size),a,b,c,k,ha,.inl ⟨rfl,hB,A',rfl,x,hl.mono hb.size⟩⟩,kpi_below hd2 hb3⟩
  | false=>
   refine(newW_nix a b c k w2 ?_).mono ?_
   ·unfold beginB at hB
    rw[Bool.and_eq_false_iff] at hB
    rcases hB with q|q
    ·exact .inl q
    ·exact .inr (by have:=of_decide_eq_false q;omega)
   ·rintro e w3 ⟨rfl,hb3⟩
    exact⟨⟨2,_,rfl,hb.trans (hb3.mono hb.size),a,b,c,k,ha,.inr ⟨rfl,hB⟩⟩,kpi_below hd2 hb3⟩
 ·obtain⟨hb,a,b,c,k,ha,hr⟩:=hr
  have h0:0≤n:=by rcases hr with ⟨rfl,_⟩|⟨rfl,_⟩<;>omega
  refine(check_ev n h0 w3 (h.below hb).1.laid).mono ?_
  rintro e w4 ⟨rfl,hb4⟩
  refine⟨rfl,hb.trans (hb4.mono hb.size),a,b,c,k,ha,?_⟩
  rcases hr with ⟨h1,h2,A',h3,x,hl⟩|q
  ·obtain⟨x1,x2⟩:=x.below hb4
   exact .inl ⟨h1,h2,A',h3,x1,hl.step x2 hb.size⟩
  ·exact .inr q
 ·exact Did.form h (by omega) (by unfold beginP num4;rw[hn]) hb
 ·obtain⟨hb,a,b,c,k,ha,⟨rfl,_⟩|⟨rfl,hB⟩⟩:=hr
  ·exact absurd rfl hn
  ·exact Did.fault (n:=2) h (by omega) (by unfold beginP num4;rw[ha];exact if_neg (by rw[hB];decide)) hb
 ·obtain⟨hb,a,b,c,k,ha,⟨_,hB,A',rfl,x,hl⟩|⟨q,_⟩⟩:=hr
  ·obtain⟨t,z⟩:=h.turned hb x hl (Bk.fresh hB (C+3))
   refine⟨(hb.frozen (p:=⟨d,0,none⟩) h.q.1).trans (h.fro 0),⟨_,(hb.cell (p:=⟨d,0,none⟩) h.q.1).trans h.dk.c0⟩,?_⟩
   unfold beginP num4
   rw[ha]
   dsimp only
   rw[if_pos hB]
   exact⟨rfl,A',t,z⟩
  ·cases q
end Wld
end
end Go.Proofs.YtbebfliimjjohabGreatDoor
