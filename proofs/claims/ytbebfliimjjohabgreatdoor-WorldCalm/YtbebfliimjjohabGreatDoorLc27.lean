/- Parts of the proof. -/
import Derived.Test.YtbebfliimjjohabGreatDoorLc26
import Derived.Maps.RangeWalk
import Derived.Test.YtbebfliimjjohabGreatDoorLc25
set_option maxRecDepth 100000
set_option maxHeartbeats 8000000
namespace Go.Proofs.YtbebfliimjjohabGreatDoor
section
namespace Wld
open Go.RowKit Go.Maps
open Lease (Ob I64 upd TabIs hol dels objB HasI zaj zaw)
open Cache (tp zab zac)
open Wal (R WalIs zzb Oq Fw rcells)
open Num (M okB strOf)
open Net (NetIs Only pcells)
theorem zxw(A:Wa)(s:Wd)(k:Nat)(w:World)(h:WdIs w A s)(hk:k<s.n)(hc:(s.seat k).call<0) :
  Calls Tryz.prog 73 #[tp A.Q,.int .i64 k] w fun e w'=>e = .returned (.tuple #[])/\WdIs w' A (s.note k)/\Fz A s w A (s.note k) w':=by
 have e:s.note k=s:=if_pos hc
 rw[e]
 have sts:=h.core.sts
 have c3:=(h.seats k hk).c3
 have n4:=h.n4
 have g1:decide ((s.seat k).call<0)=true:=decide_eq_true hc
 have hk0:(0:Int)<=(k:Int):=by omega
 have hkn:(k:Int)<(s.n:Int):=by omega
 have HW:Hid (WdIs w A s):=h
 clear h hc e
 go_enter Tryz.func73,Tryz.ntmps73
 go_wp2_with fail
 exact bodyPost_ret (v:=.tuple #[]) (by simp[results,Tryz.results73,go_sem]) rfl ⟨rfl,HW.out,Fz.refl _ _ _⟩
def kcells(k:K):List Value:=[.int .i64 k.kind,.int .i64 k.cob,.string k.d,.int .i64 k.ver,.bool k.over,.bool k.hit]
theorem zql(k:K):(kcells k).toArray.all (·.oneCell')=true:=all_oneCell_toArray fun v hv=>by
 unfold kcells at hv
 simp only[List.mem_cons,List.not_mem_nil,or_false] at hv
 rcases hv with rfl|rfl|rfl|rfl|rfl|rfl<;>rfl
theorem zs9:(Tryz.prog.info? 43).map (·.size)=some 6:=by kernel_rfl
def lay:List Value->Nat->List Value->List Value
 | xs,_,[]=>xs
 | xs,o,v :: vs=>lay (xs.set o v) (o+1) vs
theorem zot{B:Nat}{e:TypeId}{size g n cap:Nat}:∀ (vs:List Value) (o:Nat) (w:World) (xs:List Value),w.ownsRow B e size (.slice (some ⟨g,0,none⟩) n cap) n xs->(w.setCells g o vs).ownsRow B e size (.slice (some ⟨g,0,none⟩) n cap) n (lay xs o vs)/\(w.setCells g o vs).heap.size=w.heap.size/\(∀ k,k≠g->(w.setCells g o vs).heap[k]?=w.heap[k]?)/\(w.setCells g o vs).os=w.os/\(w.setCells g o vs).tape=w.tape/\(w.setCells g o vs).output=w.output
 | [],_,w,xs,h=>⟨h,rfl,fun _ _=>rfl,rfl,rfl,rfl⟩
 | v :: vs,o,w,xs,h=>by
  obtain⟨h1,_⟩:=World.ownsRow.stored h o v
  obtain⟨k1,k2,k3,k4,k5,k6⟩:=zot vs (o+1) (w.setCell ⟨g,o,none⟩ v) _ h1
  rw[World.setCells]
  exact⟨k1,k2.trans (by simp),fun k hk=>(k3 k hk).trans (Below.heap_setCell w ⟨g,o,none⟩ v k hk),k4,k5,k6⟩
def Ev.with(e:Ev)(k:K):Ev:={ e with kind:=k.kind,obj:=k.cob,d:=k.d,ver:=k.ver,over:=k.over,hit:=k.hit }
theorem zou:∀ (vs:List Value) (o:Nat) (xs:List Value),(lay xs o vs).length=xs.length
 | [],_,_=>rfl
 | v :: vs,o,xs=>by rw[lay,zou vs,List.length_set]
theorem zhs:∀ (vs:List Value) (o:Nat) (xs:List Value) (p:Nat),(p<o\/o+vs.length<=p)->(lay xs o vs)[p]?=xs[p]?
 | [],_,_,_,_=>rfl
 | v :: vs,o,xs,p,h=>by
  simp only[List.length_cons] at h
  rw[lay,zhs vs (o+1) _ p (by omega),List.getElem?_set_ne (by omega)]
theorem zta:∀ (vs:List Value) (o:Nat) (xs:List Value) (j:Nat),j<vs.length->o+vs.length<=xs.length->(lay xs o vs)[o+j]?=vs[j]?
 | [],_,_,_,h,_=>by simp at h
 | v :: vs,o,xs,0,_,hl=>by
  simp only[List.length_cons] at hl
  rw[lay,zhs vs (o+1) _ _ (by omega),Nat.add_zero,List.getElem?_set_self (by omega)]
  rfl
 | v :: vs,o,xs,j+1,h,hl=>by
  simp only[List.length_cons] at h hl
  rw[lay,show o+(j+1)=o+1+j by omega,zta vs (o+1) _ j (by omega) (by rw[List.length_set];omega)]
  rfl
theorem zv9(l:List Ev)(c:Nat)(hc:c<l.length)(k:K):lay (ecells l) (c*10+1) (kcells k)=ecells (l.set c (l[c].with k)):=by
 have hl:=zbo l
 have hk:(kcells k).length=6:=rfl
 refine zgf hc (by rw[zou,hl]) (fun j hj=>?_) (fun p hp=>zhs _ _ _ _ (by omega))
 by_cases h1:1<=j/\j<=6
 ·obtain⟨i,rfl⟩:∃ i,j=i+1:=⟨j-1,by omega⟩
  rw[show c*10+(i+1)=c*10+1+i by omega,zta _ _ _ i (by omega) (by omega)]
  match i,h1 with
  | 0,_=>rfl
  | 1,_=>rfl
  | 2,_=>rfl
  | 3,_=>rfl
  | 4,_=>rfl
  | 5,_=>rfl
  | i+6,h=>omega
 ·rw[zhs _ _ _ _ (by omega),zbl l c j hc hj]
  match j,hj,h1 with
  | 0,_,_=>rfl
  | 7,_,_=>rfl
  | 8,_,_=>rfl
  | 9,_,_=>rfl
  | 1,_,h=>omega
  | 2,_,h=>omega
  | 3,_,h=>omega
  | 4,_,h=>omega
  | 5,_,h=>omega
  | 6,_,h=>omega
theorem zxx(l:List Ev)(c:Nat)(hc:c<l.length)(x:Int):(ecells l).set (c*10+8) (.int .i64 x)=ecells (l.set c { l[c] with ended:=x }):=by
 have hl:=zbo l
 refine zgf hc (by rw[List.length_set,hl]) (fun j hj=>?_) (fun p hp=>List.getElem?_set_ne (by omega))
 by_cases h1:j=8
 ·subst h1
  rw[List.getElem?_set_self (by omega)]
  rfl
 ·rw[List.getElem?_set_ne (by omega),zbl l c j hc hj]
  match j,hj,h1 with
  | 0,_,_=>rfl
  | 1,_,_=>rfl
  | 2,_,_=>rfl
  | 3,_,_=>rfl
  | 4,_,_=>rfl
  | 5,_,_=>rfl
  | 6,_,_=>rfl
  | 7,_,_=>rfl
  | 9,_,_=>rfl
  | 8,_,h=>omega
theorem zqm(e:Ev)(k:K)(x:Int):e.noted k x=if k.over=true then { e.with k with ended:=x } else e.with k:=by
 unfold Ev.noted Ev.with
 cases k.over<;>simp
theorem ztb(l:List Ev)(c:Nat)(hc:c<l.length)(k:K)(x:Int):l.modify c (fun e=>e.noted k x)=if k.over=true then (l.set c (l[c].with k)).set c { l[c].with k with ended:=x } else l.set c (l[c].with k):=by
 have key:l.modify c (fun e=>e.noted k x)=l.set c (l[c].noted k x):=by
  apply List.ext_getElem?
  intro i
  rw[List.getElem?_modify]
  by_cases hi:c=i
  ·subst hi
   rw[List.getElem?_set_self hc,List.getElem?_eq_getElem hc]
   simp
  ·rw[List.getElem?_set_ne hi]
   simp[hi]
 rw[key,zqm]
 split
 ·rw[List.set_set]
 ·rfl
theorem zwa(A:Wa)(s:Wd)(k c:Nat)(w:World)(h:WdIs w A s)(hk:k<s.n)(hc:(s.seat k).call=c)(hce:c<s.events.length) :
  Calls Tryz.prog 73 #[tp A.Q,.int .i64 k] w fun e w'=>e = .returned (.tuple #[])/\WdIs w' A (s.note k)/\Fz A s w A (s.note k) w':=by
 have sts:=h.core.sts
 have stp:=h.core.stp
 have c0:=(h.seats k hk).c0
 have c3:=(h.seats k hk).c3
 have n4:=h.n4
 have hk0:(0:Int)<=(k:Int):=by omega
 have hkn:(k:Int)<(s.n:Int):=by omega
 obtain⟨v,hv,hrow⟩:=h.evs
 obtain⟨ao,cp,hao,hcp,hcn⟩:=Net.zaf hrow
 subst hao
 obtain⟨g,rfl⟩:∃ g,ao=some ⟨g,0,none⟩:=by
  rcases hrow.2 with ⟨e,h0⟩|⟨g,cap,cur,e,_⟩
  ·omega
  ·injection e with e
   exact⟨g,e⟩
 rw[hc] at c3
 have hc0:decide ((c:Int)<0)=false:=decide_eq_false (by omega)
 have hcI:(0:Int)<=(c:Int):=by omega
 have hcI2:(c:Int)<(s.events.length:Int):=by omega
 have hcall:=fun w h=>zvf (A.c k) (A.m k) (s.seat k).k w h
 have hcl:=h.cli k hk
 have HW:Hid (WdIs w A s):=h
 clear h hcp hcn
 go_enter Tryz.func73,Tryz.ntmps73
 go_wp2_with fail
 go_quiet (fail)
 go_wp2_with fail
 refine(hcall _ (hcl.drewN _)).mono ?_
 rintro e w2 ⟨rfl,hb2⟩
 have hb2':Below w.heap.size w w2:=⟨hb2.os,hb2.tape,hb2.output,hb2.size,hb2.block⟩
 obtain⟨x1,x2⟩:=HW.out.below hb2'
 have hrow2:=zac hrow hb2'
 have hv2:=(World.cell?_of_block (a:=⟨A.Q,12410,none⟩) (hb2'.block A.Q HW.out.lt)).trans hv
 have stp2:=x1.core.stp
 have c32:=(x1.seats k hk).c3
 rw[hc] at c32
 have hgf:=World.ownsRow.frozenAt hrow2
 have hth:w2.there g (c*10+1) (kcells (s.seat k).k).toArray.size:=fun j hj=>by
  have hj':j<6:=hj
  refine⟨?_,hgf _⟩
  rw[World.ownsRow.cellAt hrow2 (c*10+1+j) (by omega),List.getElem?_eq_getElem (by rw[zbo];omega)]
  rfl
 obtain⟨r1,r2,r3,r4,r5,r6⟩:=zot (kcells (s.seat k).k) (c*10+1) w2 _ hrow2
 rw[zv9 s.events c hce] at r1
 obtain⟨w3,hw3⟩:∃ w3,w2.setCells g (c*10+1) (kcells (s.seat k).k)=w3:=⟨_,rfl⟩
 rw[hw3] at r1 r2 r3 r4 r5 r6
 obtain⟨L,hL⟩:∃ L,s.events.set c (s.events[c].with (s.seat k).k)=L:=⟨_,rfl⟩
 rw[hL] at r1
 have hgQ:g≠A.Q:=by
  have:=(zah hrow2 (g:=g) rfl).1
  omega
 have hl1:L.length=s.events.length:=by rw[<- hL];simp
 have eQ3:=r3 A.Q (Ne.symm hgQ)
 have q1:∀ q,q<w2.heap.size->q≠A.Q->(∀ v,w2.cell? ⟨A.Q,12410,none⟩=some v->v.ownBlock≠some q)->w3.heap[q]?=w2.heap[q]?:=fun q hq hqQ hqv=>r3 q (fun e=>hqv _ hv2 (by rw[e];rfl))
 have q2:∀ i,i≠12410->w3.cell? ⟨A.Q,i,none⟩=w2.cell? ⟨A.Q,i,none⟩:=fun i _=>World.cell?_of_block eQ3
 have q3:∀ i,w3.frozen? ⟨A.Q,i,none⟩=w2.frozen? ⟨A.Q,i,none⟩:=fun i=>World.frozen?_of_block eQ3
 have q4:w3.cell? ⟨A.Q,12410,none⟩=some (.slice (some ⟨g,0,none⟩) s.events.length cp):=(World.cell?_of_block eQ3).trans hv2
 have q5:w3.ownsRow (A.Q+1) 45 10 (.slice (some ⟨g,0,none⟩) s.events.length cp) L.length (ecells L):=by rw[hl1];exact r1
 have q6:∀ q,(Value.slice (some ⟨g,0,none⟩) s.events.length cp).ownBlock=some q->q<w2.heap.size->∃ v,w2.cell? ⟨A.Q,12410,none⟩=some v/\v.ownBlock=some q:=fun q hq _=>⟨_,hv2,hq⟩
 obtain⟨Z1,Z2⟩:=WdIs.evented x1 r4 r5 r6 (by omega) q1 q2 q3 (x1.core.typ.same eQ3) q4 q5 q6
 have HZ:Hid (WdIs w3 A { s with events:=L }/\Fz A s w A { s with events:=L } w3):=⟨Z1,x2.trans Z2⟩
 have HV3:Hid (w3.cell? ⟨A.Q,12410,none⟩=some (.slice (some ⟨g,0,none⟩) s.events.length cp)):=q4
 have HROW:Hid (w3.ownsRow (A.Q+1) 45 10 (.slice (some ⟨g,0,none⟩) s.events.length cp) L.length (ecells L)):=q5
 have HL:Hid (s.events.set c (s.events[c].with (s.seat k).k)=L):=hL
 have hw3':Hid (w2.setCells g (c*10+1) (kcells (s.seat k).k)=w3):=hw3
 clear hcall hcl sts stp c0 c3 hv hrow hb2 q1 q2 q3 q6 Z1 Z2 r1 r2 r3 r4 r5 r6 hL hw3 eQ3
 have hcell3:∀ j,j<10->w3.cell? ⟨g,c*10+j,none⟩=(ecell ((s.events[c]).with (s.seat k).k))[j]?:=fun j hj=>by
  have hr:=HROW.out
  rw[hl1] at hr
  rw[World.ownsRow.cellAt hr (c*10+j) (by omega),zbl L c j (by omega) hj]
  have e:L[c]=(s.events[c]).with (s.seat k).k:=by
   have hL:=HL.out
   subst hL
   exact List.getElem_set_self _
  rw[e]
 have y5:w3.cell? ⟨g,c*10+1+4,none⟩=some (.bool (s.seat k).k.over):=hcell3 5 (by omega)
 have y8:w3.cell? ⟨g,c*10+8,none⟩=some (.int .i64 (s.events[c]).ended):=hcell3 8 (by omega)
 have hgf3:w3.frozen? ⟨g,c*10+8,none⟩=false:=by
  have hr:=HROW.out
  rw[hl1] at hr
  exact World.ownsRow.frozenAt hr _
 have stp3:=HZ.out.1.core.stp
 have d3:=(HZ.out.1.seats k hk).c3
 have fG:=HZ.out.1.gf (k*4+3)
 dsimp only at stp3 d3
 rw[hc] at d3
 have hgG:g≠A.G:=fun e=>by
  have hr:=HROW.out
  exact(zah hr (g:=g) rfl).2.ne HZ.out.1.gt (by decide) e
 clear hcell3 q4 q5 hgf stp2 c32 hrow2 hv2 hb2' x1 x2
 rw[show (s.seat k).k.callV = .agg (kcells (s.seat k).k).toArray from rfl]
 go_upto_region 4 with (refine wpList_store_mid rfl 43 (.tmp 33) (.tmp 31) rfl g (c*10+1) (kcells (s.seat k).k).toArray rfl rfl hth zs9 (zql _) ?_;rw[show (kcells (s.seat k).k).toArray.toList=kcells (s.seat k).k from rfl,hw3'.out])
 have hnote:Hid (s.note k = { s with events:=s.events.modify c fun e=>e.noted (s.seat k).k s.step,seat:=zy9 s.seat k { s.seat k with call:=if (s.seat k).k.over=true then -1 else (s.seat k).call } }):=by
  unfold Hid Wd.note
  rw[if_neg (by rw[hc];omega)]
  rw[show (s.seat k).call.toNat=c by rw[hc];rfl]
 have hmod:Hid (s.events.modify c (fun e=>e.noted (s.seat k).k s.step)=if (s.seat k).k.over=true then L.set c { (s.events[c]).with (s.seat k).k with ended:=s.step } else L):=by
  unfold Hid
  rw[ztb _ _ hce,HL.out]
 clear hth hw3'
 cases hov:(s.seat k).k.over with
 | true=>
  rw[hov] at y5
  have hr:=HROW.out
  rw[hl1] at hr
  obtain⟨r1,hg1⟩:=World.ownsRow.stored hr (c*10+8) (.int .i64 s.step)
  have hle:L[c]'(by omega)=(s.events[c]).with (s.seat k).k:=by
   have hL:=HL.out
   subst hL
   exact List.getElem_set_self _
  rw[zxx L c (by omega),hle] at r1
  obtain⟨w4,hw4⟩:∃ w4,w3.setCell ⟨g,c*10+8,none⟩ (.int .i64 s.step)=w4:=⟨_,rfl⟩
  rw[hw4] at r1
  have b4:∀ q,q≠g->w4.heap[q]?=w3.heap[q]?:=fun q hq=>by rw[<- hw4];exact Below.heap_setCell w3 ⟨g,c*10+8,none⟩ _ q hq
  have s4:w4.heap.size=w3.heap.size:=by rw[<- hw4];simp
  have m4:w4.os=w3.os/\w4.tape=w3.tape/\w4.output=w3.output:=by rw[<- hw4];exact⟨rfl,rfl,rfl⟩
  obtain⟨L2,hL2⟩:∃ L2,L.set c { (s.events[c]).with (s.seat k).k with ended:=s.step } = L2:=⟨_,rfl⟩
  rw[hL2] at r1
  have hl2:L2.length=s.events.length:=by rw[<- hL2];simp[hl1]
  have X:=HZ.out.1
  have hv3:w3.cell? ⟨A.Q,12410,none⟩=some (.slice (some ⟨g,0,none⟩) s.events.length cp):=by
   exact HV3.out
  have eQ4:=b4 A.Q (Ne.symm hgQ)
  have q1:∀ q,q<w3.heap.size->q≠A.Q->(∀ v,w3.cell? ⟨A.Q,12410,none⟩=some v->v.ownBlock≠some q)->w4.heap[q]?=w3.heap[q]?:=fun q hq hqQ hqv=>b4 q (fun e=>hqv _ hv3 (by rw[e];rfl))
  have q2:∀ i,i≠12410->w4.cell? ⟨A.Q,i,none⟩=w3.cell? ⟨A.Q,i,none⟩:=fun i _=>World.cell?_of_block eQ4
  have q3:∀ i,w4.frozen? ⟨A.Q,i,none⟩=w3.frozen? ⟨A.Q,i,none⟩:=fun i=>World.frozen?_of_block eQ4
  have q4:w4.cell? ⟨A.Q,12410,none⟩=some (.slice (some ⟨g,0,none⟩) s.events.length cp):=(World.cell?_of_block eQ4).trans hv3
  have q5:w4.ownsRow (A.Q+1) 45 10 (.slice (some ⟨g,0,none⟩) s.events.length cp) L2.length (ecells L2):=by rw[hl2];exact r1
  have q6:∀ q,(Value.slice (some ⟨g,0,none⟩) s.events.length cp).ownBlock=some q->q<w3.heap.size->∃ v,w3.cell? ⟨A.Q,12410,none⟩=some v/\v.ownBlock=some q:=fun q hq _=>⟨_,hv3,hq⟩
  obtain⟨Z1,Z2⟩:=WdIs.evented X m4.1 m4.2.1 m4.2.2 (by omega) q1 q2 q3 (X.core.typ.same eQ4) q4 q5 q6
  obtain⟨Z3,Z4⟩:=Z1.setCall hk (-1)
  have HF:Hid (WdIs (w4.setCell ⟨A.G,k*4+3,none⟩ (.int .i64 (-1))) A (s.note k)/\Fz A s w A (s.note k) (w4.setCell ⟨A.G,k*4+3,none⟩ (.int .i64 (-1)))):=by
   have e:s.note k = { s with events:=L2,seat:=zy9 s.seat k { s.seat k with call:=-1 } }:=by
    rw[hnote.out,hmod.out,if_pos hov,if_pos hov,hL2]
   rw[e]
   exact⟨Z3,(HZ.out.2.trans Z2).trans Z4⟩
  have HW4:Hid (w3.setCell ⟨g,c*10+8,none⟩ (.int .i64 s.step)=w4):=hw4
  clear q1 q2 q3 q4 q5 q6 Z1 Z2 Z3 Z4 X hv3 eQ4 hr r1 hg1 hle b4 s4 m4 hw4 hL2 hl2 hnote hmod HROW HZ HW
  go_wp2_with fail
  go_end0
  have hw4:=HW4.out
  subst hw4
  exact⟨rfl,HF.out⟩
 | false=>
  rw[hov] at y5
  have HF:Hid (WdIs w3 A (s.note k)/\Fz A s w A (s.note k) w3):=by
   have e:s.note k = { s with events:=L }:=by
    rw[hnote.out,hmod.out,if_neg (by rw[hov];decide),if_neg (by rw[hov];decide)]
    have:zy9 s.seat k { s.seat k with call:=(s.seat k).call } = s.seat:=by
     funext j
     unfold zy9
     split
     ·rename_i e;rw[e]
     ·rfl
    rw[this]
   rw[e]
   exact HZ.out
  clear hnote hmod HROW HZ HW
  go_wp2_with fail
  go_end0
  exact⟨rfl,HF.out⟩
theorem zim(A:Wa)(s:Wd)(k:Nat)(w:World)(h:WdIs w A s)(hk:k<s.n)(h1:(s.seat k).call<s.events.length) :
  Calls Tryz.prog 73 #[tp A.Q,.int .i64 k] w fun e w'=>e = .returned (.tuple #[])/\WdIs w' A (s.note k)/\Fz A s w A (s.note k) w':=by
 by_cases hc:(s.seat k).call<0
 ·exact zxw A s k w h hk hc
 ·exact zwa A s k (s.seat k).call.toNat w h hk (by omega) (by omega)
theorem zjx(A:Wa)(s:Wd)(k C:Nat)(w:World)(h:WdIs w A s)(hk:k<s.n)(hB:WdB s C)(hC:C<=100000000000) :
  Calls Tryz.prog 62 #[tp A.Q,.int .i64 k] w fun e w'=>e = .returned (.tuple #[])/\WdIs w' A (s.ask k)/\Fz A s w A (s.ask k) w':=by
 have sts:=h.core.sts
 have c0:=(h.seats k hk).c0
 have c1:=(h.seats k hk).c1
 have n4:=h.n4
 have hk0:(0:Int)<=(k:Int):=by omega
 have hkn:(k:Int)<(s.n:Int):=by omega
 have hSB:=hB.st k hk
 have hag:=zsh (A.c k) (A.m k) (s.seat k).k (s.seat k).clock w.drew (h.cli k hk).drew hSB.k.ren0 (by have:=hSB.k.ren;omega) hSB.c0 (by have:=hSB.c1;omega)
 obtain⟨hKB,hLn⟩:=hSB.k.again hSB.c0 hSB.c1
 have hsm:=zn3 hSB.k (s.seat k).clock
 have hW0:WdIs w.drew A s/\Fz A s w A s w.drew:=h.below (Below.refl _ _).drew
 clear hB hSB h
 go_enter Tryz.func62,Tryz.ntmps62
 go_upto_region 0 with fail
 refine Gen.start (S:=fun w'=>w'.cell? ⟨A.Q,12409,none⟩=some (.slice (some ⟨A.G,0,none⟩) s.n s.n)/\w'.cell? ⟨A.G,k*4,none⟩=some (tp (A.c k))/\w'.cell? ⟨A.G,k*4+1,none⟩=some (.int .i64 (s.seat k).clock)) (by kernel_rfl) ⟨sts,c0,c1⟩ (fun zzg=>?_)
 refine Gen.tk 0 18 ?_ rfl rfl (Or.inl ⟨by rfl,?_⟩) zzg ?_;rotate_left
 ·rintro w' ⟨s0,s1,s2⟩;go_simp;try with_reducible rfl
 go_frame
 refine Gen.tk 1 2 ?_ rfl rfl (Or.inl ⟨by rfl,?_⟩) zzg ?_;rotate_left
 ·rintro w' ⟨s0,s1,s2⟩;go_simp;try with_reducible rfl
 go_frame
 refine Gen.tk 2 3 ?_ rfl rfl (Or.inl ⟨by rfl,?_⟩) zzg ?_;rotate_left
 ·rintro w' ⟨s0,s1,s2⟩;go_simp;try with_reducible rfl
 go_frame
 refine Gen.tk 3 4 ?_ rfl rfl (Or.inl ⟨by rfl,?_⟩) zzg ?_;rotate_left
 ·rintro w' ⟨s0,s1,s2⟩;go_simp;try with_reducible rfl
 go_frame
 refine Gen.tk 4 6 ?_ rfl rfl (Or.inl ⟨by rfl,?_⟩) zzg ?_;rotate_left
 ·rintro w' ⟨s0,s1,s2⟩;go_simp;try with_reducible rfl
 go_frame
 refine Gen.tk 5 6 ?_ rfl rfl (Or.inl ⟨by rfl,?_⟩) zzg ?_;rotate_left
 ·rintro w' ⟨s0,s1,s2⟩;go_simp;try with_reducible rfl
 go_frame
 refine Gen.tk 6 7 ?_ rfl rfl (Or.inl ⟨by rfl,?_⟩) zzg ?_;rotate_left
 ·rintro w' ⟨s0,s1,s2⟩;go_simp;try with_reducible rfl
 go_frame
 refine Gen.tk 7 8 ?_ rfl rfl (Or.inl ⟨by rfl,?_⟩) zzg ?_;rotate_left
 ·rintro w' ⟨s0,s1,s2⟩;go_simp;try with_reducible rfl
 go_frame
 refine Gen.tk 8 17 ?_ rfl rfl (Or.inl ⟨by rfl,?_⟩) zzg ?_;rotate_left
 ·rintro w' ⟨s0,s1,s2⟩;go_simp;try with_reducible rfl
 go_frame
 refine Gen.tk 9 10 ?_ rfl rfl (Or.inl ⟨by rfl,?_⟩) zzg ?_;rotate_left
 ·rintro w' ⟨s0,s1,s2⟩;go_simp;try with_reducible rfl
 go_frame
 refine Gen.tk 10 11 ?_ rfl rfl (Or.inl ⟨by rfl,?_⟩) zzg ?_;rotate_left
 ·rintro w' ⟨s0,s1,s2⟩;go_simp;try with_reducible rfl
 go_frame
 refine Gen.tk 11 12 ?_ rfl rfl (Or.inl ⟨by rfl,?_⟩) zzg ?_;rotate_left
 ·rintro w' ⟨s0,s1,s2⟩;go_simp;try with_reducible rfl
 go_frame
 refine Gen.tk 12 14 ?_ rfl rfl (Or.inl ⟨by rfl,?_⟩) zzg ?_;rotate_left
 ·rintro w' ⟨s0,s1,s2⟩;go_simp;try with_reducible rfl
 go_frame
 refine Gen.tk 13 14 ?_ rfl rfl (Or.inl ⟨by rfl,?_⟩) zzg ?_;rotate_left
 ·rintro w' ⟨s0,s1,s2⟩;go_simp;try with_reducible rfl
 go_frame
 refine Gen.tk 14 15 ?_ rfl rfl (Or.inl ⟨by rfl,?_⟩) zzg ?_;rotate_left
 ·rintro w' ⟨s0,s1,s2⟩;go_simp;try with_reducible rfl
 go_frame
 refine Gen.tk 15 16 ?_ rfl rfl (Or.inl ⟨by rfl,?_⟩) zzg ?_;rotate_left
 ·rintro w' ⟨s0,s1,s2⟩;go_simp;try with_reducible rfl
 go_frame
 refine Gen.tk 16 17 ?_ rfl rfl (Or.inl ⟨by rfl,?_⟩) zzg ?_;rotate_left
 ·rintro w' ⟨s0,s1,s2⟩;go_simp;try with_reducible rfl
 go_frame
 refine Gen.one (i:=17) (by kernel_rfl) rfl rfl (fun K hK=>?_)
 go_simp
 refine hag.mono ?_
 rintro e w2 ⟨v2,rfl,hM2,hK2,hO2⟩
 obtain⟨x1,x2⟩:=hW0.1.client hk hK2 hO2
 have sts2:=x1.core.sts
 have d0:=(x1.seats k hk).c0
 have d1:=(x1.seats k hk).c1
 have hsi:(s.setK k ((s.seat k).k.again (s.seat k).clock)).seat k = { s.seat k with k:=(s.seat k).k.again (s.seat k).clock }:=zaa _ _ _
 rw[hsi] at d1
 have hsd:=zgv A _ (-1) ((s.seat k).k.againL (s.seat k).clock) _ v2 w2 x1 hM2 (by omega) hsm
 dsimp only
 refine hK.out _ _ ⟨sts2,d0,d1⟩ (fun zzg=>?_)
 clear hK K
 try go_frame
 refine Gen.last (i:=18) (by kernel_rfl) rfl rfl (by kernel_rfl) (by kernel_rfl) (fun K hK=>?_)
 go_simp
 refine hsd.mono ?_
 rintro e w3 ⟨rfl,y1,y2⟩
 have HF:Hid (WdIs w3 A (s.ask k)/\Fz A s w A (s.ask k) w3):=⟨y1,(hW0.2.trans x2).trans y2⟩
 dsimp only
 refine hK.out _ _ ?_
 clear hK K zzg
 clear y1 y2 x1 x2 hsd hag hM2 hK2 hO2
 go_wp2_with fail
 go_end0
 exact⟨rfl,HF.out⟩
theorem zfs(A:Wa)(s:Wd)(k C:Nat)(w:World)(h:WdIs w A s)(hk:k<s.n)(hB:WdB s C)(hC:C<=10000000000) :
  Calls Tryz.prog 25 #[tp A.Q,.int .i64 k] w fun e w'=>e = .returned .nilIface/\WdIs w' A (s.again k)/\Fz A s w A (s.again k) w':=by
 have hh:=zcz A s k w h
 have hhk:s.has k=true:=by
  unfold Wd.has
  exact decide_eq_true ⟨by omega,by omega⟩
 rw[hhk] at hh
 have stp:=h.core.stp
 have fst:=h.core.free 12411
 obtain⟨x1,x2⟩:=h.setStep (s.step+1)
 have hask:=zjx A { s with step:=s.step+1 } k (C+1) _ x1 hk hB.stepped (by omega)
 have hwr:IntKind.i64.wrap (s.step+1)=s.step+1:=wrapI (by have:=hB.s0;omega) (by have:=hB.s1;omega)
 clear h hB hhk
 go_enter Tryz.func25,Tryz.ntmps25
 go_wp2_with fail
 refine hh.mono ?_
 rintro e w2 ⟨rfl,rfl⟩
 go_wp2_with fail
 refine hask.mono ?_
 rintro e w3 ⟨rfl,y1,y2⟩
 have HF:Hid (WdIs w3 A (s.again k)/\Fz A s w2 A (s.again k) w3):=⟨y1,x2.trans y2⟩
 clear y1 y2 x1 x2 hask hh
 go_wp2_with fail
 go_ret
 exact⟨rfl,HF.out⟩
end Wld
end
section
namespace Wld
open Go.RowKit Go.Maps
open Lease (upd hol dels mx kk objB I64)
open Wal (R mayB timeB)
open Num (M okB)
def Seated(l:List M):Prop:=∀ m∈l,0<=m.c
theorem Seated.nil:Seated []:=fun m hm=>by simp at hm
theorem Seated.one{m:M}(h:0<=m.c):Seated [m]:=fun x hx=>by rw[List.mem_singleton.1 hx];exact h
theorem Seated.app{a b:List M}(h:Seated a)(k:Seated b):Seated (a++b):=fun m hm=>(List.mem_append.1 hm).elim (h m) (k m)
theorem zyw{o:Nat}{m:M}(h:okW o m):0<=m.c:=by
 have:=h.2.1
 simp[timeB,Num.inB] at this
 omega
theorem zdo(o:Nat)(now:Int):∀ (f:Nat) {s:Sv} {B:Nat},SvB s B->Seated (s.adv o now f).2
 | 0,s,B,_=>Seated.nil
 | f+1,s,B,h=>by
  unfold Sv.adv
  split
  ·exact Seated.nil
  ·obtain⟨h1,_⟩:=h.zyz o now
   split
   ·exact Seated.nil
   ·split
    ·exact Seated.nil
    ·rename_i m rest hm
     have hw:=h1.wok o m (by rw[hm];exact List.mem_cons_self ..)
     have h2:=h1.commit m o hw.2.2.2
     obtain⟨k1,_⟩:=zar (s.zyz o now).1 m o
     split
     ·exact Seated.nil
     ·have h3:=h2.rest (o:=o) (m:=m) (rest:=rest) (by rw[k1];exact hm)
      intro x hx
      rcases List.mem_cons.1 hx with q|q
      ·rw[q]
       show 0<=m.c
       exact zyw hw
      ·exact zdo o now f h3 x q
theorem zgg(s:Sv){seat:Int}(hs:0<=seat)(now:Int):∀ k,Seated (s.zy0 seat now k).2
 | 0=>Seated.nil
 | k+1=>by
  refine(zgg s hs now k).app ?_
  split
  ·exact Seated.one hs
  ·exact Seated.nil
theorem zgw(now:Int):∀ (cs:List Int) (s:Sv),∀ c∈(s.await now cs).2,c∈cs
 | [],s,c,h=>by simp[zde] at h
 | d :: cs,s,c,h=>by
  rw[za1] at h
  split at h
  ·rcases List.mem_cons.1 h with q|q
   ·rw[q];exact List.mem_cons_self ..
   ·exact List.mem_cons_of_mem _ (zgw now cs s c q)
  ·exact List.mem_cons_of_mem _ (zgw now cs _ c h)
theorem zew(s:Sv)(o:Nat)(now:Int):∀ c∈(s.zyz o now).2,∃ n:Nat,n<4/\c=(n:Int):=fun c h=>by
 unfold Sv.zyz at h
 split at h
 ·simp at h
 ·exact zhq (zgw now _ s c h)
theorem zn4{s:Sv}{B:Nat}(h:SvB s B){m:M}(hm:okM m)(now:Int):Seated (s.hear m now).2:=by
 unfold Sv.hear
 split
 ·exact Seated.nil
 ·rename_i hn
  have hc:0<=m.c:=by omega
  split
  ·exact Seated.one hc
  ·split
   ·unfold Sv.writeS
    split
    ·exact Seated.one hc
    ·split
     ·exact Seated.nil
     ·split
      ·exact Seated.nil
      ·have hq:=h.enq (m:=m) (o:=m.o.toNat) ⟨by omega,hm⟩
       refine Seated.app (zdo _ now _ hq) fun x hx=>?_
       obtain⟨c,hc',rfl⟩:=List.mem_map.1 hx
       obtain⟨n,_,rfl⟩:=zew _ _ _ c hc'
       show (0:Int)<=(n:Int)
       omega
   ·split
    ·unfold Sv.renewS
     split
     ·exact zgg s (by omega) now 8
     ·split<;>exact Seated.one hc
    ·split
     ·unfold Sv.release
      split
      ·exact zdo _ now _ (h.dropped _ _)
      ·exact Seated.nil
     ·exact Seated.nil
theorem zh4{s:Sv}{B:Nat}(h:SvB s B)(now:Int):∀ k,Seated (s.tickN now k).2
 | 0=>Seated.nil
 | k+1=>(zh4 h now k).app (zdo k now _ (SvB.tick h now k).1)
end Wld
end
end Go.Proofs.YtbebfliimjjohabGreatDoor
