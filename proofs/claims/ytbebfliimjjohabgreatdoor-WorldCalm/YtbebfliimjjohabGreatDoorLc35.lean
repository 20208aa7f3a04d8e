/- Parts of the proof. -/
import Derived.Test.YtbebfliimjjohabGreatDoorLc34
set_option maxRecDepth 100000
set_option maxHeartbeats 8000000
namespace Go.Proofs.YtbebfliimjjohabGreatDoor
section
namespace Wld
open Go.RowKit Go.Maps
open Lease (upd zae zad hol dels mx kk isH)
open Cache (E era putL)
open Wal (R mayB timeB)
open Num (M okB)
theorem zb1(l:List Ev)(i j:Nat)(f:Ev->Ev):(l.modify i f)[j]?=if i=j then (l[j]?).map f else l[j]?:=by
 rw[List.getElem?_modify]
 split<;>simp
structure KNext(w:Wd)(k:Nat)(c:K):Prop where
 id:c.id=(w.seat k).k.id
 num:c.num=(w.seat k).k.num
 kind:c.kind=(w.seat k).k.kind
 cob:c.cob=(w.seat k).k.cob
 d:(w.seat k).k.kind=2->c.d=(w.seat k).k.d
 kept:∀ x∈c.kept,IsVal w.rs x.o x.v x.d
 seen:∀ o,(w.seat k).k.seen o<=c.seen o
 how:c.over=(w.seat k).k.over\/((w.seat k).k.zy2=true/\c.over=true/\c.ver<=c.seen c.cob/\((w.seat k).k.kind=1->IsVal w.rs c.cob c.ver c.d/\(w.seat k).k.seen c.cob<=c.ver)/\((w.seat k).k.kind=2->∃ r∈w.rs,0<=r.o/\r.c=c.id/\r.n=c.num/\r.v=c.ver))
theorem setK_seat(w:Wd)(k j:Nat)(c:K):(w.setK k c).seat j=if j=k then { w.seat k with k:=c } else w.seat j:=rfl
def Wd.wrote(w:Wd)(k:Nat)(c:K):Wd:={ w with events:=w.events.modify (w.seat k).call.toNat fun e=>e.noted c w.step,seat:=zy9 w.seat k ⟨c,(w.seat k).clock,(w.seat k).life,if c.over=true then -1 else (w.seat k).call⟩ }
theorem zg3(w:Wd)(k:Nat)(c:K)(h:(w.seat k).call<0):(w.setK k c).note k=w.setK k c:=by
 unfold Wd.note
 rw[if_pos (by rw[setK_seat,if_pos rfl];exact h)]
theorem zej(w:Wd)(k:Nat)(c:K)(h:¬ (w.seat k).call<0):(w.setK k c).note k=w.wrote k c:=by
 unfold Wd.note Wd.wrote
 have e:(w.setK k c).seat k = { w.seat k with k:=c }:=by rw[setK_seat,if_pos rfl]
 rw[if_neg (by rw[e];exact h),e]
 have:zy9 (w.setK k c).seat k (⟨c,(w.seat k).clock,(w.seat k).life,if c.over=true then -1 else (w.seat k).call⟩:St)=zy9 w.seat k ⟨c,(w.seat k).clock,(w.seat k).life,if c.over=true then -1 else (w.seat k).call⟩:=by
  funext j
  unfold zy9
  split
  ·rfl
  ·rename_i hj;rw[setK_seat,if_neg hj]
 dsimp only at this ⊢
 rw[this]
 rfl
theorem K.isOpen_iff(k:K):k.zy2=true↔k.kind≠0/\k.over=false:=by unfold K.zy2;simp
theorem Inv.setK{w:Wd}{H:List Hc}{L:List M}{B:Nat}(h:Inv w H L B){k:Nat}(hk:k<w.n){c:K}(hc:KNext w k c)(ho:c.over=(w.seat k).k.over):Inv (w.setK k c) H L B:=by
 have hop:c.zy2=(w.seat k).k.zy2:=by unfold K.zy2;rw[hc.kind,ho]
 refine⟨h.n4,h.len,h.eh,h.an,h.bg,h.mo,h.bef,h.lol,h.hs,h.hd,h.hne,h.n1,h.net,h.msg,h.sv,h.log,h.epc,fun j hj=>?_⟩
 by_cases e:j=k
 ·subst e
  have hs:=h.st j hj
  have es:(w.setK j c).seat j = { w.seat j with k:=c }:=by rw[setK_seat,if_pos rfl]
  refine⟨by rw[es];exact hc.id.trans hs.id,by rw[es];exact hs.l0,by rw[es];show 0<=c.num;rw[hc.num];exact hs.n0,?_,?_,?_,by rw[es];exact hop.trans hs.isO,by rw[es];exact hc.kept,?_⟩
  ·rw[es];intro g hg e1;show g.n<=c.num;rw[hc.num];exact hs.num g hg (e1.trans hc.id)
  ·rw[es];intro g hg e1;show g.c<=c.id;rw[hc.id];exact hs.liv g hg e1
  ·rw[es]
   intro h0
   obtain⟨x,g,a1,a2,a3,a4,a5,a6,a7,a8⟩:=hs.opn h0
   exact⟨x,g,a1,a2,a3.trans hc.id.symm,a4.trans hc.num.symm,a5.trans hc.kind.symm,a6.trans hc.cob.symm,fun q=>(a7 q).trans (hc.d (a5.symm.trans q)).symm,a8⟩
  ·rw[es];intro x hx e1 e2 e3;exact Int.le_trans (hs.seen x hx e1 e2 e3) (hc.seen _)
 ·have hs:=h.st j hj
  have es:(w.setK k c).seat j=w.seat j:=by rw[setK_seat,if_neg e]
  exact⟨by rw[es];exact hs.id,by rw[es];exact hs.l0,by rw[es];exact hs.n0,by rw[es];exact hs.num,by rw[es];exact hs.liv,by rw[es];exact hs.opn,by rw[es];exact hs.isO,by rw[es];exact hs.kept,by rw[es];exact hs.seen⟩
theorem Inv.lastOne{w:Wd}{H:List Hc}{L:List M}{B:Nat}(h:Inv w H L B){k:Nat}(hk:k<w.n){i j:Nat}{a b:Hc}(ha:H[i]?=some a)(hb:H[j]?=some b)(hij:i<j)(e1:a.c=(w.seat k).k.id)(e2:a.n=(w.seat k).k.num)(e3:b.c=a.c):False:=by
 obtain⟨hi,hi'⟩:=List.getElem?_eq_some_iff.1 ha
 obtain⟨hj,hj'⟩:=List.getElem?_eq_some_iff.1 hb
 have h1:=List.pairwise_iff_getElem.1 h.hs i j hi hj hij
 rw[hi',hj'] at h1
 have h2:=h1 e3.symm
 have h3:=(h.st k hk).num b (List.mem_of_getElem? hb) (e3.trans e1)
 omega
theorem Inv.noted{w:Wd}{H:List Hc}{L:List M}{B:Nat}(h:Inv w H L B){k:Nat}(hk:k<w.n){c:K}(hc:KNext w k c):Inv ((w.setK k c).note k) H L B:=by
 have hs:=h.st k hk
 by_cases hcall:(w.seat k).call<0
 ·rw[zg3 w k c hcall]
  refine h.setK hk hc ?_
  rcases hc.how with q|q
  ·exact q
  ·rw[hs.isO] at q
   have:=of_decide_eq_true q.1
   omega
 ·rw[zej w k c hcall]
  obtain⟨e0,g0,a1,a2,a3,a4,a5,a6,a7,a8⟩:=hs.opn (by omega)
  obtain⟨i,hi⟩:∃ i:Nat,i=(w.seat k).call.toNat:=⟨_,rfl⟩
  rw[<- hi] at a1 a2
  have hopen:(w.seat k).k.zy2=true:=by rw[hs.isO];exact decide_eq_true (by omega)
  have hov:(w.seat k).k.over=false:=((K.isOpen_iff _).1 hopen).2
  have hE:=h.eh i e0 g0 a1 a2
  have hidk:∀ x∈w.events,∀ g,EvH w.n x g->(g.c=(w.seat k).k.id↔x.client=k/\x.life=(w.seat k).life):=fun x _ g hx=>by
   have h1:=hx.c
   have h2:=hx.c0
   have h3:=hx.c4
   have h4:=hs.id
   have h5:=h.n4
   omega
  have hck:=(hidk e0 (List.mem_of_getElem? a1) g0 hE).1 a3
  obtain⟨e',he'⟩:∃ e',e'=e0.noted c w.step:=⟨_,rfl⟩
  have hget:∀ j x,(w.wrote k c).events[j]?=some x->(j=i/\x=e')\/(j≠i/\w.events[j]?=some x):=fun j x hx=>by
   have hx':(w.events.modify (w.seat k).call.toNat fun e=>e.noted c w.step)[j]?=some x:=hx
   rw[zb1,<- hi] at hx'
   split at hx'
   ·rename_i q;subst q;rw[a1] at hx';left;refine⟨rfl,?_⟩;rw[he'];exact(Option.some.inj hx').symm
   ·rename_i q;exact .inr ⟨fun p=>q p.symm,hx'⟩
  have hput:∀ j x,w.events[j]?=some x->(w.wrote k c).events[j]?=some (if j=i then e' else x):=fun j x hx=>by
   show (w.events.modify (w.seat k).call.toNat fun e=>e.noted c w.step)[j]?=_
   rw[zb1,<- hi]
   by_cases q:i=j
   ·subst q;rw[if_pos rfl,if_pos rfl,a1,he'];rfl
   ·rw[if_neg q,if_neg (fun p=>q p.symm),hx]
  have hmem:∀ x∈(w.wrote k c).events,x=e'\/x∈w.events:=fun x hx=>by
   obtain⟨j,hj⟩:=List.getElem?_of_mem hx
   exact(hget j x hj).imp (fun q=>q.2) fun q=>List.mem_of_getElem? q.2
  have n1:e'.client=e0.client/\e'.life=e0.life/\e'.began=e0.began/\e'.kind=c.kind/\e'.obj=c.cob/\e'.d=c.d/\e'.ver=c.ver/\e'.ended=if c.over=true then w.step else 0:=by
   rw[he'];exact⟨rfl,rfl,rfl,rfl,rfl,rfl,rfl,by unfold Ev.noted;dsimp only;rw[a8]⟩
  obtain⟨b1,b2,b3,b4,b5,b6,b7,b8⟩:=n1
  have hbg0:=h.bg e0 (List.mem_of_getElem? a1)
  have hE':EvH w.n e' g0:=⟨by rw[b1,b2];exact hE.c,by rw[b4,hc.kind];exact a5,by rw[b5,hc.cob];exact a6,fun q=>by
   rw[b6,hc.d (by rw[<- hc.kind,<- b4];exact q)];exact a7 (by rw[a5,<- hc.kind,<- b4];exact q),by rw[b1];exact hE.c0,by rw[b1];exact hE.c4,by rw[b4,hc.kind,<- a5,hE.kd];exact hE.kk,by rw[b5,hc.cob,<- a6,hE.o];exact hE.o0,by rw[b5,hc.cob,<- a6,hE.o];exact hE.o8,by rw[b2];exact hE.l0⟩
  have hrel:∀ x∈w.events,x.kind=2->∃ y∈(w.wrote k c).events,y.kind=2/\y.obj=x.obj/\y.d=x.d/\y.began=x.began:=fun x hx hx2=>by
   obtain⟨j,hj⟩:=List.getElem?_of_mem hx
   have hp:=hput j x hj
   by_cases q:j=i
   ·subst q
    rw[a1] at hj
    have ex:e0=x:=Option.some.inj hj
    subst ex
    rw[if_pos rfl] at hp
    refine⟨e',List.mem_of_getElem? hp,by rw[b4,hc.kind,<- a5,hE.kd];exact hx2,by rw[b5,hc.cob,<- a6,hE.o],?_,b3⟩
    have hk2:(w.seat k).k.kind=2:=by rw[<- a5,hE.kd];exact hx2
    rw[b6,hc.d hk2,<- a7 (a5.trans hk2)]
    exact hE.d hx2
   ·rw[if_neg q] at hp
    exact⟨x,List.mem_of_getElem? hp,hx2,rfl,rfl,rfl⟩
  have hover:e'.ended≠0->c.over=true/\e'.ended=w.step/\((w.seat k).k.zy2=true/\c.over=true/\c.ver<=c.seen c.cob/\((w.seat k).k.kind=1->IsVal w.rs c.cob c.ver c.d/\(w.seat k).k.seen c.cob<=c.ver)/\((w.seat k).k.kind=2->∃ r∈w.rs,0<=r.o/\r.c=c.id/\r.n=c.num/\r.v=c.ver)):=fun q=>by
   rw[b8] at q
   by_cases p:c.over=true
   ·rw[if_pos p] at b8
    refine⟨p,b8,?_⟩
    rcases hc.how with r|r
    ·rw[r,hov] at p;cases p
    ·exact r
   ·rw[if_neg p] at q;exact absurd rfl q
  refine⟨h.n4,?_,?_,?_,?_,?_,?_,h.lol,h.hs,h.hd,h.hne,h.n1,h.net,h.msg,h.sv,h.log,h.epc,?_⟩
  ·show H.length=(w.events.modify _ _).length
   rw[List.length_modify];exact h.len
  ·intro j x g hx hg
   rcases hget j x hx with ⟨rfl,rfl⟩|⟨_,q⟩
   ·rw[a2] at hg
    have:g0=g:=Option.some.inj hg
    subst this
    exact hE'
   ·exact h.eh j x g q hg
  ·intro j x g hx hg hn
   rcases hget j x hx with ⟨rfl,rfl⟩|⟨_,q⟩
   ·rw[a2] at hg
    have:g0=g:=Option.some.inj hg
    subst this
    obtain⟨p1,p2,_,_,p3,p4,p5⟩:=hover hn
    refine⟨fun q=>?_,fun q=>?_⟩
    ·have hk1:(w.seat k).k.kind=1:=by rw[<- hc.kind,<- b4];exact q
     obtain⟨v1,v2⟩:=p4 hk1
     rw[b5,b7,b6]
     refine⟨v1,fun hv=>?_⟩
     rcases v1 with v1|⟨r,hr,r0,r1,r2,r3⟩
     ·omega
     ·obtain⟨_,g,hg,g1,g2,g3,g4,g5,_⟩:=h.log.wr r hr r0
      obtain⟨j',hj'⟩:=List.getElem?_of_mem hg
      have hlt:j'<w.events.length:=by rw[<- h.len];exact(List.getElem?_eq_some_iff.1 hj').1
      obtain⟨y,hy⟩:∃ y,w.events[j']?=some y:=⟨_,List.getElem?_eq_getElem hlt⟩
      have hyE:=h.eh j' y g hy hj'
      have hy2:y.kind=2:=hyE.kd.symm.trans g3
      obtain⟨z,hz,z1,z2,z3,z4⟩:=hrel y (List.mem_of_getElem? hy) hy2
      have:=h.bg y (List.mem_of_getElem? hy)
      exact⟨z,hz,z1,by rw[z2,<- hyE.o,g4,r1],by rw[z3,<- hyE.d hy2,g5,r3],by omega⟩
    ·have hk2:(w.seat k).k.kind=2:=by rw[<- hc.kind,<- b4];exact q
     obtain⟨r,hr,r0,r1,r2,r3⟩:=p5 hk2
     exact⟨r,hr,r0,by rw[r1,hc.id,a3],by rw[r2,hc.num,a4],by rw[r3,b7]⟩
   ·exact(h.an j x g q hg hn).mono hrel fun _ p=>p
  ·intro x hx
   rcases hmem x hx with q|q
   ·rw[q,b3,b8]
    refine⟨hbg0.1,hbg0.2.1,?_,?_⟩
    ·split
     ·omega
     ·omega
    ·show _<=w.step
     split
     ·omega
     ·omega
   ·exact h.bg x q
  ·intro i1 j1 x y hij hx hy k1 k2 c1 c2 c3 o1 o2
   rcases hget i1 x hx with ⟨p1,p2⟩|⟨p1,p2⟩<;>rcases hget j1 y hy with ⟨q1,q2⟩|⟨q1,q2⟩
   ·omega
   ·exfalso
    have hjl:j1<H.length:=by rw[h.len];exact(List.getElem?_eq_some_iff.1 q2).1
    have hg:H[j1]?=some H[j1]:=List.getElem?_eq_getElem hjl
    have hyE:=h.eh j1 y _ q2 hg
    refine h.lastOne hk a2 hg (by omega) a3 a4 ?_
    rw[hyE.c,hE'.c,<- p2,c1,c2]
   ·have hxl:i1<H.length:=by rw[h.len];exact(List.getElem?_eq_some_iff.1 p2).1
    obtain⟨r1,r2,_,_,r3,r4,r5⟩:=hover (by rw[<- q2];exact o2)
    have hk1:(w.seat k).k.kind=1:=by rw[<- hc.kind,<- b4,<- q2];exact k2
    have h1:=hs.seen x (List.mem_of_getElem? p2) (by rw[c1,q2,b1];exact hck.1) (by rw[c2,q2,b2];exact hck.2) o1
    have h2:=(r4 hk1).2
    rw[c3,q2,b5] at h1
    rw[q2,b7]
    omega
   ·exact h.mo i1 j1 x y hij p2 q2 k1 k2 c1 c2 c3 o1 o2
  ·intro x hx hn j y g hy hg ho hb
   rcases hmem x hx with q|q
   ·subst q
    obtain⟨_,r2,_⟩:=hover hn
    have hyb:y.began<=w.step:=by
     rcases hget j y hy with ⟨_,p2⟩|⟨_,p2⟩
     ·rw[p2,b3];exact hbg0.2.1
     ·exact(h.bg y (List.mem_of_getElem? p2)).2.1
    omega
   ·rcases hget j y hy with ⟨p1,p2⟩|⟨_,p2⟩
    ·subst p1
     exact h.bef x q hn j e0 g a1 hg (by rw[ho,p2,b5,hc.cob,<- a6,hE.o]) (by rw[p2,b3] at hb;exact hb)
    ·exact h.bef x q hn j y g p2 hg ho hb
  ·intro j hj
   by_cases e:j=k
   ·subst e
    have es:(w.wrote j c).seat j=⟨c,(w.seat j).clock,(w.seat j).life,if c.over=true then -1 else (w.seat j).call⟩:=zaa _ _ _
    refine⟨by rw[es];exact hc.id.trans hs.id,by rw[es];exact hs.l0,by rw[es];show 0<=c.num;rw[hc.num];exact hs.n0,?_,?_,?_,?_,by rw[es];exact hc.kept,?_⟩
    ·rw[es];intro g hg e1;show g.n<=c.num;rw[hc.num];exact hs.num g hg (e1.trans hc.id)
    ·rw[es];intro g hg e1;show g.c<=c.id;rw[hc.id];exact hs.liv g hg e1
    ·rw[es]
     intro h0
     have hno:¬ c.over=true:=fun q=>by
      have h0':0<=(if c.over=true then -1 else (w.seat j).call):=h0
      rw[if_pos q] at h0';omega
     have ec:(if c.over=true then -1 else (w.seat j).call)=(w.seat j).call:=if_neg hno
     have hp:=hput i e0 a1
     rw[if_pos rfl] at hp
     refine⟨e',g0,?_,?_,a3.trans hc.id.symm,a4.trans hc.num.symm,a5.trans hc.kind.symm,a6.trans hc.cob.symm,fun q=>(a7 q).trans (hc.d (a5.symm.trans q)).symm,by rw[b8,if_neg hno]⟩
     ·show (w.wrote j c).events[(if c.over=true then -1 else (w.seat j).call).toNat]?=_
      rw[ec,<- hi];exact hp
     ·show H[(if c.over=true then -1 else (w.seat j).call).toNat]?=_
      rw[ec,<- hi];exact a2
    ·rw[es]
     show c.zy2=decide (0<=(if c.over=true then -1 else (w.seat j).call))
     have hkd:c.kind≠0:=by rw[hc.kind];exact((K.isOpen_iff _).1 hopen).1
     unfold K.zy2
     cases hov2:c.over
     ·rw[if_neg (by decide),decide_eq_true hkd,decide_eq_true (show 0<=(w.seat j).call by omega)];rfl
     ·rw[if_pos rfl];simp
    ·rw[es]
     intro x hx e1 e2 e3
     show x.ver<=c.seen x.obj
     rcases hmem x hx with q|q
     ·subst q
      obtain⟨_,_,_,_,r3,_⟩:=hover e3
      rw[b7,b5];exact r3
     ·exact Int.le_trans (hs.seen x q e1 e2 e3) (hc.seen _)
   ·have hsj:=h.st j hj
    have es:(w.wrote k c).seat j=w.seat j:=zag _ _ e
    refine⟨by rw[es];exact hsj.id,by rw[es];exact hsj.l0,by rw[es];exact hsj.n0,by rw[es];exact hsj.num,by rw[es];exact hsj.liv,?_,by rw[es];exact hsj.isO,by rw[es];exact hsj.kept,?_⟩
    ·rw[es]
     intro h0
     obtain⟨x,g,d1,d2,d3,d4⟩:=hsj.opn h0
     have hne:(w.seat j).call.toNat≠i:=fun q=>by
      rw[q,a2] at d2
      have:g0=g:=Option.some.inj d2
      subst this
      have h1:=hsj.id
      have h2:=hs.id
      have:=h.n4
      have hj':j<w.n:=hj
      omega
     have hp:=hput _ x d1
     rw[if_neg hne] at hp
     exact⟨x,g,hp,d2,d3,d4⟩
    ·rw[es]
     intro x hx e1 e2 e3
     rcases hmem x hx with q|q
     ·exfalso
      rw[q,b1,hck.1] at e1
      omega
     ·exact hsj.seen x q e1 e2 e3
theorem zqx{a b c:Int}(h1:a<=c)(h2:b<=c):mx a b<=c:=by unfold Lease.mx;split<;>assumption
theorem zd2(a b:Int):a<=mx a b:=by unfold Lease.mx;split<;>omega
theorem zfc(a b:Int):b<=mx a b:=by unfold Lease.mx;split<;>omega
theorem zmx{f:Int->Int}{o x:Int}(h:f o<=x)(y:Int):f y<=upd f o x y:=by
 unfold Lease.upd
 split
 ·rename_i e;rw[e];exact h
 ·exact Int.le_refl _
theorem SeatI.next{w:Wd}{H:List Hc}{k:Nat}(hs:SeatI w H k):KNext w k (w.seat k).k:=⟨rfl,rfl,rfl,rfl,fun _=>rfl,hs.kept,fun _=>Int.le_refl _,.inl rfl⟩
theorem zto{w:Wd}{H:List Hc}{L:List M}{B:Nat}(h:Inv w H L B){k:Nat}(hk:k<w.n){m:M}(hm:m∈L):KNext w k ((w.seat k).k.hear m).1:=by
 have hs:=h.st k hk
 have hmsg:=h.msg m hm
 unfold K.hear
 split
 ·unfold K.forget
  split
  ·exact⟨rfl,rfl,rfl,rfl,fun _=>rfl,fun x hx=>hs.kept x (zcy hx),fun _=>Int.le_refl _,.inl rfl⟩
  ·exact⟨rfl,rfl,rfl,rfl,fun _=>rfl,fun x hx=>hs.kept x (zcy hx),fun _=>Int.le_refl _,.inl rfl⟩
 ·split
  ·exact hs.next
  ·rename_i hid
   have hid':m.c=(w.seat k).k.id:=by omega
   split
   ·unfold K.granted
    split
    ·exact⟨rfl,rfl,rfl,rfl,fun _=>rfl,hs.kept,fun _=>Int.le_refl _,.inl rfl⟩
    ·exact hs.next
   ·split
    ·unfold K.flush
     split
     ·exact hs.next
     ·exact⟨rfl,rfl,rfl,rfl,fun _=>rfl,fun x hx=>(by cases hx),fun _=>Int.le_refl _,.inl rfl⟩
    ·split
     ·rename_i hw
      obtain⟨hk5,hw⟩:=hw
      unfold K.zzf at hw
      simp only[Bool.and_eq_true,decide_eq_true_eq] at hw
      obtain⟨⟨w1,w2⟩,w3⟩:=hw
      obtain⟨⟨g,hg,g1,g2,g3,g4,_⟩,hval⟩:=hmsg.va hk5
      have hcall:0<=(w.seat k).call:=by rw[hs.isO] at w1;exact of_decide_eq_true w1
      obtain⟨e0,g0,a1,a2,a3,a4,a5,a6,a7,a8⟩:=hs.opn hcall
      have eg:g=g0:=zcg h.hu hg (List.mem_of_getElem? a2) ⟨by omega,by omega⟩
      have ho:m.o=(w.seat k).k.cob:=by rw[<- g4,eg,a6]
      rw[ho] at hval
      unfold K.read
      split
      ·exact hs.next
      ·rename_i hv
       have hv':(w.seat k).k.seen (w.seat k).k.cob<=m.v:=by omega
       have key:∀ c:K,(c=(w.seat k).k\/c = { (w.seat k).k with kept:=putL (w.seat k).k.kept ⟨(w.seat k).k.cob,m.d,m.v,(w.seat k).k.sent+(w.seat k).k.obj⟩ })->KNext w k (c.overWith m.d m.v):=by
        intro c hc
        have hkept:∀ x∈c.kept,IsVal w.rs x.o x.v x.d:=by
         rcases hc with q|q
         ·rw[q];exact hs.kept
         ·rw[q]
          intro x hx
          rcases zdz hx with p|p
          ·rw[p];exact hval
          ·exact hs.kept x p
        have hc':c.id=(w.seat k).k.id/\c.num=(w.seat k).k.num/\c.kind=(w.seat k).k.kind/\c.cob=(w.seat k).k.cob/\c.seen=(w.seat k).k.seen:=by rcases hc with q|q<;>rw[q]<;>exact⟨rfl,rfl,rfl,rfl,rfl⟩
        obtain⟨q1,q2,q3,q4,q5⟩:=hc'
        refine⟨q1,q2,q3,q4,fun q=>by omega,hkept,?_,.inr ⟨w1,rfl,?_,fun _=>⟨?_,?_⟩,fun q=>by omega⟩⟩
        ·intro o
         show (w.seat k).k.seen o<=upd c.seen c.cob (mx (c.seen c.cob) m.v) o
         rw[q5]
         exact zmx (zd2 _ _) o
        ·show m.v<=upd c.seen c.cob (mx (c.seen c.cob) m.v) c.cob
         rw[zae];exact zfc _ _
        ·show IsVal w.rs c.cob m.v m.d
         rw[q4];exact hval
        ·show (w.seat k).k.seen c.cob<=m.v
         rw[q4];exact hv'
       split
       ·exact key _ (.inr rfl)
       ·exact key _ (.inl rfl)
     ·split
      ·rename_i hw
       obtain⟨hk6,hw⟩:=hw
       unfold K.zzf at hw
       simp only[Bool.and_eq_true,decide_eq_true_eq] at hw
       obtain⟨⟨w1,w2⟩,w3⟩:=hw
       obtain⟨r,hr,r0,r1,r2,r3⟩:=hmsg.dn hk6
       refine⟨rfl,rfl,rfl,rfl,fun _=>rfl,hs.kept,?_,.inr ⟨w1,rfl,?_,fun q=>by omega,fun _=>⟨r,hr,r0,?_,?_,r3⟩⟩⟩
       ·intro o
        exact zmx (zd2 _ _) o
       ·show m.v<=upd (w.seat k).k.seen (w.seat k).k.cob (mx ((w.seat k).k.seen (w.seat k).k.cob) m.v) (w.seat k).k.cob
        rw[zae];exact zfc _ _
       ·show r.c=(w.seat k).k.id
        omega
       ·show r.n=(w.seat k).k.num
        omega
      ·exact hs.next
theorem Inv.said{w:Wd}{H:List Hc}{L:List M}{B:Nat}(h:Inv w H L B)(l:List M)(hl:∀ m∈l,MsgOk H w.rs m):Inv w H (L++l) B:=
 ⟨h.n4,h.len,h.eh,h.an,h.bg,h.mo,h.bef,h.lol,h.hs,h.hd,h.hne,h.n1,fun p hp=>⟨List.mem_append_left _ (h.net p hp).1,(h.net p hp).2⟩,fun m hm=>(List.mem_append.1 hm).elim (h.msg m) (hl m),h.sv,h.log,h.epc,h.st⟩
theorem zk2(w:Wd)(k:Nat)(t:Int)(l:List M):(w.send t l).note k=(w.note k).send t l:=by
 have hput:∀ (w:Wd) (m:M),(w.put t m).note k=(w.note k).put t m:=fun w m=>by
  have e:∀ x:Wd,x.note k=if (x.seat k).call<0 then x else { x with events:=x.events.modify (x.seat k).call.toNat fun e=>e.noted (x.seat k).k x.step,seat:=zy9 x.seat k { x.seat k with call:=if (x.seat k).k.over=true then -1 else (x.seat k).call } }:=fun _=>rfl
  by_cases h:okB m=true/\w.net.length<200
  ·have e1:w.put t m = { w with net:=w.net++[(t,m)] }:=if_pos h
   rw[e1,e,e]
   by_cases q:(w.seat k).call<0
   ·rw[if_pos q,if_pos q];exact e1.symm
   ·rw[if_neg q,if_neg q];exact(if_pos h).symm
  ·have e1:w.put t m=w:=if_neg h
   rw[e1,e]
   by_cases q:(w.seat k).call<0
   ·rw[if_pos q];exact e1.symm
   ·rw[if_neg q];exact(if_neg h).symm
 induction l generalizing w with
 | nil=>rfl
 | cons m l ih=>exact(ih (w.put t m)).trans (congrArg (fun x:Wd=>x.send t l) (hput w m))
theorem za5{A:Type}{l:List A}{x y:A}(h:y∈l++[x]):y∈l\/y=x:=(List.mem_append.1 h).imp id fun k=>List.mem_singleton.1 k
theorem zc2{A:Type}{l:List A}{x y:A}{i:Nat}(h:(l++[x])[i]?=some y):(i<l.length/\l[i]?=some y)\/(i=l.length/\y=x):=by
 by_cases hi:i<l.length
 ·rw[List.getElem?_append_left hi] at h;exact .inl ⟨hi,h⟩
 ·rw[List.getElem?_append_right (by omega)] at h
  by_cases h0:i-l.length=0
  ·rw[h0] at h;exact .inr ⟨by omega,(Option.some.inj h).symm⟩
  ·rw[List.getElem?_singleton,if_neg h0] at h;cases h
def Wd.hc(w:Wd)(k:Nat)(c:K):Hc:=⟨(w.seat k).k.id,(w.seat k).k.num+1,c.kind,c.cob,c.d,(logL w.rs).vv c.cob.toNat⟩
def Wd.began(w:Wd)(k:Nat)(c:K):Wd:=(w.opens k c).note k
structure KBegin(w:Wd)(k:Nat)(c:K):Prop where
 id:c.id=(w.seat k).k.id
 num:c.num=(w.seat k).k.num+1
 kind:c.kind=1\/c.kind=2
 o0:0<=c.cob
 o8:c.cob<8
 kept:∀ x∈c.kept,IsVal w.rs x.o x.v x.d
 seen:c.seen=(w.seat k).k.seen
 over:c.over=false
theorem zca(w:Wd)(k:Nat)(c:K)(ho:c.over=false):w.began k c = { w with step:=w.step+1,events:=w.events++[⟨k,c.kind,c.cob,c.d,c.ver,false,c.hit,w.step+1,0,(w.seat k).life⟩],seat:=zy9 w.seat k ⟨c,(w.seat k).clock,(w.seat k).life,w.events.length⟩ }:=by
 have hs:(w.opens k c).seat k=⟨c,(w.seat k).clock,(w.seat k).life,w.events.length⟩:=zaa _ _ _
 unfold Wd.began Wd.note
 rw[if_neg (by rw[hs];dsimp only;omega),hs]
 have e1:(w.events++[(⟨k,0,0,⟨#[]⟩,0,false,false,w.step+1,0,(w.seat k).life⟩:Ev)]).modify ((w.events.length:Int)).toNat (fun e=>e.noted c (w.step+1))=w.events++[⟨k,c.kind,c.cob,c.d,c.ver,false,c.hit,w.step+1,0,(w.seat k).life⟩]:=by
  apply List.ext_getElem?
  intro i
  rw[zb1]
  by_cases hi:i<w.events.length
  ·rw[List.getElem?_append_left hi,List.getElem?_append_left hi,if_neg (by omega)]
  ·rw[List.getElem?_append_right (by omega),List.getElem?_append_right (by omega)]
   by_cases h0:i-w.events.length=0
   ·rw[if_pos (by omega),h0]
    simp[Ev.noted,ho]
   ·rw[if_neg (by omega),List.getElem?_singleton,List.getElem?_singleton,if_neg h0,if_neg h0]
 have e2:zy9 (zy9 w.seat k (⟨c,(w.seat k).clock,(w.seat k).life,(w.events.length:Int)⟩:St)) k (⟨c,(w.seat k).clock,(w.seat k).life,if c.over=true then -1 else (w.events.length:Int)⟩:St)=zy9 w.seat k ⟨c,(w.seat k).clock,(w.seat k).life,w.events.length⟩:=by
  funext j
  unfold zy9
  rw[ho]
  split<;>simp
 unfold Wd.opens
 dsimp only at e1 e2 ⊢
 rw[e1,e2]
theorem Inv.began{w:Wd}{H:List Hc}{L:List M}{B:Nat}(h:Inv w H L B){k:Nat}(hk:k<w.n)(hst:0<=w.step){c:K}(hc:KBegin w k c)(hfree:(w.seat k).k.zy2=false)(hd:c.kind=2->c.d≠⟨#[]⟩/\∀ g∈H,g.kd=2->g.d≠c.d):Inv (w.began k c) (H++[w.hc k c]) L B:=by
 have hs:=h.st k hk
 rw[zca w k c hc.over]
 obtain⟨e',he'⟩:∃ e':Ev,e'=⟨k,c.kind,c.cob,c.d,c.ver,false,c.hit,w.step+1,0,(w.seat k).life⟩:=⟨_,rfl⟩
 obtain⟨g',hg'⟩:∃ g',g'=w.hc k c:=⟨_,rfl⟩
 rw[<- he',<- hg']
 have hn4:=h.n4
 have hsub:∀ g∈H,g∈H++[g']:=fun _ q=>List.mem_append_left _ q
 have hesub:∀ x∈w.events,x∈w.events++[e']:=fun _ q=>List.mem_append_left _ q
 have hlt:∀ {i:Nat} {x:Ev},w.events[i]?=some x->i<w.events.length:=fun q=>(List.getElem?_eq_some_iff.1 q).1
 have hE:EvH w.n e' g':=by
  rw[he',hg']
  exact⟨hs.id,rfl,rfl,fun _=>rfl,by show (0:Int)<=k;omega,by show (k:Int)<w.n;omega,hc.kind,hc.o0,hc.o8,hs.l0⟩
 have hpair:∀ (i:Nat) x g,(w.events++[e'])[i]?=some x->(H++[g'])[i]?=some g->(w.events[i]?=some x/\H[i]?=some g)\/(i=w.events.length/\x=e'/\g=g'):=fun i x g hx hg=>by
  rcases zc2 hx with ⟨p1,p2⟩|⟨p1,p2⟩<;>rcases zc2 hg with ⟨q1,q2⟩|⟨q1,q2⟩
  ·exact .inl ⟨p2,q2⟩
  ·have:=h.len;omega
  ·have:=h.len;omega
  ·exact .inr ⟨p1,p2,q2⟩
 refine⟨h.n4,?_,?_,?_,?_,?_,?_,?_,?_,?_,?_,?_,h.net,?_,?_,h.log.mono hsub,h.epc,?_⟩
 ·show (H++[g']).length=(w.events++[e']).length
  rw[List.length_append,List.length_append,h.len];rfl
 ·intro i x g hx hg
  rcases hpair i x g hx hg with ⟨p,q⟩|⟨_,p,q⟩
  ·exact h.eh i x g p q
  ·rw[p,q];exact hE
 ·intro i x g hx hg hn
  rcases hpair i x g hx hg with ⟨p,q⟩|⟨_,p,q⟩
  ·exact(h.an i x g p q hn).mono (fun y hy k2=>⟨y,hesub y hy,k2,rfl,rfl,rfl⟩) fun _ r=>r
  ·rw[p,he'] at hn;exact absurd rfl hn
 ·intro x hx
  rcases za5 hx with q|q
  ·have:=h.bg x q
   exact⟨this.1,by show x.began<=w.step+1;omega,this.2.2.1,by show x.ended<=w.step+1;omega⟩
  ·rw[q,he']
   exact⟨by show 0<w.step+1;omega,Int.le_refl _,Int.le_refl 0,by show 0<=w.step+1;omega⟩
 ·intro i j x y hij hx hy k1 k2 c1 c2 c3 o1 o2
  rcases zc2 hx with ⟨p1,p2⟩|⟨p1,p2⟩<;>rcases zc2 hy with ⟨q1,q2⟩|⟨q1,q2⟩
  ·exact h.mo i j x y hij p2 q2 k1 k2 c1 c2 c3 o1 o2
  ·rw[q2,he'] at o2;exact absurd rfl o2
  ·omega
  ·omega
 ·intro x hx hn j y g hy hg ho hb
  rcases za5 hx with q|q
  ·rcases hpair j y g hy hg with ⟨p,r⟩|⟨_,p,r⟩
   ·exact h.bef x q hn j y g p r ho hb
   ·obtain⟨i,hi⟩:=List.getElem?_of_mem q
    have hiH:i<H.length:=by rw[h.len];exact hlt hi
    have hans:=h.an i x _ hi (List.getElem?_eq_getElem hiH) hn
    have hEx:=h.eh i x _ hi (List.getElem?_eq_getElem hiH)
    have hxo:x.obj=c.cob:=by rw[ho,p,he']
    have hlo:g.lo=(logL w.rs).vv x.obj.toNat:=by rw[r,hg',hxo];rfl
    rw[hlo]
    rcases hEx.kk with k1|k2
    ·exact((hans.rd k1).1.le h.log).2
    ·obtain⟨r,hr,r0,r1,r2,r3⟩:=hans.wr k2
     obtain⟨_,gg,hgg,g1,g2,g3,g4,g5,_⟩:=h.log.wr r hr r0
     have eg:gg=H[i]:=zcg h.hu hgg (List.getElem_mem hiH) ⟨by omega,by omega⟩
     have:=(h.log.ver r hr r0).2
     rw[r3,<- g4,eg,hEx.o] at this
     exact this
  ·rw[q,he'] at hn;exact absurd rfl hn
 ·intro g hg
  rcases za5 hg with q|q
  ·exact h.lol g q
  ·rw[q,hg'];exact Int.le_refl _
 ·rw[List.pairwise_append]
  refine⟨h.hs,by simp,fun a ha b hb e=>?_⟩
  rw[List.mem_singleton.1 hb,hg'] at e ⊢
  have:=hs.num a ha e
  show a.n<(w.seat k).k.num+1
  omega
 ·rw[List.pairwise_append]
  refine⟨h.hd,by simp,fun a ha b hb e1 e2=>?_⟩
  rw[List.mem_singleton.1 hb,hg'] at e2 ⊢
  exact(hd e2).2 a ha e1
 ·intro g hg e
  rcases za5 hg with q|q
  ·exact h.hne g q e
  ·rw[q,hg'] at e ⊢;exact(hd e).1
 ·intro g hg
  rcases za5 hg with q|q
  ·exact h.n1 g q
  ·rw[q,hg']
   have:=hs.n0
   show 0<(w.seat k).k.num+1
   omega
 ·exact fun m hm=>(h.msg m hm).mono hsub fun _ q=>q
 ·exact fun s hq=>⟨(h.sv s hq).1.mono hsub,(h.sv s hq).2⟩
 ·intro j hj
  by_cases e:j=k
  ·subst e
   obtain⟨sj,hsj⟩:∃ sj:St,sj=⟨c,(w.seat j).clock,(w.seat j).life,w.events.length⟩:=⟨_,rfl⟩
   have es:zy9 w.seat j sj j=sj:=zaa _ _ _
   rw[<- hsj]
   have h1:sj.k=c/\sj.life=(w.seat j).life/\sj.call=w.events.length:=by rw[hsj];exact⟨rfl,rfl,rfl⟩
   obtain⟨f1,f2,f3⟩:=h1
   refine⟨?_,?_,?_,?_,?_,?_,?_,?_,?_⟩
   ·show (zy9 w.seat j sj j).k.id=(zy9 w.seat j sj j).life*4+j
    rw[es,f1,f2,hc.id];exact hs.id
   ·show 0<=(zy9 w.seat j sj j).life
    rw[es,f2];exact hs.l0
   ·show 0<=(zy9 w.seat j sj j).k.num
    rw[es,f1,hc.num];have:=hs.n0;omega
   ·show ∀ h∈H++[g'],h.c=(zy9 w.seat j sj j).k.id->h.n<=(zy9 w.seat j sj j).k.num
    rw[es,f1,hc.num,hc.id]
    intro g hg e1
    rcases za5 hg with q|q
    ·have:=hs.num g q e1;omega
    ·rw[q,hg'];exact Int.le_refl _
   ·show ∀ h∈H++[g'],zy8 h.c=j->h.c<=(zy9 w.seat j sj j).k.id
    rw[es,f1,hc.id]
    intro g hg e1
    rcases za5 hg with q|q
    ·exact hs.liv g q e1
    ·rw[q,hg'];exact Int.le_refl _
   ·show 0<=(zy9 w.seat j sj j).call->∃ e h,(w.events++[e'])[(zy9 w.seat j sj j).call.toNat]?=some e/\(H++[g'])[(zy9 w.seat j sj j).call.toNat]?=some h/\h.c=(zy9 w.seat j sj j).k.id/\h.n=(zy9 w.seat j sj j).k.num/\h.kd=(zy9 w.seat j sj j).k.kind/\h.o=(zy9 w.seat j sj j).k.cob/\(h.kd=2->h.d=(zy9 w.seat j sj j).k.d)/\e.ended=0
    rw[es,f1,f3]
    intro _
    refine⟨e',g',?_,?_,?_,?_,?_,?_,?_,?_⟩
    ·rw[List.getElem?_append_right (by omega)];simp
    ·rw[List.getElem?_append_right (by have:=h.len;omega),h.len];simp
    ·rw[hg',hc.id];rfl
    ·rw[hg',hc.num];rfl
    ·rw[hg'];rfl
    ·rw[hg'];rfl
    ·intro _;rw[hg'];rfl
    ·rw[he']
   ·show (zy9 w.seat j sj j).k.zy2=decide (0<=(zy9 w.seat j sj j).call)
    rw[es,f1,f3]
    unfold K.zy2
    rw[hc.over,decide_eq_true (show c.kind≠0 by have:=hc.kind;omega),decide_eq_true (show (0:Int)<=w.events.length by omega)]
    rfl
   ·show ∀ x∈(zy9 w.seat j sj j).k.kept,IsVal w.rs x.o x.v x.d
    rw[es,f1];exact hc.kept
   ·show ∀ e∈w.events++[e'],e.client=j->e.life=(zy9 w.seat j sj j).life->e.ended≠0->e.ver<=(zy9 w.seat j sj j).k.seen e.obj
    rw[es,f1,f2,hc.seen]
    intro x hx e1 e2 e3
    rcases za5 hx with q|q
    ·exact hs.seen x q e1 e2 e3
    ·rw[q,he'] at e3;exact absurd rfl e3
  ·have hj':j<w.n:=hj
   have hsj:=h.st j hj'
   obtain⟨sk,hsk⟩:∃ sk:St,sk=⟨c,(w.seat k).clock,(w.seat k).life,w.events.length⟩:=⟨_,rfl⟩
   have es:zy9 w.seat k sk j=w.seat j:=zag _ _ e
   rw[<- hsk]
   refine⟨?_,?_,?_,?_,?_,?_,?_,?_,?_⟩
   ·show (zy9 w.seat k sk j).k.id=(zy9 w.seat k sk j).life*4+j
    rw[es];exact hsj.id
   ·show 0<=(zy9 w.seat k sk j).life
    rw[es];exact hsj.l0
   ·show 0<=(zy9 w.seat k sk j).k.num
    rw[es];exact hsj.n0
   ·show ∀ h∈H++[g'],h.c=(zy9 w.seat k sk j).k.id->h.n<=(zy9 w.seat k sk j).k.num
    rw[es]
    intro g hg e1
    rcases za5 hg with q|q
    ·exact hsj.num g q e1
    ·exfalso
     rw[q,hg'] at e1
     have e1':(w.seat k).k.id=(w.seat j).k.id:=e1
     have h1:=hs.id
     have h2:=hsj.id
     omega
   ·show ∀ h∈H++[g'],zy8 h.c=j->h.c<=(zy9 w.seat k sk j).k.id
    rw[es]
    intro g hg e1
    rcases za5 hg with q|q
    ·exact hsj.liv g q e1
    ·exfalso
     rw[q,hg'] at e1
     have e1':zy8 (w.seat k).k.id=j:=e1
     have h1:=hs.id
     have h2:=hs.l0
     unfold zy8 at e1'
     omega
   ·show 0<=(zy9 w.seat k sk j).call->∃ e h,(w.events++[e'])[(zy9 w.seat k sk j).call.toNat]?=some e/\(H++[g'])[(zy9 w.seat k sk j).call.toNat]?=some h/\h.c=(zy9 w.seat k sk j).k.id/\h.n=(zy9 w.seat k sk j).k.num/\h.kd=(zy9 w.seat k sk j).k.kind/\h.o=(zy9 w.seat k sk j).k.cob/\(h.kd=2->h.d=(zy9 w.seat k sk j).k.d)/\e.ended=0
    rw[es]
    intro h0
    obtain⟨x,g,d1,d2,d3⟩:=hsj.opn h0
    have hl1:=(List.getElem?_eq_some_iff.1 d1).1
    have hl2:=(List.getElem?_eq_some_iff.1 d2).1
    exact⟨x,g,by rw[List.getElem?_append_left hl1];exact d1,by rw[List.getElem?_append_left hl2];exact d2,d3⟩
   ·show (zy9 w.seat k sk j).k.zy2=decide (0<=(zy9 w.seat k sk j).call)
    rw[es];exact hsj.isO
   ·show ∀ x∈(zy9 w.seat k sk j).k.kept,IsVal w.rs x.o x.v x.d
    rw[es];exact hsj.kept
   ·show ∀ e∈w.events++[e'],e.client=j->e.life=(zy9 w.seat k sk j).life->e.ended≠0->e.ver<=(zy9 w.seat k sk j).k.seen e.obj
    rw[es]
    intro x hx e1 e2 e3
    rcases za5 hx with q|q
    ·exact hsj.seen x q e1 e2 e3
    ·rw[q,he'] at e3;exact absurd rfl e3
end Wld
end
end Go.Proofs.YtbebfliimjjohabGreatDoor
