/- Parts of the proof. -/
import Derived.Test.YtbebfliimjjohabGreatDoorLc49
set_option maxRecDepth 100000
set_option maxHeartbeats 8000000
namespace Go.Proofs.YtbebfliimjjohabGreatDoor
section
namespace Wld
open Go.Maps
open Lease (I64 upd zae zad mx hol isH kk dels)
open Cache (E era putL)
open Wal (R timeB)
open Num (M okB)
structure Ka(s0:Sv)(a:Int)(j:Nat)(t0 ob:Int)(k:K):Prop where
 op:k.zy2=true
 kd:k.kind=1
 co:k.cob=a
 cm:k.coming=0
 st:k.sent=t0
 e:k.ep=s0.epoch
 s:k.ses=s0.ses (j:Nat)
 se:k.seen a<=s0.vv a.toNat
 ob:k.obj=ob
structure Kb(s0:Sv)(a:Int)(j:Nat)(t0 ob:Int)(k:K):Prop where
 op:k.zy2=false
 e:k.ep=s0.epoch
 s:k.ses=s0.ses (j:Nat)
 se:k.seen a<=s0.vv a.toNat
 fd:k.find a=some ⟨a,s0.vd a.toNat,s0.vv a.toNat,t0+ob⟩
theorem zuh(L:List E)(e:E):(putL L e).find? (fun x=>decide (x.o=e.o))=some e:=by
 have hn:∀ x∈era e.o L,¬ x.o=e.o:=fun x hx=>by
  have:=(List.mem_filter.1 hx).2
  intro q
  unfold Cache.oth at this
  simp[q] at this
 have h1:∀ M:List E,(∀ x∈M,x∈era e.o L)->(M++[e]).find? (fun x=>decide (x.o=e.o))=some e:=fun M hM=>by
  rw[List.find?_append]
  have:M.find? (fun x=>decide (x.o=e.o))=none:=by
   rw[List.find?_eq_none]
   intro x hx
   simpa using hn x (hM x hx)
  rw[this]
  simp
 unfold putL
 split
 ·exact h1 _ fun x hx=>List.mem_of_mem_eraseIdx hx
 ·exact h1 _ fun x hx=>hx
theorem Ka.hear{s0:Sv}{a:Int}{j:Nat}{t0 ob:Int}{k:K}(h:Ka s0 a j t0 ob k){x:M}(hx:Ans s0 a x)(hj:x.c=k.id->zy8 x.c=j)(hv:0<=s0.vv a.toNat) :
  Ka s0 a j t0 ob (k.hear x).1\/(Kb s0 a j t0 ob (k.hear x).1/\(k.hear x).1.over=true/\(k.hear x).1.d=s0.vd a.toNat/\(k.hear x).1.ver=s0.vv a.toNat):=by
 obtain⟨x1,x2,x3⟩:=hx
 have h9:x.k≠9:=by rcases x3 with h|h|⟨h,_⟩<;>omega
 unfold K.hear
 rw[if_neg h9]
 split
 ·exact .inl h
 ·rename_i hid
  rw[hj (by omega)] at x2
  split
  ·left
   unfold K.granted
   split
   ·exact⟨h.op,h.kd,h.co,h.cm,h.st,h.e,h.s,h.se,h.ob⟩
   ·exact h
  ·split
   ·left
    unfold K.flush
    rw[if_pos ⟨x1.trans h.e.symm,x2.trans h.s.symm⟩]
    exact h
   ·split
    ·rename_i h5
     obtain⟨_,y1,y2,y3⟩:x.k=5/\x.l=true/\x.v=s0.vv a.toNat/\x.d=s0.vd a.toNat:=by
      rcases x3 with q|q|q
      ·omega
      ·omega
      ·exact q
     have hse:=h.se
     unfold K.read
     rw[if_neg (by rw[h.co];omega),if_pos ⟨y1,by rw[h.cm];omega,h.e.trans x1.symm,h.s.trans x2.symm⟩]
     right
     refine⟨⟨by simp[K.zy2,K.overWith],h.e,h.s,?_,?_⟩,rfl,y3,y2⟩
     ·show upd k.seen k.cob (mx (k.seen k.cob) x.v) a<=_
      rw[h.co,zae,y2]
      exact zqx hse (Int.le_refl _)
     ·show (putL k.kept ⟨k.cob,x.d,x.v,k.sent+k.obj⟩).find? (fun x=>decide (x.o=a))=_
      rw[h.co,y3,y2,h.st,h.ob]
      exact zuh k.kept ⟨a,s0.vd a.toNat,s0.vv a.toNat,t0+ob⟩
    ·split
     ·rename_i h6
      rcases x3 with q|q|q<;>omega
     ·exact .inl h
theorem Kb.hear{s0:Sv}{a:Int}{j:Nat}{t0 ob:Int}{k:K}(h:Kb s0 a j t0 ob k){x:M}(hx:Ans s0 a x)(hj:x.c=k.id->zy8 x.c=j):Kb s0 a j t0 ob (k.hear x).1:=by
 obtain⟨x1,x2,x3⟩:=hx
 have h9:x.k≠9:=by rcases x3 with h|h|⟨h,_⟩<;>omega
 have hw:∀ kd n,k.zzf kd n=false:=fun kd n=>by unfold K.zzf;rw[h.op];rfl
 unfold K.hear
 rw[if_neg h9]
 split
 ·exact h
 ·rename_i hid
  rw[hj (by omega)] at x2
  split
  ·unfold K.granted
   split
   ·exact⟨h.op,h.e,h.s,h.se,h.fd⟩
   ·exact h
  ·split
   ·unfold K.flush
    rw[if_pos ⟨x1.trans h.e.symm,x2.trans h.s.symm⟩]
    exact h
   ·rw[if_neg (by rw[hw];simp),if_neg (by rw[hw];simp)]
    exact h
theorem Ka.again{s0:Sv}{a:Int}{j:Nat}{t0 ob:Int}{k:K}(h:Ka s0 a j t0 ob k)(now:Int):Ka s0 a j t0 ob (k.again now):=by
 unfold K.again
 split
 ·exact⟨h.op,h.kd,h.co,h.cm,h.st,h.e,h.s,h.se,h.ob⟩
 ·exact h
theorem Kb.again{s0:Sv}{a:Int}{j:Nat}{t0 ob:Int}{k:K}(h:Kb s0 a j t0 ob k)(now:Int):Kb s0 a j t0 ob (k.again now):=by
 unfold K.again
 split
 ·exact⟨h.op,h.e,h.s,h.se,h.fd⟩
 ·exact h
def Rq(s0:Sv)(a:Int)(k:Nat)(t0 ob:Int)(N:Nat)(w:Wd):Prop:=
 (Ka s0 a k t0 ob (w.seat k).k/\(w.seat k).call=(N:Int)) \/
 (Kb s0 a k t0 ob (w.seat k).k/\∃ e,w.events[N]?=some e/\0<e.ended/\e.d=s0.vd a.toNat/\e.ver=s0.vv a.toNat)
theorem zrj{w:Wd}{p:Int×M}{rest:List (Int×M)}(hn:w.net=p :: rest)(hp:p.1 = -1):Evs w (w.deliver 0):=by
 unfold Wd.deliver
 rw[hn]
 show Evs w (({ w with net:=rest,step:=w.step+1 }:Wd).told p.1 p.2)
 unfold Wd.told
 rw[if_pos hp]
 exact Evs.trans (b:={ w with net:=rest,step:=w.step+1 }) ⟨rfl,rfl,fun _=>⟨rfl,rfl⟩⟩ (zc5 _ _)
theorem znm{w:Wd}{p:Int×M}{rest:List (Int×M)}(hn:w.net=p :: rest){j:Nat}(hj:j<w.n)(hp:p.1=(j:Int)) :
  ((w.deliver 0).seat j).k=((w.seat j).k.hear p.2).1/\((w.seat j).call<0->((w.deliver 0).seat j).call=(w.seat j).call)/\(0<=(w.seat j).call->((w.seat j).k.hear p.2).1.over=false->((w.deliver 0).seat j).call=(w.seat j).call)/\(0<=(w.seat j).call->((w.seat j).k.hear p.2).1.over=true->∀ e,w.events[(w.seat j).call.toNat]?=some e->(w.deliver 0).events[(w.seat j).call.toNat]?=some (e.noted ((w.seat j).k.hear p.2).1 (w.step+1)))/\∀ i,i≠j->(w.deliver 0).seat i=w.seat i:=by
 have hd:w.deliver 0=((({ w with net:=rest,step:=w.step+1 }:Wd).setK j ((w.seat j).k.hear p.2).1).send (-1) ((w.seat j).k.hear p.2).2).note j:=by
  unfold Wd.deliver
  rw[hn]
  show (({ w with net:=rest,step:=w.step+1 }:Wd).told p.1 p.2)=_
  unfold Wd.told
  rw[if_neg (by omega),if_pos (by unfold Wd.has;exact decide_eq_true ⟨by omega,by show p.1<(w.n:Int);omega⟩),hp]
  rfl
 obtain⟨y,hy⟩:∃ y,((({ w with net:=rest,step:=w.step+1 }:Wd).setK j ((w.seat j).k.hear p.2).1).send (-1) ((w.seat j).k.hear p.2).2)=y:=⟨_,rfl⟩
 rw[hy] at hd
 have y1:y.seat=(({ w with net:=rest,step:=w.step+1 }:Wd).setK j ((w.seat j).k.hear p.2).1).seat:=by rw[<- hy];exact(zdf _ _ _).1
 have y2:y.events=w.events:=by rw[<- hy];exact(zc4 _ _ _).ev
 have y3:y.step=w.step+1:=by rw[<- hy];exact zeo _ _ _
 have y4:y.seat j = { w.seat j with k:=((w.seat j).k.hear p.2).1 }:=by rw[y1,setK_seat,if_pos rfl]
 have y5:∀ i,i≠j->y.seat i=w.seat i:=fun i hi=>by rw[y1,setK_seat,if_neg hi]
 rw[hd]
 refine⟨by rw[(zdg y j).1,y4],fun q=>?_,fun q o=>?_,fun q o e he=>?_,fun i hi=>?_⟩
 ·unfold Wd.note
  rw[if_pos (by rw[y4];exact q),y4]
 ·unfold Wd.note
  rw[if_neg (by rw[y4];show ¬ (w.seat j).call<0;omega)]
  show (zy9 y.seat j _ j).call=_
  rw[zaa,y4]
  show (if ((w.seat j).k.hear p.2).1.over=true then _ else _)=_
  rw[if_neg (by rw[o];decide)]
 ·unfold Wd.note
  rw[if_neg (by rw[y4];show ¬ (w.seat j).call<0;omega)]
  show (y.events.modify (y.seat j).call.toNat fun e=>e.noted (y.seat j).k y.step)[_]?=_
  rw[y4,y2,y3,zf8,if_pos rfl,he]
  rfl
 ·unfold Wd.note
  split
  ·exact y5 i hi
  ·show zy9 y.seat j _ i=_
   rw[zag _ _ hi,y5 i hi]
theorem Rq.deliver{s0:Sv}{a:Int}{k:Nat}{t0 ob:Int}{N:Nat}{w:Wd}{H:List Hc}{L:List M}{b C:Nat}{cb:Int}(h:Cm w H L b C cb)(t:Qi s0 a w)(hk:k<w.n)(hv:0<=s0.vv a.toNat)(r:Rq s0 a k t0 ob N w){p:Int×M}{rest:List (Int×M)}(hn:w.net=p :: rest):Rq s0 a k t0 ob N (w.deliver 0):=by
 obtain⟨B,hi,_⟩:=h.inv
 have hst:=Stay.deliver hi 0
 have keep:(w.deliver 0).seat k=w.seat k\/(((w.deliver 0).seat k).k=(w.seat k).k/\((w.deliver 0).seat k).call=(w.seat k).call)->Rq s0 a k t0 ob N (w.deliver 0):=fun e=>by
  have e':((w.deliver 0).seat k).k=(w.seat k).k/\((w.deliver 0).seat k).call=(w.seat k).call:=by
   rcases e with e|e
   ·rw[e];exact⟨rfl,rfl⟩
   ·exact e
  rcases r with ⟨r1,r2⟩|⟨r1,x,r2,r3,r4⟩
  ·exact .inl ⟨by rw[e'.1];exact r1,by rw[e'.2];exact r2⟩
  ·exact .inr ⟨by rw[e'.1];exact r1,x,hst N x r2 (by omega),r3,r4⟩
 by_cases h1:p.1 = -1
 ·have hs:=(zrj hn h1).st k
  obtain⟨s,hs',_⟩:=h.up
  obtain⟨_,_,a3,_⟩:=zfi h (m:=p.2) (by rw[hn,<- h1]) hs'
  exact keep (.inl (by rw[a3]))
 ·cases h2:w.has p.1 with
  | false=>
   rw[zg8 (t:=p.1) (m:=p.2) hn h1 h2] at keep ⊢
   exact keep (.inl rfl)
  | true=>
   have h3:0<=p.1/\p.1<(w.n:Int):=of_decide_eq_true h2
   obtain⟨j,hj⟩:∃ j:Nat,p.1=(j:Int):=⟨p.1.toNat,by omega⟩
   obtain⟨n1,n2,n3,n4,n5⟩:=znm hn (j:=j) (by omega) hj
   by_cases ej:k=j
   ·subst ej
    obtain⟨ha,hsj⟩:=t.ans hn hj
    rcases r with ⟨r1,r2⟩|⟨r1,x,r2,r3,r4⟩
    ·rcases r1.hear ha (fun _=>hsj) hv with q|⟨q1,q2,q3,q4⟩
     ·refine .inl ⟨by rw[n1];exact q,?_⟩
      rw[n3 (by omega) (by have:=q.op;unfold K.zy2 at this;simp only[Bool.and_eq_true,Bool.not_eq_true'] at this;exact this.2)]
      exact r2
     ·right
      obtain⟨e,g,g1,_⟩:=(hi.st k hk).opn (by omega)
      have hN:(w.seat k).call.toNat=N:=by omega
      have:=n4 (by omega) q2 e g1
      rw[hN] at this
      refine⟨by rw[n1];exact q1,_,this,?_,q3,q4⟩
      show 0<(if ((w.seat k).k.hear p.2).1.over=true then w.step+1 else e.ended)
      rw[if_pos q2]
      have:=h.wb.s0
      omega
    ·exact .inr ⟨by rw[n1];exact r1.hear ha (fun _=>hsj),x,hst N x r2 (by omega),r3,r4⟩
   ·exact keep (.inl (n5 k ej))
theorem znn{w:Wd}{C:Nat}{j:Nat}(hkb:KB (w.seat j).k C)(hC:C<=100000000)(hid:0<=(w.seat j).k.id/\(w.seat j).k.id<=1099511627776)(hkp:Kp (w.seat j).k)(hlen:w.net.length<=198) :
  (w.ask j).net=w.net++((w.seat j).k.againL (w.seat j).clock).map (fun x=>((-1:Int),x))/\(w.ask j).sv=w.sv/\(w.ask j).clock=w.clock/\(w.ask j).n=w.n/\∀ i,(w.ask j).seat i=if i=j then { w.seat j with k:=(w.seat j).k.again (w.seat j).clock } else w.seat i:=by
 have hall:=zle hkb hC hid ⟨hkp.e,hkp.s⟩ (w.seat j).clock
 have hl:((w.seat j).k.againL (w.seat j).clock).length<=2:=by
  unfold K.againL
  rw[List.length_append]
  split<;>split<;>simp
 have e:w.ask j = { (w.setK j ((w.seat j).k.again (w.seat j).clock)) with net:=w.net++((w.seat j).k.againL (w.seat j).clock).map fun x=>((-1:Int),x) }:=by
  show ((w.setK j ((w.seat j).k.again (w.seat j).clock)).send (-1) ((w.seat j).k.againL (w.seat j).clock))=_
  have hn':(w.setK j ((w.seat j).k.again (w.seat j).clock)).net=w.net:=rfl
  rw[zem (-1) _ hall (by rw[hn'];omega),hn']
 rw[e]
 exact⟨rfl,rfl,rfl,rfl,fun i=>rfl⟩
structure Bq(s0:Sv)(a:Int)(k:Nat)(t0 ob:Int)(N:Nat)(w0 w:Wd):Prop where
 qi:Qi s0 a w
 mo:Mo s0 w0 w
 rq:Rq s0 a k t0 ob N w
 rp:RdP w k
 sh:∀ j,j<w.n->j≠k->Shut w j
 ck:Clk w0 w
theorem Bq.deliver{s0:Sv}{a:Int}{k:Nat}{t0 ob:Int}{N:Nat}{w0 w:Wd}{H:List Hc}{L:List M}{b C:Nat}{cb:Int}(h:Cm w H L b C cb)(t:Bq s0 a k t0 ob N w0 w)(hk:k<w.n)(hv:0<=s0.vv a.toNat){p:Int×M}{rest:List (Int×M)}(hn:w.net=p :: rest):Bq s0 a k t0 ob N w0 (w.deliver 0):=by
 refine⟨t.qi.deliver h hn,t.mo.deliver h t.qi hn,t.rq.deliver h t.qi hk hv hn,t.rp.deliver h hk hn,?_,t.ck.trans (zh8 w 0)⟩
 refine h.cases hn (P:=fun w'=>∀ j,j<w'.n->j≠k->Shut w' j) (fun s' hs' hp w' e1 e2 e3 e4 e5 j hj hjk=>?_) (fun i hi hp w' e1 e2 e3 e4 e5 j hj hjk=>?_) (fun hp hq' w' e1 e2 e3 e4 e5 j hj hjk=>?_)
 ·unfold Shut;rw[e3];exact t.sh j (by omega) hjk
 ·unfold Shut
  rw[e3]
  split
  ·rename_i ei;subst ei;exact zha (t.sh j hi hjk)
  ·exact t.sh j (by omega) hjk
 ·unfold Shut;rw[e3];exact t.sh j (by omega) hjk
theorem Qi.mu{s0:Sv}{a:Int}{w:Wd}(t:Qi s0 a w):w.mu=wnet w.net:=by
 obtain⟨s,hs,hq⟩:=t.sv
 unfold Wd.mu
 rw[hs]
 show wnet w.net+2*total s.zzf=_
 rw[zga hq.wt]
 rfl
theorem Bq.again{s0:Sv}{a:Int}{k:Nat}{t0 ob:Int}{N:Nat}{w0 w:Wd}{H:List Hc}{L:List M}{b C:Nat}{cb:Int}(h:Cm w H L b C cb)(hC:C+2<=100000000)(t:Bq s0 a k t0 ob N w0 w)(hk:k<w.n)(hmu:w.mu<=60){j:Nat}(hj:j<w.n) :
  Bq s0 a k t0 ob N w0 (w.again j)/\∃ L',Cm (w.again j) H L' b (C+2) cb:=by
 have hkp:=t.qi.kp j hj
 have hmu1:=t.qi.mu
 have hnl:=zfh w.net
 obtain⟨e1,e2,e3,e4,e5⟩:=znn (w:={ w with step:=w.step+1 }) (j:=j) (h.wb.st j hj).k h.cC ⟨(h.id hj).1,(h.id hj).2.1⟩ hkp (by show w.net.length<=198;omega)
 have e1:(w.again j).net=w.net++((w.seat j).k.againL (w.seat j).clock).map (fun x=>((-1:Int),x)):=e1
 have e2:(w.again j).sv=w.sv:=e2
 have e4:(w.again j).n=w.n:=e4
 have e5:∀ i,(w.again j).seat i=if i=j then { w.seat j with k:=(w.seat j).k.again (w.seat j).clock } else w.seat i:=e5
 have hfr:=(h.fr.st j hj).ask
 have hseat:∀ i,((w.again j).seat i).k.ep=(w.seat i).k.ep/\((w.again j).seat i).k.ses=(w.seat i).k.ses/\((w.again j).seat i).k.til=(w.seat i).k.til/\((w.again j).seat i).k.id=(w.seat i).k.id/\((w.again j).seat i).k.num=(w.seat i).k.num/\((w.again j).seat i).k.cob=(w.seat i).k.cob/\((w.again j).seat i).k.kind=(w.seat i).k.kind/\((w.again j).seat i).k.zy2=(w.seat i).k.zy2/\((w.again j).seat i).k.seen=(w.seat i).k.seen/\((w.again j).seat i).call=(w.seat i).call:=fun i=>by
  rw[e5]
  split
  ·rename_i ei;subst ei
   show ((w.seat i).k.again _).ep=_/\((w.seat i).k.again _).ses=_/\((w.seat i).k.again _).til=_/\((w.seat i).k.again _).id=_/\((w.seat i).k.again _).num=_/\((w.seat i).k.again _).cob=_/\((w.seat i).k.again _).kind=_/\((w.seat i).k.again _).zy2=_/\((w.seat i).k.again _).seen=_/\_
   unfold K.again
   split<;>exact⟨rfl,rfl,rfl,rfl,rfl,rfl,rfl,rfl,rfl,rfl⟩
  ·exact⟨rfl,rfl,rfl,rfl,rfl,rfl,rfl,rfl,rfl,rfl⟩
 have hqst:∀ x∈(w.seat j).k.againL (w.seat j).clock,Qst a x:=fun x hx=>by
  unfold K.againL at hx
  rcases List.mem_append.1 hx with q|q
  ·split at q
   ·rw[List.mem_singleton.1 q];exact .inl rfl
   ·cases q
  ·split at q
   ·rename_i ho
    have ej:j=k:=Classical.byContradiction fun c=>by
     have:=t.sh j hj c
     unfold Shut at this
     rw[this] at ho
     cases ho
    subst ej
    rcases t.rq with ⟨r,_⟩|⟨r,_⟩
    ·rw[List.mem_singleton.1 q]
     unfold K.request
     rw[if_neg (by rw[r.kd];decide)]
     exact .inr ⟨rfl,r.co⟩
    ·rw[r.op] at ho;cases ho
   ·cases q
 have hck:Clk w (w.again j):=zj2 ({ w with step:=w.step+1 }) j |> fun q=>⟨q.t,q.n,q.k⟩
 have hev:(w.again j).events=w.events:=(zfj ({ w with step:=w.step+1 }:Wd) j).ev
 refine⟨⟨⟨by rw[e2];exact t.qi.sv,fun p hp=>?_,fun i hi=>?_⟩,⟨e4.trans t.mo.1,fun i hi q=>?_⟩,?_,?_,fun i hi hik=>?_,t.ck.trans hck⟩,?_⟩
 ·rw[e1] at hp
  rcases List.mem_append.1 hp with q|q
  ·exact t.qi.net p q
  ·obtain⟨x,hx,rfl⟩:=List.mem_map.1 q
   exact .inl ⟨rfl,hqst x hx⟩
 ·rw[e5]
  split
  ·exact hkp.again hfr
  ·exact t.qi.kp i (by omega)
 ·unfold Kn
  rw[(hseat i).1,(hseat i).2.1,(hseat i).2.2.1]
  exact t.mo.2 i hi q
 ·rcases t.rq with ⟨r1,r2⟩|⟨r1,x,r2⟩
  ·refine .inl ⟨?_,by rw[(hseat k).2.2.2.2.2.2.2.2.2];exact r2⟩
   rw[e5]
   split
   ·rename_i ei;subst ei;exact r1.again _
   ·exact r1
  ·refine .inr ⟨?_,x,by rw[hev];exact r2⟩
   rw[e5]
   split
   ·rename_i ei;subst ei;exact r1.again _
   ·exact r1
 ·intro ho hk1
  obtain⟨_,_,_,h4,h5,h6,h7,h8,h9,_⟩:=hseat k
  rw[h8] at ho
  rw[h7] at hk1
  rw[h4,h5,h6,h9,e1]
  rcases t.rp ho hk1 with ⟨x,hx,q⟩|⟨x,hx,q⟩
  ·exact .inl ⟨x,List.mem_append_left _ hx,q⟩
  ·exact .inr ⟨x,List.mem_append_left _ hx,q⟩
 ·unfold Shut
  rw[(hseat i).2.2.2.2.2.2.2.1]
  exact t.sh i (by omega) hik
 ·obtain⟨L',hs⟩:=h.safe.again hj
  obtain⟨s,hsv,hq⟩:=t.qi.sv
  refine⟨L',hs,h.hb,h.ex.again hj,h.up.again j,h.wb.again hj,hC,?_⟩
  have hw:=zdq (w.seat j).k (w.seat j).clock
  have em:(w.again j).mu=wnet (w.again j).net+2*total s.zzf:=by unfold Wd.mu;rw[e2,hsv]
  have et:=zga hq.wt
  have en:wnet (w.again j).net=wnet w.net+wts ((w.seat j).k.againL (w.seat j).clock):=by
   rw[e1,zml]
   congr 1
   unfold wnet
   rw[List.map_map]
   exact congrArg wts (List.map_id _)
  omega
theorem Bq.turn{s0:Sv}{a:Int}{k:Nat}{t0 ob:Int}{N:Nat}{w0 w:Wd}{H:List Hc}{L:List M}{b C:Nat}{cb:Int}(h:Cm w H L b C cb)(hC:C+300<=100000000)(t:Bq s0 a k t0 ob N w0 w)(hk:k<w.n)(hv:0<=s0.vv a.toNat)(hmu:w.mu<=60){j:Nat}(hj:j<w.n) :
  Bq s0 a k t0 ob N w0 (w.again j).zy5/\(∃ L' C',C'<=C+300/\Cm (w.again j).zy5 H L' b C' cb)/\(w.again j).zy5.net = []:=by
 obtain⟨b1,L1,h1⟩:=t.again h (by omega) hk hmu hj
 have hm:=h1.mu
 have hn:(w.again j).n=w.n:=zo2 w j
 obtain⟨L',C',a1,a2,⟨a3,_⟩,a4⟩:=zbx (P:=fun w'=>Bq s0 a k t0 ob N w0 w'/\w'.n=w.n) (fun w' L2 C2 p rest hc' ht hnn=>⟨ht.1.deliver hc' (by rw[ht.2];exact hk) hv hnn,by rw[zkx];exact ht.2⟩) (w.again j).mu (w.again j) L1 (C+2) h1 (by omega) ⟨b1,hn⟩ (Nat.le_refl _)
 exact⟨a3,⟨L',C',by omega,a2⟩,a4⟩
theorem zyu{C D j n:Nat}(h1:D<=C+300*j)(h2:j+1<=n)(h3:n<=4)(h4:C+1200<=100000000):D+300<=100000000:=by omega
theorem zyv{C D F j:Nat}(h1:D<=C+300*j)(h2:F<=D+300):F<=C+300*(j+1):=by
 have e:300*(j+1)=300*j+300:=Nat.mul_succ 300 j
 rw[e]
 omega
theorem Bq.calmK{s0:Sv}{a:Int}{k:Nat}{t0 ob:Int}{N:Nat}{w0 w:Wd}{H:List Hc}{L:List M}{b C:Nat}{cb:Int}(h:Cm w H L b C cb)(hC:C+1200<=100000000)(t:Bq s0 a k t0 ob N w0 w)(hk:k<w.n)(hv:0<=s0.vv a.toNat)(hmu:w.mu<=60)(h4:w.n<=4) :
  ∀ j,j<=w.n->Bq s0 a k t0 ob N w0 (w.calmK j)/\(∃ L' C',C'<=C+300*j/\Cm (w.calmK j) H L' b C' cb)/\(w.calmK j).mu<=60/\(0<j->(w.calmK j).net = []):=by
 intro j
 induction j with
 | zero=>exact fun _=>⟨t,⟨L,C,by omega,h⟩,hmu,fun q=>absurd q (by omega)⟩
 | succ j ih=>
  intro hj
  obtain⟨t1,⟨L1,C1,c1,h1⟩,m1,_⟩:=ih (by omega)
  have hn:(w.calmK j).n=w.n:=calmK_n w j
  have hC1:C1+300<=100000000:=zyu c1 hj h4 hC
  obtain⟨t2,⟨L2,C2,c2,h2⟩,n2⟩:=t1.turn h1 hC1 (by omega) hv m1 (j:=j) (by omega)
  have hC2:C2<=C+300*(j+1):=zyv c1 c2
  have hm2:((w.calmK j).again j).zy5.mu<=60:=by
   rw[t2.qi.mu,n2]
   exact Nat.zero_le _
  exact⟨t2,⟨L2,C2,hC2,h2⟩,hm2,fun _=>n2⟩
theorem Bq.calm1{s0:Sv}{a:Int}{k:Nat}{t0 ob:Int}{N:Nat}{w0 w:Wd}{H:List Hc}{L:List M}{b C:Nat}{cb:Int}(h:Cm w H L b C cb)(hC:C+1500<=100000000)(hcb:cb+1<549755813888)(t:Bq s0 a k t0 ob N w0 w)(hk:k<w.n)(hv:0<=s0.vv a.toNat)(hmu:w.mu<=60) :
  Kb s0 a k t0 ob (w.calm1.seat k).k/\(∃ e,w.calm1.events[N]?=some e/\0<e.ended/\e.d=s0.vd a.toNat/\e.ver=s0.vv a.toNat)/\(w.calm1.seat k).clock=(w0.seat k).clock+1/\(Kn s0 w0 k->(w0.seat k).k.til<=(w.calm1.seat k).k.til)/\w.calm1.net = []/\∃ L' C',C'<=C+1500/\Cm w.calm1 H L' b C' (cb+1):=by
 obtain⟨B,hi,_⟩:=h.inv
 obtain⟨t1,⟨L1,C1,c1,h1⟩,m1,n1⟩:=t.calmK h (by omega) hk hv hmu hi.n4 w.n (Nat.le_refl _)
 have hn:(w.calmK w.n).n=w.n:=calmK_n w w.n
 have hnet:=n1 (by omega)
 have hn4:=hi.n4
 have hC1:C1<=C+1200:=by omega
 obtain⟨s,hs,hq⟩:=t1.qi.sv
 have hr:s.tickN (stop ((w.calmK w.n).clock+1)) 8=(s,[]):=zgb hq.wt _ 8 (Nat.le_refl _)
 obtain⟨e1,e2,e3,e4,e5⟩:=zdv h1 hnet hs (fun k=>if k<(w.calmK w.n).n then 1 else 0) hr
 have e1:((w.calmK w.n).goes 1 fun k=>if k<(w.calmK w.n).n then 1 else 0).net = []:=e1
 obtain⟨L2,h2⟩:=h1.goes (by omega) hnet hcb
 have e:w.calm1=(w.calmK w.n).goes 1 fun k=>if k<(w.calmK w.n).n then 1 else 0:=by
  unfold Wd.calm1
  rw[h.up.restart]
  rw[show (fun k=>if k<w.n then (1:Int) else 0)=(fun k=>if k<(w.calmK w.n).n then (1:Int) else 0) by rw[hn]]
  exact zey _ (by rw[e1];rfl) _
 rw[e]
 have hev:=(zd7 (w.calmK w.n) 1 (fun k=>if k<(w.calmK w.n).n then 1 else 0)).ev
 have hb:Kb s0 a k t0 ob ((w.calmK w.n).seat k).k/\∃ e,(w.calmK w.n).events[N]?=some e/\0<e.ended/\e.d=s0.vd a.toNat/\e.ver=s0.vv a.toNat:=by
  rcases t1.rq with ⟨r,_⟩|r
  ·exfalso
   rcases t1.rp r.op r.kd with ⟨x,hx,_⟩|⟨x,hx,_⟩<;>rw[hnet] at hx<;>cases hx
  ·exact r
 refine⟨by rw[e5];exact hb.1,by rw[hev];exact hb.2,?_,fun q=>?_,e1,L2,C1+1,by omega,h2⟩
 ·have q:(((w.calmK w.n).goes 1 fun k=>if k<(w.calmK w.n).n then 1 else 0).seat k).clock=(((w.calmK w.n).gone 1 fun k=>if k<(w.calmK w.n).n then 1 else 0).seat k).clock:=(zjp ((w.calmK w.n).gone 1 fun k=>if k<(w.calmK w.n).n then 1 else 0)).k k
  rw[q]
  show stop (((w.calmK w.n).seat k).clock+(if k<(w.calmK w.n).n then 1 else 0))=_
  rw[if_pos (by omega),t1.ck.k]
  have hc2:=h1.safe.ck.2 k (by omega)
  rw[t1.ck.k] at hc2
  unfold stop
  split<;>omega
 ·rw[e5]
  have hn0:w0.n=w.n:=by have:=t.mo.1;omega
  exact(t1.mo.2 k (by omega) q).2
def Wd.evB(w:Wd)(k:Nat)(c:K):Ev:=(⟨k,0,0,⟨#[]⟩,0,false,false,w.step+1,0,(w.seat k).life⟩:Ev).noted c (w.step+1)
theorem zog(l:List Ev)(x:Ev)(f:Ev->Ev):(l++[x]).modify l.length f=l++[f x]:=by
 induction l with
 | nil=>rfl
 | cons y l ih=>
  show (y :: (l++[x])).modify (l.length+1) f=y :: (l++[f x])
  rw[List.modify_succ_cons,ih]
theorem zck(w:Wd)(k:Nat)(c:K):((w.opens k c).note k).net=w.net/\((w.opens k c).note k).sv=w.sv/\((w.opens k c).note k).clock=w.clock/\((w.opens k c).note k).n=w.n/\((w.opens k c).note k).seat k=⟨c,(w.seat k).clock,(w.seat k).life,if c.over=true then -1 else (w.events.length:Int)⟩/\(∀ j,j≠k->((w.opens k c).note k).seat j=w.seat j)/\((w.opens k c).note k).events=w.events++[w.evB k c]:=by
 have hk:(w.opens k c).seat k = { w.seat k with k:=c,call:=(w.events.length:Int) }:=by
  show zy9 w.seat k _ k=_
  rw[zaa]
 have e:(w.opens k c).note k = { w.opens k c with events:=(w.opens k c).events.modify ((w.opens k c).seat k).call.toNat fun e=>e.noted ((w.opens k c).seat k).k (w.opens k c).step,seat:=zy9 (w.opens k c).seat k { (w.opens k c).seat k with call:=if ((w.opens k c).seat k).k.over=true then -1 else ((w.opens k c).seat k).call } }:=by
  unfold Wd.note
  rw[if_neg (by rw[hk];show ¬ ((w.events.length:Nat):Int)<0;omega)]
 rw[e]
 refine⟨rfl,rfl,rfl,rfl,?_,fun j hj=>?_,?_⟩
 ·show zy9 (w.opens k c).seat k _ k=_
  rw[zaa,hk]
 ·show zy9 (w.opens k c).seat k _ j=_
  rw[zag _ _ hj]
  show zy9 w.seat k _ j=_
  rw[zag _ _ hj]
 ·show (w.opens k c).events.modify _ _=_
  rw[hk]
  show (w.events++[_]).modify ((w.events.length:Nat):Int).toNat _=_
  rw[show ((w.events.length:Nat):Int).toNat=w.events.length by omega,zog]
  rfl
theorem zgc(w:Wd)(k:Nat)(c:K)(h:c.over=true):w.begin k c=(w.opens k c).note k:=by
 obtain⟨_,_,_,_,h5,_⟩:=zck w k c
 unfold Wd.begin Wd.asked
 rw[if_pos (by rw[h5,if_pos h];show (-1:Int)<0;omega)]
theorem zlj(w:Wd)(k:Nat)(c:K)(h:c.over=false):w.begin k c=((w.opens k c).note k).ask k:=by
 obtain⟨_,_,_,_,h5,_⟩:=zck w k c
 unfold Wd.begin Wd.asked
 rw[if_neg (by rw[h5,if_neg (by rw[h];decide)];show ¬ ((w.events.length:Nat):Int)<0;omega)]
theorem zno(w:Wd)(k:Nat)(c:K):(w.begin k c).events=w.events++[w.evB k c]:=by
 obtain⟨_,_,_,_,_,_,h7⟩:=zck w k c
 cases h:c.over with
 | true=>rw[zgc w k c h];exact h7
 | false=>rw[zlj w k c h,(zfj _ k).ev];exact h7
structure Rr2(w4:Wd)(k:Nat)(a:Int)(N:Nat):Prop where
 sh:Shut w4 k
 len:w4.events.length=N+1
 x:∃ x,w4.events[N]?=some x/\(x.hit=true\/(0<x.ended/\∃ e,((w4.seat k).k.begin 1 a ⟨#[]⟩ 0 false false (w4.seat k).clock).has a (w4.seat k).clock=some e/\e.d=x.d/\e.v=x.ver))
theorem zui(k:K)(a now:Int):(k.begin 1 a ⟨#[]⟩ 0 false false now).has a now=k.has a now:=rfl
theorem zrk{s0:Sv}{w:Wd}{H:List Hc}{b:Nat}{cb:Int}{C:Nat}(h:Qu s0 w H b cb C)(hH:H.length+b+1<=110)(hC:C+3000<=100000000)(hcb:cb+1<549755813888){k:Nat}(hk:k<w.n){a:Int}(ha0:0<=a)(ha8:a<8)(hkn:Kn s0 w k)(htl:(w.seat k).clock+2<=(w.seat k).k.til)(hob:2<=(w.seat k).k.obj) :
  Rr2 (w.read k a).calm1 k a w.events.length/\(w.read k a).calm1.n=w.n/\∃ g L',Safe True (w.read k a).calm1 (H++[g]) L' b (cb+1):=by
 obtain⟨L,hs2⟩:=h.fm.wk.s2
 obtain⟨B,hi,hB⟩:=hs2.inv.inv
 obtain⟨g,L1,hg,s3⟩:=hs2.read hk ha0 ha8 (h.sh k hk)
 obtain⟨B3,i3,_⟩:=s3.inv.inv
 have hlen3:(H++[g]).length=H.length+1:=by simp
 obtain⟨s,hsv,hq⟩:=h.sv
 have hsb:=h.fm.wk.wb.st k hk
 have hkb:=KB.reads hsb.k (o:=a) (now:=(w.seat k).clock) ha0 (by omega) hsb.c0 hsb.c1
 have hwb:WdB (w.read k a) (C+3):=h.fm.wk.wb.begin hk hkb
 have hn3:(w.read k a).n=w.n:=(zk7 w k ((w.seat k).k.reads a (w.seat k).clock)).n
 have hvv:s.vv=(logL w.rs).vv:=by rw[<- (hi.sv s hsv).2];exact congrArg L4.vv (hi.sv s hsv).1.l4
 have hv0:0<=s0.vv a.toNat:=by rw[<- hq.vv];exact(h.fm.wk.wb.sv s hsv).1.vv0 _
 have hse:(w.seat k).k.seen a<=s0.vv a.toNat:=by rw[<- hq.vv,hvv];exact h.fm.wk.xt.ex.seen k hk a
 cases hh:((w.seat k).k.begin 1 a ⟨#[]⟩ 0 false false (w.seat k).clock).has a (w.seat k).clock with
 | some x=>
  have hc:(w.seat k).k.reads a (w.seat k).clock=({ ((w.seat k).k.begin 1 a ⟨#[]⟩ 0 false false (w.seat k).clock).looked a with hit:=true }:K).overWith x.d x.v:=by
   unfold K.reads
   rw[hh]
  obtain⟨o1,o2,o3,o4,o5,o6,o7⟩:=zck w k ((w.seat k).k.reads a (w.seat k).clock)
  have hov:((w.seat k).k.reads a (w.seat k).clock).over=true:=by rw[hc];rfl
  have e:w.read k a=(w.opens k ((w.seat k).k.reads a (w.seat k).clock)).note k:=zgc _ _ _ hov
  have hshut:Shut (w.read k a) k:=by
   unfold Shut
   rw[e,o5]
   show K.zy2 _=false
   rw[hc]
   simp[K.zy2,K.overWith]
  have hup:Up (w.read k a):=h.fm.wk.up.sv (by rw[e];exact o2)
  have hcl3:(w.read k a).clock=w.clock:=by rw[e];exact o3
  have hsv3:(w.read k a).sv=w.sv:=by rw[e];exact o2
  have q3:Qu s0 (w.read k a) (H++[g]) b cb (C+3):=
   ⟨⟨⟨⟨L1,s3⟩,hup,hwb⟩,by rw[e,o1];exact h.fm.net,fun s' hs'=>by rw[hcl3];exact h.fm.ho s' (hsv3▸hs')⟩,
    fun c hc' s' hs'=>by rw[hcl3];exact h.cl c (by omega) s' (hsv3▸hs'),fun s' hs'=>by rw[hcl3];exact h.rd s' (hsv3▸hs'),
    fun c hc'=>by
     by_cases ec:c=k
     ·rw[ec];exact hshut
     ·unfold Shut;rw[e,o6 c ec];exact h.sh c (by omega),by rw[hsv3];exact h.sv⟩
  obtain⟨q4,n4,_⟩:=q3.calm1 (by omega) (by omega) hcb
  obtain⟨L4,s4⟩:=q4.fm.wk.s2
  obtain⟨B4,i4,_⟩:=s4.inv.inv
  have hst:Stay (w.read k a) (w.read k a).calm1:=by
   have r1:(w.read k a).restart=w.read k a:=hup.restart
   have st:∀ j,j<=(w.read k a).n->Stay (w.read k a) ((w.read k a).calmK j):=fun j=>by
    induction j with
    | zero=>exact fun _=>.refl _
    | succ j ih=>
     intro hj
     obtain⟨L5,s5⟩:=s3.calmK (by omega) j (by omega)
     obtain⟨L6,s6⟩:=s5.again (k:=j) (by rw[calmK_n];omega)
     exact((ih (by omega)).trans (Stay.same (zfj ({ (w.read k a).calmK j with step:=((w.read k a).calmK j).step+1 }:Wd) j).ev)).trans (Stay.drain (by omega) _ s6.toSafe)
   obtain⟨L5,s5⟩:=s3.calmK (by omega) (w.read k a).n (Nat.le_refl _)
   have hn5:((w.read k a).calmK (w.read k a).n).n=(w.read k a).n:=calmK_n _ _
   obtain⟨L6,s6⟩:=s5.goes (a:=1) (f:=fun k'=>if k'<(w.read k a).n then 1 else 0) (g:=1) (by omega) (by omega) (by omega) (fun k _=>by split<;>omega) hcb (fun q k' hk'=>by
    rw[if_pos (by omega)]
    have:=(s5.fr q).d0
    omega)
   unfold Wd.calm1
   rw[r1]
   exact((st _ (Nat.le_refl _)).trans (Stay.same (zd7 _ _ _).ev)).trans (Stay.drain (by omega) _ s6.toSafe)
  have hx:(w.read k a).events[w.events.length]?=some (w.evB k ((w.seat k).k.reads a (w.seat k).clock)):=by
   rw[e,o7]
   simp
  have hxe:(w.evB k ((w.seat k).k.reads a (w.seat k).clock)).ended≠0:=by
   show (if ((w.seat k).k.reads a (w.seat k).clock).over=true then w.step+1 else 0)≠0
   rw[if_pos hov]
   have:=h.fm.wk.wb.s0
   omega
  refine⟨⟨q4.sh k (by omega),by rw[<- i4.len,hlen3,hi.len],_,hst _ _ hx hxe,.inl ?_⟩,n4.trans hn3,g,L4,s4.toSafe⟩
  show ((w.seat k).k.reads a (w.seat k).clock).hit=true
  rw[hc]
  rfl
 | none=>
  obtain⟨c,hcd⟩:∃ c,(w.seat k).k.reads a (w.seat k).clock=c:=⟨_,rfl⟩
  have hc:c=((w.seat k).k.begin 1 a ⟨#[]⟩ 0 false false (w.seat k).clock).looked a:=by
   rw[<- hcd]
   unfold K.reads
   rw[hh]
  obtain⟨l1,l2,l3,l4,l5,l6,l7,l8,l9,l10,l11,l12,l13,l14,l15,l16⟩:=zch ((w.seat k).k.begin 1 a ⟨#[]⟩ 0 false false (w.seat k).clock) a
  rw[<- hc] at l1 l2 l3 l4 l5 l6 l7 l8 l9 l10 l11 l12 l13 l14 l15 l16
  have l1:c.id=(w.seat k).k.id:=l1
  have l3:c.kind=1:=l3
  have l4:c.cob=a:=l4
  have l6:c.seen=(w.seat k).k.seen:=l6
  have l7:c.over=false:=l7
  have l8:c.ep=(w.seat k).k.ep:=l8
  have l9:c.ses=(w.seat k).k.ses:=l9
  have l10:c.til=(w.seat k).k.til:=l10
  have l11:c.sent=(w.seat k).clock:=l11
  have l12:c.obj=(w.seat k).k.obj:=l12
  have l14:c.asked=(w.seat k).k.asked:=l14
  have l16:c.coming=0:=l16
  have hopen:c.zy2=true:=by unfold K.zy2;rw[l3,l7];rfl
  obtain⟨o1,o2,o3,o4,o5,o6,o7⟩:=zck w k c
  rw[if_neg (by rw[l7];decide)] at o5
  have e:w.read k a=((w.opens k c).note k).ask k:=by
   unfold Wd.read
   rw[hcd]
   exact zlj _ _ _ l7
  obtain⟨y,hy⟩:∃ y,(w.opens k c).note k=y:=⟨_,rfl⟩
  rw[hy] at e o1 o2 o3 o4 o5 o6 o7
  have ysk:(y.seat k).k=c:=by rw[o5]
  have ysc:(y.seat k).clock=(w.seat k).clock:=by rw[o5]
  have hcid:0<=c.id/\c.id<=1099511627776/\zy8 c.id=k:=by
   obtain⟨_,hcm,_⟩:=h.fm.wk.cm (by omega) (by omega) (Nat.lt_of_le_of_lt (h.fm.wk.mu0 h.fm.net) (by omega))
   rw[l1]
   exact hcm.id hk
  have hkpc:Kp c:=by
   have:=(h.fm.wk.xt.kp k hk).reads a (w.seat k).clock
   rwa [hcd] at this
  rw[hcd] at hkb
  obtain⟨r1,r2,r3,r4,r5⟩:=znn (w:=y) (j:=k) (C:=C+2) (by rw[ysk];exact hkb) (by omega) (by rw[ysk];exact⟨hcid.1,hcid.2.1⟩) (by rw[ysk];exact hkpc) (by rw[o1,h.fm.net];simp)
  rw[<- e] at r1 r2 r3 r4 r5
  rw[o1,h.fm.net,ysk,ysc,List.nil_append] at r1
  have hL:∀ x∈c.againL (w.seat k).clock,Qst a x:=fun x hx=>by
   unfold K.againL at hx
   rcases List.mem_append.1 hx with q|q
   ·split at q
    ·rw[List.mem_singleton.1 q];exact .inl rfl
    ·cases q
   ·rw[if_pos hopen] at q
    rw[List.mem_singleton.1 q]
    unfold K.request
    rw[if_neg (by rw[l3];decide)]
    exact .inr ⟨rfl,l4⟩
  have hsk:(w.read k a).seat k=⟨c.again (w.seat k).clock,(w.seat k).clock,(w.seat k).life,(w.events.length:Int)⟩:=by
   rw[r5,if_pos rfl,o5]
  have hsj:∀ j,j≠k->(w.read k a).seat j=w.seat j:=fun j hj=>by rw[r5,if_neg hj,o6 j hj]
  have hag:∀ now,(c.again now).zy2=c.zy2/\(c.again now).kind=c.kind/\(c.again now).id=c.id/\(c.again now).num=c.num/\(c.again now).cob=c.cob/\(c.again now).ep=c.ep/\(c.again now).ses=c.ses/\(c.again now).til=c.til:=fun now=>by
   unfold K.again
   split<;>exact⟨rfl,rfl,rfl,rfl,rfl,rfl,rfl,rfl⟩
  have hka:Ka s0 a k (w.seat k).clock (w.seat k).k.obj (c.again (w.seat k).clock):=
   Ka.again ⟨hopen,l3,l4,l16,l11,by rw[l8];exact hkn.1,by rw[l9];exact hkn.2,by rw[l6];exact hse,l12⟩ _
  have hmu:(w.read k a).mu<=29:=by
   unfold Wd.mu
   rw[r2,o2,hsv,r1]
   show wnet _+2*total s.zzf<=29
   rw[zga hq.wt]
   have:=zdq c (w.seat k).clock
   unfold wnet
   rw[List.map_map]
   have e2:(c.againL (w.seat k).clock).map ((fun x:Int×M=>x.2)∘fun x=>((-1:Int),x))=c.againL (w.seat k).clock:=List.map_id _
   rw[e2]
   omega
  have hup:Up (w.read k a):=h.fm.wk.up.sv (r2.trans o2)
  have hcm:Cm (w.read k a) (H++[g]) L1 b (C+3) cb:=⟨s3.toSafe,by omega,(s3.xt trivial).ex,hup,hwb,by omega,by omega⟩
  have hbq:Bq s0 a k (w.seat k).clock (w.seat k).k.obj w.events.length w (w.read k a):=by
   refine⟨⟨⟨s,(r2.trans o2).trans hsv,hq⟩,fun p hp=>?_,(s3.xt trivial).kp⟩,⟨hn3,fun j hj q=>?_⟩,.inl ⟨by rw[hsk];exact hka,by rw[hsk]⟩,fun ho hk1=>?_,fun j hj hjk=>?_,zk7 w k _⟩
   ·rw[r1] at hp
    obtain⟨x,hx,rfl⟩:=List.mem_map.1 hp
    exact .inl ⟨rfl,hL x hx⟩
   ·by_cases ej:j=k
    ·subst ej
     unfold Kn
     rw[hsk]
     show ((c.again _).ep=_/\(c.again _).ses=_)/\_<=(c.again _).til
     rw[(hag _).2.2.2.2.2.1,(hag _).2.2.2.2.2.2.1,(hag _).2.2.2.2.2.2.2,l8,l9,l10]
     exact⟨q,Int.le_refl _⟩
    ·unfold Kn
     rw[hsj j ej]
     exact⟨q,Int.le_refl _⟩
   ·left
    rw[hsk,r1]
    show ∃ m:M,_/\m.k=1/\m.c=(c.again _).id/\m.n=(c.again _).num/\m.o=(c.again _).cob
    rw[(hag _).2.2.1,(hag _).2.2.2.1,(hag _).2.2.2.2.1]
    refine⟨c.request,List.mem_map.2 ⟨_,?_,rfl⟩,?_⟩
    ·unfold K.againL
     rw[if_pos hopen]
     exact List.mem_append_right _ (List.mem_singleton.2 rfl)
    ·unfold K.request
     rw[if_neg (by rw[l3];decide)]
     exact⟨rfl,rfl,rfl,rfl⟩
   ·unfold Shut
    rw[hsj j hjk]
    exact h.sh j (by omega)
  obtain⟨b1,⟨x,b2,b3,b4,b5⟩,b6,b7,b8,L4,C4,c4,h4⟩:=hbq.calm1 hcm (by omega) hcb (by omega) hv0 (by omega)
  obtain⟨B4,i4,_⟩:=h4.inv
  refine⟨⟨b1.op,by rw[<- i4.len,hlen3,hi.len],x,b2,.inr ⟨b3,⟨a,s0.vd a.toNat,s0.vv a.toNat,(w.seat k).clock+(w.seat k).k.obj⟩,?_,b4.symm,b5.symm⟩⟩,?_,g,L4,h4.safe⟩
  ·rw[zui,b6]
   have:=b7 hkn
   have hse4:=b1.se
   unfold K.has
   rw[b1.fd]
   show (if (w.seat k).clock+(w.seat k).k.obj<=(w.seat k).clock+1\/((w.read k a).calm1.seat k).k.til<=(w.seat k).clock+1\/s0.vv a.toNat<((w.read k a).calm1.seat k).k.seen a then none else some _)=some _
   rw[if_neg (by omega)]
  ·rw[calm1_n,hn3]
end Wld
end
end Go.Proofs.YtbebfliimjjohabGreatDoor
