/- Parts of the proof. -/
import Derived.Test.YtbebfliimjjohabGreatDoorLc41
set_option maxRecDepth 100000
set_option maxHeartbeats 8000000
namespace Go.Proofs.YtbebfliimjjohabGreatDoor
section
namespace Wld
open Go.RowKit Go.Maps
open Lease (upd zae zad hol dels mx kk isH I64 objB)
open Wal (R mayB timeB)
open Num (M okB)
structure Tm(s s':Wd):Prop where
 ob:s'.to=s.to
 tv:s'.tv=s.tv
 td:s'.td=s.td
 n:s'.n=s.n
theorem Tm.refl(s:Wd):Tm s s:=⟨rfl,rfl,rfl,rfl⟩
theorem Tm.trans{a b c:Wd}(h:Tm a b)(k:Tm b c):Tm a c:=⟨k.ob.trans h.ob,k.tv.trans h.tv,k.td.trans h.td,k.n.trans h.n⟩
theorem ztv(w:Wd)(t:Int)(m:M):Tm w (w.put t m):=by unfold Wd.put;split<;>exact⟨rfl,rfl,rfl,rfl⟩
theorem zj3(t:Int):∀ (l:List M) (w:Wd),Tm w (w.send t l)
 | [],w=>.refl w
 | m :: l,w=>(ztv w t m).trans (zj3 t l _)
theorem zm5:∀ (l:List M) (w:Wd),Tm w (w.tells l)
 | [],w=>.refl w
 | m :: l,w=>(ztv w _ m).trans (zm5 l _)
theorem ztw(w:Wd):Tm w w.fallen:=by
 unfold Wd.fallen
 split
 ·exact .refl w
 ·split<;>exact⟨rfl,rfl,rfl,rfl⟩
theorem ztx(w:Wd)(s:Sv):Tm w (w.served s):=⟨rfl,rfl,rfl,rfl⟩
theorem zk8(w:Wd)(r:Sv×List M):Tm w (w.answer r):=((ztx w r.1).trans (zm5 r.2 _)).trans (ztw _)
theorem zls(w:Wd)(m:M):Tm w (w.zy6 m):=by
 unfold Wd.zy6
 split
 ·exact .refl w
 ·exact zk8 w _
theorem zo6(w:Wd)(k:Nat):Tm w (w.note k):=by unfold Wd.note;split<;>exact⟨rfl,rfl,rfl,rfl⟩
theorem zo7(w:Wd)(k:Nat)(c:K):Tm w (w.setK k c):=⟨rfl,rfl,rfl,rfl⟩
theorem zlt(w:Wd)(k:Nat)(m:M):Tm w (w.zy7 k m):=((zo7 w k _).trans (zj3 _ _ _)).trans (zo6 _ k)
theorem zjl(w:Wd)(k:Nat):Tm w (w.ask k):=(zo7 w k _).trans (zj3 _ _ _)
theorem zjm(w:Wd)(k:Nat):Tm w (w.deliver k):=by
 unfold Wd.deliver
 split
 ·exact .refl w
 ·unfold Wd.told
  refine Tm.trans (b:={ w with net:=w.net.eraseIdx k,step:=w.step+1 }) ⟨rfl,rfl,rfl,rfl⟩ ?_
  split
  ·exact zls _ _
  ·split
   ·exact zlt _ _ _
   ·exact .refl _
theorem zc3(w:Wd)(k:Nat)(c:K):Tm w (w.begin k c):=by
 unfold Wd.begin Wd.asked
 have h:Tm w ((w.opens k c).note k):=Tm.trans (b:=w.opens k c) ⟨rfl,rfl,rfl,rfl⟩ (zo6 _ k)
 split
 ·exact h
 ·exact h.trans (zjl _ k)
theorem zf1(w:Wd):Tm w w.restart:=by unfold Wd.restart;split<;>exact⟨rfl,rfl,rfl,rfl⟩
theorem zj4(w:Wd)(b:Int)(f:Nat->Int):Tm w (w.goes b f):=by
 unfold Wd.goes Wd.ticked
 have h:Tm w (w.gone b f):=⟨rfl,rfl,rfl,rfl⟩
 split
 ·exact h
 ·exact h.trans (zk8 _ _)
theorem zwj(w:Wd)(k:Nat):Tm w (w.twice k):=by
 unfold Wd.twice
 split
 ·exact .refl w
 ·split<;>exact⟨rfl,rfl,rfl,rfl⟩
theorem zb2(w:Wd)(x t:Int):Tm w (w.zy3 x t):=by unfold Wd.zy3;split<;>exact⟨rfl,rfl,rfl,rfl⟩
theorem zit:∀ (f:Nat) (w:Wd),Tm w (w.drain f)
 | 0,w=>.refl w
 | f+1,w=>by
  unfold Wd.drain
  split
  ·exact .refl w
  ·exact(zjm w 0).trans (zit f _)
theorem zm6(w:Wd):∀ k,Tm w (w.calmK k)
 | 0=>.refl w
 | k+1=>((zm6 w k).trans (Tm.trans (b:={ w.calmK k with step:=(w.calmK k).step+1 }) ⟨rfl,rfl,rfl,rfl⟩ (zjl _ k))).trans (zit _ _)
theorem ziu(w:Wd):Tm w w.calm1:=(((zf1 w).trans (zm6 _ _)).trans (zj4 _ _ _)).trans (zit _ _)
theorem zci(w:Wd):∀ r,Tm w (w.calm r)
 | 0=>.refl w
 | r+1=>(zci w r).trans (ziu _)
end Wld
end
section
namespace Wld
open Go.Maps
open Lease (I64 upd zae zad mx)
open Cache (E era putL)
open Wal (R)
open Num (M okB)
structure Ex(w:Wd):Prop where
 seen:∀ k,k<w.n->∀ o:Int,(w.seat k).k.seen o<=(logL w.rs).vv o.toNat
 rdy:∀ s,w.sv=some s->s.ready<=w.clock+w.tv/\s.tv=w.tv
theorem Ex.same{w w':Wd}(h:Ex w)(hn:w'.n=w.n)(hs:∀ k o,(w'.seat k).k.seen o=(w.seat k).k.seen o)(hv:∀ o,(logL w.rs).vv o<=(logL w'.rs).vv o)(hr:∀ s,w'.sv=some s->s.ready<=w'.clock+w'.tv/\s.tv=w'.tv):Ex w':=
 ⟨fun k hk o=>by rw[hs];exact Int.le_trans (h.seen k (by omega) o) (hv _),hr⟩
theorem S1.more{T:Int}{s s':Sv}{L L':List M}(k:S1 T s L s' L'):s'.ready=s.ready/\s'.tv=s.tv/\∀ o,s.vv o<=s'.vv o:=by
 have cm:∀ (m:M) (o:Nat),(s.commit m o).1.ready=s.ready/\(s.commit m o).1.tv=s.tv/\∀ x,s.vv x<=(s.commit m o).1.vv x:=fun m o=>by
  obtain⟨_,_,c3,_,_,_,_,c8⟩:=zar s m o
  refine⟨c3,(zd0 s m o).2,fun x=>?_⟩
  rcases c8 with q|q
  ·rw[q];exact Int.le_refl _
  ·rw[q];unfold zy9;split
   ·rename_i e;subst e;omega
   ·exact Int.le_refl _
 cases k with
 | commit o m rest ho hd hw hr hh ok=>exact cm m o
 | fall o m rest ho hd hw ok=>exact cm m o
 | value o m ho hd hm hk h0 hc=>unfold Sv.lent;split<;>exact⟨rfl,rfl,fun _=>Int.le_refl _⟩
 | _=>exact⟨rfl,rfl,fun _=>Int.le_refl _⟩
theorem Ss.more{T:Int}{s s':Sv}{L L':List M}(k:Ss T s L s' L'):s'.ready=s.ready/\s'.tv=s.tv/\∀ o,s.vv o<=s'.vv o:=by
 induction k with
 | refl=>exact⟨rfl,rfl,fun _=>Int.le_refl _⟩
 | head h _ ih=>
  have q:=h.more
  exact⟨ih.1.trans q.1,ih.2.1.trans q.2.1,fun o=>Int.le_trans (q.2.2 o) (ih.2.2 o)⟩
theorem zm7(w:Wd)(t:Int)(m:M):(w.put t m).seat=w.seat/\(w.put t m).rs=w.rs/\(w.put t m).n=w.n/\(w.put t m).clock=w.clock/\(w.put t m).tv=w.tv/\(w.put t m).sv=w.sv:=by
 unfold Wd.put
 split<;>exact⟨rfl,rfl,rfl,rfl,rfl,rfl⟩
theorem zdf(t:Int):∀ (l:List M) (w:Wd),(w.send t l).seat=w.seat/\(w.send t l).rs=w.rs/\(w.send t l).n=w.n/\(w.send t l).clock=w.clock/\(w.send t l).tv=w.tv/\(w.send t l).sv=w.sv
 | [],_=>⟨rfl,rfl,rfl,rfl,rfl,rfl⟩
 | m :: l,w=>by
  have a:=zm7 w t m
  have b:=zdf t l (w.put t m)
  exact⟨b.1.trans a.1,b.2.1.trans a.2.1,b.2.2.1.trans a.2.2.1,b.2.2.2.1.trans a.2.2.2.1,b.2.2.2.2.1.trans a.2.2.2.2.1,b.2.2.2.2.2.trans a.2.2.2.2.2⟩
theorem zb3:∀ (l:List M) (w:Wd),(w.tells l).seat=w.seat/\(w.tells l).rs=w.rs/\(w.tells l).n=w.n/\(w.tells l).clock=w.clock/\(w.tells l).tv=w.tv/\(w.tells l).sv=w.sv
 | [],_=>⟨rfl,rfl,rfl,rfl,rfl,rfl⟩
 | m :: l,w=>by
  have a:=zm7 w (zy8 m.c:Nat) m
  have b:=zb3 l (w.put (zy8 m.c:Nat) m)
  exact⟨b.1.trans a.1,b.2.1.trans a.2.1,b.2.2.1.trans a.2.2.1,b.2.2.2.1.trans a.2.2.2.1,b.2.2.2.2.1.trans a.2.2.2.2.1,b.2.2.2.2.2.trans a.2.2.2.2.2⟩
theorem ze1(w:Wd):w.fallen.seat=w.seat/\w.fallen.rs=w.rs/\w.fallen.n=w.n/\w.fallen.clock=w.clock/\w.fallen.tv=w.tv/\∀ s,w.fallen.sv=some s->w.sv=some s:=by
 unfold Wd.fallen
 split
 ·exact⟨rfl,rfl,rfl,rfl,rfl,fun s h=>by simp_all⟩
 ·split
  ·exact⟨rfl,rfl,rfl,rfl,rfl,fun s h=>by simp at h⟩
  ·exact⟨rfl,rfl,rfl,rfl,rfl,fun s h=>h⟩
theorem Ex.answer{w:Wd}{H:List Hc}{L:List M}{B:Nat}(x:Ex w)(h:Inv w H L B){s:Sv}(hs:w.sv=some s){r:Sv×List M}{L':List M}(hi:SvInv H r.1)(hr:Ss w.clock s L r.1 L'):Ex (w.answer r):=by
 obtain⟨m1,m2,m3⟩:=hr.more
 obtain⟨q1,q2⟩:=h.sv s hs
 obtain⟨y1,y2⟩:=x.rdy s hs
 have hrs:(w.answer r).rs=r.1.rs/\(w.answer r).seat=w.seat/\(w.answer r).n=w.n/\(w.answer r).clock=w.clock/\(w.answer r).tv=w.tv/\∀ s',(w.answer r).sv=some s'->s'=r.1:=by
  unfold Wd.answer
  have a:=ze1 ((w.served r.1).tells r.2)
  have b:=zb3 r.2 (w.served r.1)
  refine⟨a.2.1.trans b.2.1,a.1.trans b.1,a.2.2.1.trans b.2.2.1,a.2.2.2.1.trans b.2.2.2.1,a.2.2.2.2.1.trans b.2.2.2.2.1,fun s' q=>?_⟩
  have:=a.2.2.2.2.2 s' q
  rw[b.2.2.2.2.2] at this
  exact(Option.some.inj this).symm
 obtain⟨e1,e2,e3,e4,e5,e6⟩:=hrs
 refine x.same e3 (fun k o=>by rw[e2]) (fun o=>?_) (fun s' hs'=>?_)
 ·rw[e1,<- q2,<- congrArg L4.vv q1.l4,<- congrArg L4.vv hi.l4]
  exact m3 o
 ·rw[e6 s' hs',e4,e5,m1,m2]
  exact⟨y1,y2⟩
theorem Ex.zy6{w:Wd}{H:List Hc}{L:List M}{B:Nat}(x:Ex w)(h:Inv w H L B)(hB:H.length+B<200){m:M}(hm:m∈L):Ex (w.zy6 m):=by
 unfold Wd.zy6
 split
 ·exact x
 ·rename_i s hs
  have k:=zdt w.clock s L m hm
  exact x.answer h hs ((Inv.ss hB k rfl h hs).sv _ rfl).1 k
theorem Ex.ticked{w:Wd}{H:List Hc}{L:List M}{B:Nat}(x:Ex w)(h:Inv w H L B)(hB:H.length+B<200):Ex w.ticked:=by
 unfold Wd.ticked
 split
 ·exact x
 ·rename_i s hs
  have k:=zc1 w.clock s L 8 (Nat.le_refl _)
  exact x.answer h hs ((Inv.ss hB k rfl h hs).sv _ rfl).1 k
theorem zk9{w:Wd}{H:List Hc}{L:List M}{B:Nat}(x:Ex w)(h:Inv w H L B){k:Nat}(hk:k<w.n){m:M}(hm:m∈L)(o:Int):((w.seat k).k.hear m).1.seen o<=(logL w.rs).vv o.toNat:=by
 have h0:=x.seen k hk
 have hs:=h.st k hk
 have hmsg:=h.msg m hm
 have key:∀ v:Int,v<=(logL w.rs).vv (w.seat k).k.cob.toNat->upd (w.seat k).k.seen (w.seat k).k.cob (mx ((w.seat k).k.seen (w.seat k).k.cob) v) o<=(logL w.rs).vv o.toNat:=fun v hv=>by
  by_cases e:o=(w.seat k).k.cob
  ·rw[e,zae];exact zqx (h0 _) hv
  ·rw[zad e];exact h0 o
 unfold K.hear
 split
 ·unfold K.forget;split<;>exact h0 o
 ·split
  ·exact h0 o
  ·rename_i hid
   have hid':m.c=(w.seat k).k.id:=by omega
   split
   ·unfold K.granted;split<;>exact h0 o
   ·split
    ·unfold K.flush;split<;>exact h0 o
    ·split
     ·rename_i hw
      obtain⟨hk5,hw⟩:=hw
      unfold K.zzf at hw
      simp only[Bool.and_eq_true,decide_eq_true_eq] at hw
      obtain⟨⟨w1,w2⟩,w3⟩:=hw
      obtain⟨⟨g,hg,g1,g2,g3,g4,_⟩,hval⟩:=hmsg.va hk5
      have hcall:0<=(w.seat k).call:=by rw[hs.isO] at w1;exact of_decide_eq_true w1
      obtain⟨e0,g0,a1,a2,a3,a4,a5,a6,a7,a8⟩:=hs.opn hcall
      have eg:g=g0:=zcg h.hu hg (List.mem_of_getElem? a2) ⟨by omega,by omega⟩
      have ho:m.o=(w.seat k).k.cob:=by rw[<- g4,eg,a6]
      rw[ho] at hval
      have hle:=(hval.le h.log).2
      unfold K.read
      split
      ·exact h0 o
      ·split<;>exact key m.v hle
     ·split
      ·rename_i hw
       obtain⟨hk6,hw⟩:=hw
       unfold K.zzf at hw
       simp only[Bool.and_eq_true,decide_eq_true_eq] at hw
       obtain⟨⟨w1,w2⟩,w3⟩:=hw
       obtain⟨r,hr,r0,r1,r2,r3⟩:=hmsg.dn hk6
       obtain⟨_,g,hg,g1,g2,_,g4,_⟩:=h.log.wr r hr r0
       have hcall:0<=(w.seat k).call:=by rw[hs.isO] at w1;exact of_decide_eq_true w1
       obtain⟨e0,g0,a1,a2,a3,a4,a5,a6,a7,a8⟩:=hs.opn hcall
       have eg:g=g0:=zcg h.hu hg (List.mem_of_getElem? a2) ⟨by omega,by omega⟩
       have ho:r.o=(w.seat k).k.cob:=by rw[<- g4,eg,a6]
       have hv:=(h.log.ver r hr r0).2
       rw[ho,r3] at hv
       exact key m.v hv
      ·exact h0 o
theorem zdg(w:Wd)(k:Nat):(∀ j,((w.note k).seat j).k=(w.seat j).k)/\(w.note k).rs=w.rs/\(w.note k).n=w.n/\(w.note k).clock=w.clock/\(w.note k).tv=w.tv/\(w.note k).sv=w.sv:=by
 unfold Wd.note
 split
 ·exact⟨fun _=>rfl,rfl,rfl,rfl,rfl,rfl⟩
 ·refine⟨fun j=>?_,rfl,rfl,rfl,rfl,rfl⟩
  show (zy9 w.seat k _ j).k=_
  unfold zy9
  split
  ·rename_i e;subst e;rfl
  ·rfl
theorem Ex.setK{w:Wd}(x:Ex w)(k:Nat)(c:K)(hc:∀ o:Int,c.seen o<=(logL w.rs).vv o.toNat):Ex (w.setK k c):=
 ⟨fun j hj o=>by
  rw[setK_seat]
  split
  ·exact hc o
  ·exact x.seen j hj o,x.rdy⟩
theorem Ex.noted{w:Wd}(x:Ex w)(k:Nat):Ex (w.note k):=by
 obtain⟨e1,e2,e3,e4,e5,e6⟩:=zdg w k
 exact x.same e3 (fun j o=>by rw[e1]) (fun o=>by rw[e2];exact Int.le_refl _) (fun s hs=>by rw[e4,e5];exact x.rdy s (e6▸hs))
theorem Ex.sent{w:Wd}(x:Ex w)(t:Int)(l:List M):Ex (w.send t l):=by
 obtain⟨e1,e2,e3,e4,e5,e6⟩:=zdf t l w
 exact x.same e3 (fun j o=>by rw[e1]) (fun o=>by rw[e2];exact Int.le_refl _) (fun s hs=>by rw[e4,e5];exact x.rdy s (e6▸hs))
theorem Ex.zy7{w:Wd}{H:List Hc}{L:List M}{B:Nat}(x:Ex w)(h:Inv w H L B){k:Nat}(hk:k<w.n){m:M}(hm:m∈L):Ex (w.zy7 k m):=
 ((x.setK k _ (zk9 x h hk hm)).sent (-1) _).noted k
theorem Ex.stepped{w:Wd}(x:Ex w):Ex { w with step:=w.step+1 }:=⟨x.seen,x.rdy⟩
theorem Ex.lose{w:Wd}(x:Ex w)(k:Nat):Ex (w.lose k):=⟨x.seen,x.rdy⟩
theorem Ex.deliver{w:Wd}{H:List Hc}{L:List M}{B:Nat}(x:Ex w)(h:Inv w H L B)(hB:H.length+B<200)(k:Nat):Ex (w.deliver k):=by
 unfold Wd.deliver
 split
 ·exact x
 ·rename_i p hp
  have h1:=(h.lose k).stepped
  have x1:=(x.lose k).stepped
  have hm:=(h.net p (List.mem_of_getElem? hp)).1
  unfold Wd.told
  split
  ·exact Ex.zy6 (w:={ w.lose k with step:=w.step+1 }) x1 h1 hB hm
  ·split
   ·rename_i hh
    have:=of_decide_eq_true hh
    exact Ex.zy7 (w:={ w.lose k with step:=w.step+1 }) x1 h1 (k:=p.1.toNat) (by show p.1.toNat<w.n;have:0<=p.1/\p.1<(w.n:Int):=this;omega) hm
   ·exact x1
theorem Ex.ask{w:Wd}(x:Ex w){k:Nat}(hk:k<w.n):Ex (w.ask k):=by
 refine(x.setK k _ fun o=>?_).sent (-1) _
 unfold K.again
 split<;>exact x.seen k hk o
theorem Ex.again{w:Wd}(x:Ex w){k:Nat}(hk:k<w.n):Ex (w.again k):=x.stepped.ask hk
theorem Ex.crash{w:Wd}(x:Ex w):Ex w.crash:=⟨x.seen,fun s hs=>by cases hs⟩
theorem Ex.zy3{w:Wd}{H:List Hc}{L:List M}{B:Nat}(x:Ex w)(h:Inv w H L B)(a t:Int):Ex (w.zy3 a t):=by
 unfold Wd.zy3
 split
 ·rename_i hs;exact⟨x.seen,fun s q=>by simp[hs] at q⟩
 ·rename_i s hs
  refine⟨fun k hk o=>?_,fun s' q=>?_⟩
  ·have:=x.seen k hk o
   rw[<- (h.sv s hs).2] at this
   exact this
  ·obtain rfl:=Option.some.inj q
   exact x.rdy s hs
theorem Ex.gone{w:Wd}(x:Ex w){b:Int}(hb:0<=b)(hc:w.clock<=549755813888)(f:Nat->Int):Ex (w.gone b f):=by
 refine⟨fun k hk o=>x.seen k hk o,fun s hs=>?_⟩
 obtain⟨a1,a2⟩:=x.rdy s hs
 refine⟨?_,a2⟩
 show s.ready<=stop (w.clock+b)+w.tv
 unfold stop
 split<;>omega
theorem Ex.goes{w:Wd}{H:List Hc}{L:List M}{B:Nat}(x:Ex w)(h:Inv w H L B)(hB:H.length+B<200){b:Int}(hb:0<=b)(hc:w.clock<=549755813888)(f:Nat->Int):Ex (w.goes b f):=(x.gone hb hc f).ticked (h.gone b f) hB
theorem Ex.start{w:Wd}{H:List Hc}{L:List M}{B:Nat}(x:Ex w)(h:Inv w H L B)(hB:H.length+B<200)(hc:0<=w.clock)(ht:0<=w.tv):Ex w.start:=by
 have hroom:=h.room
 obtain⟨e,he,h1,_,_,_,_,_,_,_,h10,_,h12,_⟩:=zcr w.to w.tv w.td w.clock w.rs (by omega)
 refine⟨fun k hk o=>?_,fun s hs=>?_⟩
 ·show (w.seat k).k.seen o<=(logL (Sv.new w.to w.tv w.td w.rs false 0 w.clock).rs).vv o.toNat
  rw[h1,logL_app]
  exact x.seen k hk o
 ·have hs':some (Sv.new w.to w.tv w.td w.rs false 0 w.clock)=some s:=hs
  rw[<- Option.some.inj hs',h10,h12]
  refine⟨?_,rfl⟩
  show _<=w.clock+w.tv
  split<;>omega
theorem Ex.restart{w:Wd}{H:List Hc}{L:List M}{B:Nat}(x:Ex w)(h:Inv w H L B)(hB:H.length+B<200)(hc:0<=w.clock)(ht:0<=w.tv):Ex w.restart:=by
 unfold Wd.restart
 split
 ·exact x
 ·exact Ex.start (w:={ w with step:=w.step+1 }) x.stepped h.stepped hB hc ht
theorem Ex.enter{w:Wd}{H:List Hc}{L:List M}{B:Nat}(x:Ex w)(h:Inv w H L B)(k:Nat)(life:Int):Ex (w.enter k life):=by
 refine⟨fun j hj o=>?_,x.rdy⟩
 show (zy9 w.seat k _ j).k.seen o<=_
 unfold zy9
 split
 ·show (0:Int)<=_;exact h.log.vv0 _
 ·exact x.seen j hj o
theorem Ex.opens{w:Wd}(x:Ex w)(k:Nat)(c:K)(hc:∀ o:Int,c.seen o<=(logL w.rs).vv o.toNat):Ex (w.opens k c):=by
 refine⟨fun j hj o=>?_,x.rdy⟩
 show (zy9 w.seat k _ j).k.seen o<=_
 unfold zy9
 split
 ·exact hc o
 ·exact x.seen j hj o
theorem Ex.first{to' tv td:Int}(hv:0<=tv)(n:Nat):Ex (Wd.bare to' tv td n).start:=by
 obtain⟨e,he,h1,_,_,_,_,_,_,_,h10,_,h12,_⟩:=zcr to' tv td 0 [] (by simp)
 refine⟨fun k hk o=>?_,fun s hs=>?_⟩
 ·show (0:Int)<=(logL (Sv.new to' tv td [] false 0 0).rs).vv o.toNat
  rw[h1]
  exact Int.le_refl _
 ·have hs':some (Sv.new to' tv td [] false 0 0)=some s:=hs
  rw[<- Option.some.inj hs',h10,h12]
  refine⟨?_,rfl⟩
  show _<=(0:Int)+tv
  split<;>omega
end Wld
end
section
namespace Wld
open Go.Maps
open Lease (I64 upd zae zad mx)
open Cache (E era putL)
open Wal (R timeB)
open Num (M okB)
structure Pw(s:Sv):Prop where
 up:s.down=false
 pw:s.fails=true->1000<=s.left+(s.rs.length:Int)
theorem zcj{s:Sv}(h:Pw s)(hl:s.rs.length<200)(m:M)(o:Nat):s.commit m o=(Sv.zy4 { s with rs:=s.rs++[s.recd m o],left:=if s.fails=true then s.left-1 else s.left } (s.recd m o),s.vv o+1,true):=by
 have ha:s.add (s.recd m o)=({ s with rs:=s.rs++[s.recd m o],left:=if s.fails=true then s.left-1 else s.left },0):=by
  unfold Sv.add
  rw[if_neg (by rw[h.up];decide),if_neg (by omega),if_neg (fun q=>by have:=h.pw q.1;omega)]
 unfold Sv.commit
 rw[ha,if_pos rfl]
theorem Pw.commit{s:Sv}(h:Pw s)(hl:s.rs.length<200)(m:M)(o:Nat):Pw (s.commit m o).1:=by
 rw[zcj h hl]
 obtain⟨_,_,_,h4,h5,h6,_⟩:=za7 { s with rs:=s.rs++[s.recd m o],left:=if s.fails=true then s.left-1 else s.left } (s.recd m o)
 refine⟨h4.trans h.up,fun q=>?_⟩
 dsimp only at q ⊢
 rw[h5] at q
 have hq:s.fails=true:=q
 have hr:=zbb { s with rs:=s.rs++[s.recd m o],left:=if s.fails=true then s.left-1 else s.left } (s.recd m o)
 rw[hr,h6]
 have:=h.pw hq
 simp only[hq,if_true,List.length_append,List.length_singleton]
 omega
theorem Pw.s1{T:Int}{s s':Sv}{L L':List M}(h:Pw s)(k:S1 T s L s' L')(hl:s.rs.length<200):Pw s':=by
 cases k with
 | commit o m rest=>exact⟨(h.commit hl m o).up,(h.commit hl m o).pw⟩
 | fall o m rest ho hd hw ok=>rw[zcj h hl] at ok;cases ok
 | value o m=>unfold Sv.lent;split<;>exact⟨h.up,h.pw⟩
 | _=>exact⟨h.up,h.pw⟩
theorem Pw.ss{H:List Hc}{B:Nat}(hB:H.length+B<200){T:Int}{s s':Sv}{L L':List M}(k:Ss T s L s' L'):∀ {w:Wd},w.clock=T->Inv w H L B->w.sv=some s->Pw s->Pw s':=by
 induction k with
 | refl s L=>exact fun _ _ _ h=>h
 | head k1 _ ih=>
  intro w hT h hs hp
  subst hT
  have:=h.room
  have e:=(h.sv _ hs).2
  exact ih (w:=w.served _) rfl (h.s1 hB hs k1) rfl (hp.s1 k1 (by rw[e];omega))
def Up(w:Wd):Prop:=∃ s,w.sv=some s/\Pw s
theorem zg7{w:Wd}{r:Sv×List M}(h:r.1.down=false):w.answer r=(w.served r.1).tells r.2:=by
 unfold Wd.answer Wd.fallen
 have e:=(zb3 r.2 (w.served r.1)).2.2.2.2.2
 rw[e]
 show (if r.1.down=true then _ else _)=_
 rw[if_neg (by rw[h];decide)]
theorem zh9{w:Wd}{r:Sv×List M}(h:r.1.down=false):(w.answer r).sv=some r.1:=by
 rw[zg7 h]
 exact(zb3 r.2 (w.served r.1)).2.2.2.2.2
theorem Up.zy6{w:Wd}{H:List Hc}{L:List M}{B:Nat}(u:Up w)(h:Inv w H L B)(hB:H.length+B<200){m:M}(hm:m∈L):Up (w.zy6 m):=by
 obtain⟨s,hs,hp⟩:=u
 have k:=zdt w.clock s L m hm
 have hp':=Pw.ss hB k rfl h hs hp
 refine⟨(s.hear m w.clock).1,?_,hp'⟩
 unfold Wd.zy6
 rw[hs]
 exact zh9 hp'.up
theorem Up.ticked{w:Wd}{H:List Hc}{L:List M}{B:Nat}(u:Up w)(h:Inv w H L B)(hB:H.length+B<200):Up w.ticked:=by
 obtain⟨s,hs,hp⟩:=u
 have k:=zc1 w.clock s L 8 (Nat.le_refl _)
 have hp':=Pw.ss hB k rfl h hs hp
 refine⟨(s.tickN w.clock 8).1,?_,hp'⟩
 unfold Wd.ticked
 rw[hs]
 exact zh9 hp'.up
theorem Up.sv{w w':Wd}(u:Up w)(h:w'.sv=w.sv):Up w':=by
 obtain⟨s,hs,hp⟩:=u
 exact⟨s,h.trans hs,hp⟩
theorem Up.deliver{w:Wd}{H:List Hc}{L:List M}{B:Nat}(u:Up w)(h:Inv w H L B)(hB:H.length+B<200)(k:Nat):Up (w.deliver k):=by
 unfold Wd.deliver
 split
 ·exact u
 ·rename_i p hp
  have h1:=(h.lose k).stepped
  have u1:Up { w.lose k with step:=w.step+1 }:=u
  have hm:=(h.net p (List.mem_of_getElem? hp)).1
  unfold Wd.told
  split
  ·exact Up.zy6 (w:={ w.lose k with step:=w.step+1 }) u1 h1 hB hm
  ·split
   ·exact u1.sv (zgh _ _ _).1
   ·exact u1
theorem Up.again{w:Wd}(u:Up w)(k:Nat):Up (w.again k):=u.sv ((zdf _ _ _).2.2.2.2.2)
theorem Up.goes{w:Wd}{H:List Hc}{L:List M}{B:Nat}(u:Up w)(h:Inv w H L B)(hB:H.length+B<200)(b:Int)(f:Nat->Int):Up (w.goes b f):=Up.ticked (w:=w.gone b f) u (h.gone b f) hB
theorem Up.failed{w:Wd}{H:List Hc}{L:List M}{B:Nat}(h:Inv w H L B)(hB:H.length+B<200)(hup:∀ s,w.sv=some s->s.down=false):Up (w.zy3 1000 (-1)).restart:=by
 unfold Wd.zy3
 split
 ·rename_i hs
  have hroom:=h.room
  obtain⟨e,he,h1,_,_,h5,_,_,_,_,_,_,_,h13,_⟩:=zcr w.to w.tv w.td w.clock w.rs (by omega)
  unfold Wd.restart
  split
  ·rename_i s hs'
   have hs'':w.sv=some s:=hs'
   rw[hs] at hs''
   cases hs''
  ·exact⟨Sv.new w.to w.tv w.td w.rs false 0 w.clock,rfl,h5,fun q=>by rw[h13] at q;cases q⟩
 ·rename_i s hs
  refine⟨{ s with fails:=true,left:=mx 1000 0,torn:=-1 },rfl,hup s hs,fun _=>?_⟩
  show (1000:Int)<=mx 1000 0+(s.rs.length:Int)
  unfold Lease.mx
  split<;>omega
end Wld
end
section
namespace Wld
open Go.Maps
open Lease (I64 upd zae zad mx hol)
open Cache (E era putL)
open Wal (R timeB)
open Num (M okB)
theorem zdh{k c n e s o v:Int}{l:Bool}{d:ByteArray}(hk:1<=k/\k<=9)(hc:0<=c/\c<=1099511627776)(hn:0<=n/\n<=1099511627776)(he:0<=e/\e<=1099511627776)(hs:0<=s/\s<=1099511627776)(ho:0<=o/\o<=1099511627776)(hv:0<=v/\v<=1099511627776)(hd:d.size<=20):okB ⟨k,c,n,e,s,o,v,l,d⟩=true:=by
 simp only[okB,Num.M.nums,Num.numB,Num.inB,List.all_cons,List.all_nil,Bool.and_eq_true,decide_eq_true_eq,and_true]
 exact⟨⟨hk,hd⟩,⟨by omega,by omega⟩,hc,hn,he,hs,ho,hv⟩
theorem zdi{m:M}(h:okM m):(0<=m.c/\m.c<=1099511627776)/\(0<=m.n/\m.n<=1099511627776)/\m.d.size<=20:=by
 obtain⟨h1,h2,h3⟩:=h
 simp[timeB,Num.inB] at h1 h2
 exact⟨h1,h2,h3⟩
def AllOk(l:List M):Prop:=∀ m∈l,okB m=true
theorem AllOk.nil:AllOk []:=fun m hm=>by simp at hm
theorem AllOk.one{m:M}(h:okB m=true):AllOk [m]:=fun x hx=>by rw[List.mem_singleton.1 hx];exact h
theorem AllOk.app{a b:List M}(h:AllOk a)(k:AllOk b):AllOk (a++b):=fun m hm=>(List.mem_append.1 hm).elim (h m) (k m)
theorem SvB.ep{s:Sv}{B:Nat}(h:SvB s B):0<=s.epoch/\s.epoch<=1099511627776:=⟨h.ep0,by have:=h.ep1;omega⟩
theorem SvB.se{s:Sv}{B:Nat}(h:SvB s B)(hB:B<=100000000000)(c:Int):0<=s.ses c/\s.ses c<=1099511627776:=⟨h.ses0 c,by have:=h.ses c;omega⟩
theorem SvB.vr{s:Sv}{B:Nat}(h:SvB s B)(o:Nat):0<=s.vv o/\s.vv o<=200:=⟨h.vv0 o,by have:=h.vv1 o;have:=h.len;omega⟩
theorem none20:(⟨#[]⟩:ByteArray).size<=20:=by decide
theorem zo8{s:Sv}{B:Nat}(h:SvB s B)(hB:B<=100000000000){m:M}(hm:okM m)(ho:0<=m.o/\m.o<8){v:Int}(hv:0<=v/\v<=1000):okB (s.doneM m v)=true:=
 zdh (by omega) (zdi hm).1 (zdi hm).2.1 h.ep (h.se hB _) ⟨ho.1,by omega⟩ ⟨hv.1,by omega⟩ none20
theorem zm8{s:Sv}{B:Nat}(h:SvB s B){c:Int}(hc:0<=c/\c<4){o:Nat}(ho:o<8):okB (s.invalM c o)=true:=
 zdh (by omega) ⟨hc.1,by omega⟩ (by omega) h.ep (by omega) (by omega) (by have:=h.vr o;omega) none20
theorem zty{s:Sv}{B:Nat}(h:SvB s B)(hB:B<=100000000000){m:M}(hm:okM m){k:Int}(hk:1<=k/\k<=9):okB (s.answer k m)=true:=
 zdh hk (zdi hm).1 (zdi hm).2.1 h.ep (h.se hB _) (by omega) (by omega) none20
theorem zwk{s:Sv}{B:Nat}(h:SvB s B)(hB:B<=100000000000){m:M}(hm:okM m){o:Nat}(ho:o<8):okB (s.valueM m o)=true:=
 zdh (by omega) (zdi hm).1 (zdi hm).2.1 h.ep (h.se hB _) (by omega) (by have:=h.vr o;omega) (h.vdl o)
theorem zwl(s:Sv)(m:M)(o:Nat):(s.commit m o).2.1=s.vv o+1\/(s.commit m o).2.1=0:=by
 unfold Sv.commit
 split
 ·exact .inl rfl
 ·exact .inr rfl
theorem ztz{o:Nat}(ho:o<8)(now:Int):∀ (f:Nat) {s:Sv} {B:Nat},SvB s B->B+4*f<=100000000000->AllOk (s.adv o now f).2
 | 0,s,B,_,_=>AllOk.nil
 | f+1,s,B,h,hB=>by
  unfold Sv.adv
  split
  ·exact AllOk.nil
  ·obtain⟨h1,_⟩:=h.zyz o now
   split
   ·exact AllOk.nil
   ·split
    ·exact AllOk.nil
    ·rename_i m rest hm
     have hw:=h1.wok o m (by rw[hm];exact List.mem_cons_self ..)
     have h2:=h1.commit m o hw.2.2.2
     obtain⟨k1,_⟩:=zar (s.zyz o now).1 m o
     split
     ·exact AllOk.nil
     ·have h3:=h2.rest (o:=o) (m:=m) (rest:=rest) (by rw[k1];exact hm)
      intro x hx
      rcases List.mem_cons.1 hx with q|q
      ·rw[q]
       refine zo8 h3 (by omega) hw.2 (by rw[hw.1];omega) ?_
       have:=h1.vr o
       rcases zwl (s.zyz o now).1 m o with e|e<;>rw[e]<;>omega
      ·exact ztz ho now f h3 (by omega) x q
theorem zf2{o:Nat}(ho:o<8)(now:Int){s:Sv}{B:Nat}(h:SvB s B)(hB:B<=90000000000):AllOk (s.zy1 o now).2:=ztz ho now _ h (by have:=h.wlen o;omega)
theorem zla{s:Sv}{B:Nat}(h:SvB s B){seat:Int}(hs:0<=seat/\seat<4)(now:Int):∀ k,k<=8->AllOk (s.zy0 seat now k).2
 | 0,_=>AllOk.nil
 | k+1,hk=>by
  have h1:=(SvB.remind h seat now k).1
  have h2:=(h1.zyz k now).1
  refine(zla h hs now k (by omega)).app ?_
  split
  ·exact AllOk.one (zm8 h2 hs (by omega))
  ·exact AllOk.nil
theorem zx6{s:Sv}{B:Nat}(h:SvB s B)(hB:B<=80000000000){m:M}(hm:okM m)(hl:∀ k,0<=(s.last k).v/\(s.last k).v<=1000)(now:Int):AllOk (s.hear m now).2:=by
 unfold Sv.hear
 split
 ·exact AllOk.nil
 ·rename_i hn
  have ho:m.o.toNat<8:=by omega
  split
  ·exact AllOk.one (zwk h (by omega) hm ho)
  ·split
   ·unfold Sv.writeS
    split
    ·exact AllOk.one (zo8 h (by omega) hm (by omega) (hl _))
    ·split
     ·exact AllOk.nil
     ·split
      ·exact AllOk.nil
      ·have hq:=h.enq (m:=m) (o:=m.o.toNat) ⟨by omega,hm⟩
       have ha:=hq.zy1 m.o.toNat now
       have hb:=ha.1.zyz m.o.toNat now
       refine AllOk.app (zf2 ho now hq (by omega)) fun x hx=>?_
       obtain⟨c,hc',rfl⟩:=List.mem_map.1 hx
       obtain⟨n,hn4,rfl⟩:=zew _ _ _ c hc'
       exact zm8 hb.1 (by omega) ho
   ·split
    ·have hr:=(SvB.remind h (zy8 m.c:Nat) now 8).1
     have hs4:zy8 m.c<4:=by unfold zy8;omega
     unfold Sv.renewS
     split
     ·exact zla h (by omega) now 8 (Nat.le_refl _)
     ·split<;>exact AllOk.one (zty hr (by omega) hm (by omega))
    ·split
     ·unfold Sv.release
      split
      ·exact zf2 ho now (h.dropped _ _) (by omega)
      ·exact AllOk.nil
     ·exact AllOk.nil
theorem zo9{s:Sv}{B:Nat}(h:SvB s B)(hB:B<=80000000000)(now:Int):∀ k,k<=8->AllOk (s.tickN now k).2
 | 0,_=>AllOk.nil
 | k+1,hk=>(zo9 h hB now k (by omega)).app (zf2 (by omega) now (SvB.tick h now k).1 (by omega))
theorem zm9{w:Wd}{t:Int}{m:M}(h:okB m=true)(hl:w.net.length<200):w.put t m = { w with net:=w.net++[(t,m)] }:=by
 unfold Wd.put
 rw[if_pos ⟨h,hl⟩]
theorem zem(t:Int):∀ (l:List M) {w:Wd},AllOk l->w.net.length+l.length<=200->w.send t l = { w with net:=w.net++l.map fun m=>(t,m) }
 | [],w,_,_=>by simp[Wd.send]
 | m :: l,w,h,hl=>by
  have h0:=h m (List.mem_cons_self ..)
  simp only[List.length_cons] at hl
  show (w.put t m).send t l=_
  rw[zm9 h0 (by omega),zem t l (fun x hx=>h x (List.mem_cons_of_mem _ hx)) (by simp;omega)]
  simp
theorem zf3:∀ (l:List M) {w:Wd},AllOk l->w.net.length+l.length<=200->w.tells l = { w with net:=w.net++l.map fun m=>(((zy8 m.c:Nat):Int),m) }
 | [],w,_,_=>by simp[Wd.tells]
 | m :: l,w,h,hl=>by
  have h0:=h m (List.mem_cons_self ..)
  simp only[List.length_cons] at hl
  show (w.put (zy8 m.c:Nat) m).tells l=_
  rw[zm9 h0 (by omega),zf3 l (fun x hx=>h x (List.mem_cons_of_mem _ hx)) (by simp;omega)]
  simp
theorem zfh:∀ (l:List (Int×M)),l.length<=wnet l
 | []=>Nat.zero_le _
 | p :: l=>by
  have a:=zfh l
  have b:=zgy p.2
  have e:wnet (p :: l)=wt p.2+wnet l:=by simp[wnet,wts]
  simp only[List.length_cons]
  omega
theorem zj5:∀ (l:List M),l.length<=wts l
 | []=>Nat.zero_le _
 | m :: l=>by
  have a:=zj5 l
  have b:=zgy m
  rw[za0]
  simp only[List.length_cons]
  omega
structure Cm(w:Wd)(H:List Hc)(L:List M)(b C:Nat)(cb:Int):Prop where
 safe:Safe True w H L b cb
 hb:H.length+b<200
 ex:Ex w
 up:Up w
 wb:WdB w C
 cC:C<=100000000
 mu:w.mu<200
theorem Cm.inv{w:Wd}{H:List Hc}{L:List M}{b C:Nat}{cb:Int}(h:Cm w H L b C cb):∃ B,Inv w H L B/\H.length+B<200:=by
 obtain⟨B,k1,k2⟩:=h.safe.inv.inv
 exact⟨B,k1,by have:=h.hb;omega⟩
theorem Cm.fr{w:Wd}{H:List Hc}{L:List M}{b C:Nat}{cb:Int}(h:Cm w H L b C cb):Fr w H L:=h.safe.fr trivial
theorem Cm.deliver{w:Wd}{H:List Hc}{L:List M}{b C:Nat}{cb:Int}(h:Cm w H L b C cb)(hC:C+1<=100000000)(hn:w.net≠[]):∃ L',Cm (w.deliver 0) H L' b (C+1) cb:=by
 obtain⟨B,hi,hB⟩:=h.inv
 have hl:0<w.net.length:=List.length_pos_iff.2 hn
 obtain⟨L',hs⟩:=h.safe.deliver h.hb 0
 exact⟨L',hs,h.hb,h.ex.deliver hi hB 0,h.up.deliver hi hB 0,h.wb.deliver 0,hC,Nat.lt_trans (zcq h.wb hl) h.mu⟩
theorem Inv.lastv{w:Wd}{H:List Hc}{L:List M}{B:Nat}(h:Inv w H L B){C:Nat}(hw:WdB w C){s:Sv}(hs:w.sv=some s)(k:Nat):0<=(s.last k).v/\(s.last k).v<=1000:=by
 obtain⟨hi,hrs⟩:=h.sv s hs
 have e:s.last=(logL w.rs).last:=by rw[<- hrs];exact congrArg L4.last hi.l4
 rw[e]
 rcases h.log.lin k with q|⟨q,_⟩
 ·rw[q];exact⟨Int.le_refl _,by decide⟩
 ·have:=hw.recs _ q
  have:=hw.len
  omega
theorem zfi{w:Wd}{H:List Hc}{L:List M}{b C:Nat}{cb:Int}(h:Cm w H L b C cb){m:M}{rest:List (Int×M)}(hn:w.net=(-1,m) :: rest){s:Sv}(hs:w.sv=some s) :
  (w.deliver 0).net=rest++(s.hear m w.clock).2.map (fun x=>(((zy8 x.c:Nat):Int),x))/\(w.deliver 0).sv=some (s.hear m w.clock).1/\(w.deliver 0).seat=w.seat/\(w.deliver 0).clock=w.clock/\(w.deliver 0).n=w.n:=by
 obtain⟨B,hi,hB⟩:=h.inv
 obtain⟨s0,hs0,hp⟩:=h.up
 obtain rfl:s0=s:=Option.some.inj (hs0.symm.trans hs)
 have hm:m∈L:=(hi.net (-1,m) (by rw[hn];exact List.mem_cons_self ..)).1
 have hok:okB m=true:=h.wb.net (-1,m) (by rw[hn];exact List.mem_cons_self ..)
 have hp':=Pw.ss hB (zdt w.clock s0 L m hm) rfl hi hs hp
 obtain⟨hsv,_⟩:=h.wb.sv s0 hs
 have hall:=zx6 (B:=400*C) hsv (by have:=h.cC;omega) (zbf hok).1 (hi.lastv h.wb hs) w.clock
 have hmu:=zow hsv (zbf hok).1 w.clock
 have hlen:rest.length+(s0.hear m w.clock).2.length<=200:=by
  have h1:=h.mu
  have h2:=zfh rest
  have h3:=zj5 (s0.hear m w.clock).2
  have e:w.mu=wnet w.net+2*total s0.zzf:=by unfold Wd.mu;rw[hs]
  have e2:wnet w.net=wt m+wnet rest:=by rw[hn];simp[wnet,wts]
  omega
 have hd:w.deliver 0=(({ w with net:=rest,step:=w.step+1 }:Wd).served (s0.hear m w.clock).1).tells (s0.hear m w.clock).2:=by
  unfold Wd.deliver
  rw[hn]
  show (({ w with net:=rest,step:=w.step+1 }:Wd).told (-1) m)=_
  unfold Wd.told
  rw[if_pos rfl]
  unfold Wd.zy6
  have hs':({ w with net:=rest,step:=w.step+1 }:Wd).sv=some s0:=hs
  rw[hs']
  exact zg7 hp'.up
 rw[hd,zf3 _ hall hlen]
 exact⟨rfl,rfl,rfl,rfl,rfl⟩
theorem zj6{w:Wd}{H:List Hc}{L:List M}{b C:Nat}{cb:Int}(h:Cm w H L b C cb){j:Nat}(hj:j<w.n){m:M}{rest:List (Int×M)}(hn:w.net=((j:Int),m) :: rest)(hack:AllOk ((w.seat j).k.hear m).2) :
  (w.deliver 0).net=rest++((w.seat j).k.hear m).2.map (fun x=>((-1:Int),x))/\(w.deliver 0).sv=w.sv/\(∀ i,((w.deliver 0).seat i).k=if i=j then ((w.seat j).k.hear m).1 else (w.seat i).k)/\(w.deliver 0).clock=w.clock/\(w.deliver 0).n=w.n:=by
 have hlen:rest.length+((w.seat j).k.hear m).2.length<=200:=by
  have h1:=h.mu
  have h2:=zfh rest
  have h3:=zj5 ((w.seat j).k.hear m).2
  have h4:=zkq (w.seat j).k m
  have e:wnet w.net<=w.mu:=by unfold Wd.mu;split<;>omega
  have e2:wnet w.net=wt m+wnet rest:=by rw[hn];simp[wnet,wts]
  omega
 have hd:w.deliver 0=((({ w with net:=rest,step:=w.step+1 }:Wd).setK j ((w.seat j).k.hear m).1).send (-1) ((w.seat j).k.hear m).2).note j:=by
  unfold Wd.deliver
  rw[hn]
  show (({ w with net:=rest,step:=w.step+1 }:Wd).told (j:Int) m)=_
  unfold Wd.told
  rw[if_neg (by omega),if_pos (by unfold Wd.has;exact decide_eq_true ⟨by omega,by show (j:Int)<(w.n:Int);omega⟩)]
  rfl
 have hnote:∀ x:Wd,(x.note j).net=x.net:=fun x=>by unfold Wd.note;split<;>rfl
 rw[zem (-1) _ hack (by exact hlen)] at hd
 obtain⟨e1,_,e3,e4,_,e6⟩:=zdg ({ ({ w with net:=rest,step:=w.step+1 }:Wd).setK j ((w.seat j).k.hear m).1 with net:=(({ w with net:=rest,step:=w.step+1 }:Wd).setK j ((w.seat j).k.hear m).1).net++((w.seat j).k.hear m).2.map fun x=>((-1:Int),x) }:Wd) j
 rw[hd]
 refine⟨hnote _,e6,fun i=>?_,e4,e3⟩
 rw[e1]
 show (zy9 w.seat j _ i).k=_
 unfold zy9
 split<;>rfl
theorem zg8{w:Wd}{t:Int}{m:M}{rest:List (Int×M)}(hn:w.net=(t,m) :: rest)(h1:t≠-1)(h2:w.has t=false):w.deliver 0 = { w with net:=rest,step:=w.step+1 }:=by
 unfold Wd.deliver
 rw[hn]
 show (({ w with net:=rest,step:=w.step+1 }:Wd).told t m)=_
 unfold Wd.told
 have h2':({ w with net:=rest,step:=w.step+1 }:Wd).has t=false:=h2
 rw[if_neg h1,if_neg (by rw[h2'];decide)]
end Wld
end
end Go.Proofs.YtbebfliimjjohabGreatDoor
