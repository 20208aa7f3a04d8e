/- Parts of the proof. -/
import Derived.Test.YtbebfliimjjohabGreatDoorLc38
set_option maxRecDepth 100000
set_option maxHeartbeats 8000000
namespace Go.Proofs.YtbebfliimjjohabGreatDoor
section
namespace Wld
open Go.RowKit Go.Maps
open Lease (upd zae zad hol dels mx kk isH)
open Cache (E era putL)
open Wal (R mayB timeB)
open Num (M okB)
theorem Pend.sub{w:Wd}{L L':List M}{k:Nat}{m:M}(h:Pend w L' k m)(hL:∀ x∈L',x.k=5->x∈L):Pend w L k m:=⟨hL m h.mem h.k5,h.k5,h.l,h.c,h.n,h.o,h.cm⟩
theorem zbi{w:Wd}{H:List Hc}{k:Nat}(hs:SeatI w H k)(hk:k<4):zy8 (w.seat k).k.id=k:=by
 rw[hs.id]
 unfold zy8
 have:=hs.l0
 omega
theorem Fr.mild{w:Wd}{H:List Hc}{L:List M}{B:Nat}(f:Fr w H L)(h:Inv w H L B){s s':Sv}(hs:w.sv=some s){L':List M}(h':SvInv H s')(e0:s'.rs=s.rs)(e1:s'.tv=s.tv)(e2:s'.to=s.to)(e3:s'.D=s.D)(e4:s'.ses=s.ses)(e5:s'.vol=s.vol)(e6:s'.ready=s.ready)
  (wt:∀ o:Nat,s.zzf o≠[]->s'.zzf o≠[]) (new:∀ m∈L',m∈L\/(NewOk L s' m/\m.k≠5/\m.k≠7)):Fr (w.served s') H L':=by
 obtain⟨hi,hrs⟩:=h.sv s hs
 have e7:s'.l4=s.l4:=by rw[h'.l4,hi.l4,e0]
 have e8:s'.epoch=s.epoch:=congrArg L4.ep e7
 have e9:s'.vv=s.vv:=congrArg L4.vv e7
 have n5:∀ x∈L',x.k=5->x∈L:=fun x hx q=>(new x hx).elim id fun p=>absurd q p.2.1
 have n7:∀ x∈L',x.k=7->x∈L:=fun x hx q=>(new x hx).elim id fun p=>absurd q p.2.2
 have lv:∀ k e ss x,Lv w s k e ss x->Lv (w.served s') s' k e ss x:=fun k e ss x q=>q.step f.d0 f.d1 e8 e6 (.inl ⟨by rw[e4],by rw[e5];exact Int.le_refl _⟩)
 have cl:∀ k o v u e ss,(e=s.epoch->ss<=s.ses (k:Nat))->Cl w L k o v u e ss->Cl (w.served s') L' k o v u e ss:=fun k o v u e ss hb q=>q.step hs e8 (by rw[e0,hrs]) (fun g hg g7 _=>.inl (n7 g hg g7)) hb (.inl (by rw[e4])) fun _ _ _ _ p1 p2=>by rw[e3];exact⟨p1,p2⟩
 refine f.serve h hs h' e1 e2 (by rw[e3];exact(f.sv s hs).2.2) e8 (fun o=>by rw[e9];exact Int.le_refl _) (fun k=>by rw[e4];exact Int.le_refl _) (fun m hm=>(new m hm).imp id fun p=>p.1) (fun o _ q=>wt o q) (fun k _ m hm=>.inl (hm.sub n5)) ?_ ?_ ?_ ?_
 ·exact fun k hk=>lv _ _ _ _ ((f.st k hk).vk s hs)
 ·exact fun k hk g hg g7 g1 g2=>lv _ _ _ _ ((f.st k hk).vg s hs g (n7 g hg g7) g7 g1 g2)
 ·exact fun k hk x hx=>cl _ _ _ _ _ _ (fun q=>(f.st k hk).lb.2 s hs q) ((f.st k hk).ck x hx).2.2
 ·intro k hk m hm
  have hm':=hm.sub n5
  refine cl _ _ _ _ _ _ (fun q=>?_) ((f.st k hk).cp m hm')
  have:=(f.lb m hm'.mem (.inl hm'.k5)).2 s hs q
  rw[hm'.c,zbi (h.st k hk) (by have:=h.n4;omega)] at this
  exact this
theorem zcb{w:Wd}{H:List Hc}{L:List M}{B:Nat}(h:Inv w H L B){k:Nat}(hk:k<w.n)(ho:(w.seat k).k.zy2=true){g:Hc}(hg:g∈H)(h1:g.c=(w.seat k).k.id)(h2:g.n=(w.seat k).k.num):g.o=(w.seat k).k.cob/\0<=g.o/\g.o<8:=by
 have hs:=h.st k hk
 have hcall:0<=(w.seat k).call:=by rw[hs.isO] at ho;exact of_decide_eq_true ho
 obtain⟨e0,g0,a1,a2,a3,a4,a5,a6,a7,a8⟩:=hs.opn hcall
 have eg:g=g0:=zcg h.hu hg (List.mem_of_getElem? a2) ⟨by omega,by omega⟩
 have hE:=h.eh _ e0 g0 a1 a2
 rw[eg]
 exact⟨a6,by rw[hE.o];exact hE.o0,by rw[hE.o];exact hE.o8⟩
theorem Fr.s1{w:Wd}{H:List Hc}{L:List M}{B:Nat}(f:Fr w H L)(h:Inv w H L B)(hB:H.length+B<200){s s':Sv}{L':List M}(hs:w.sv=some s)(k:S1 w.clock s L s' L'):Fr (w.served s') H L':=by
 have h':SvInv H s':=((h.s1 hB hs k).sv s' rfl).1
 obtain⟨hi,hrs⟩:=h.sv s hs
 have hroom:=h.room
 have hn4:=h.n4
 have hpb:∀ {k:Nat},k<w.n->∀ {m:M},Pend w L k m->m.e=s.epoch->m.s<=s.ses (k:Nat):=fun {k} hk {m} hm q=>by
  have:=(f.lb m hm.mem (.inl hm.k5)).2 s hs q
  rw[hm.c,zbi (h.st k hk) (by omega)] at this
  exact this
 cases k with
 | fall o m rest ho hd hw ok=>
  rcases zei s m o hd (by rw[hrs];omega) with e|e
  ·rw[e] at ok;cases ok
  ·rw[e] at h' ⊢;exact f.mild h hs h' rfl rfl rfl rfl rfl rfl rfl (fun _ q=>q) (fun _ q=>.inl q)
 | enq o m ho hd hm hk h0 hc hl hsame h10=>
  refine f.mild h hs h' rfl rfl rfl rfl rfl rfl rfl (fun x q=>?_) (fun _ q=>.inl q)
  show zy9 s.zzf o (s.zzf o++[m]) x≠[]
  unfold zy9
  split
  ·simp
  ·exact q
 | flushM m hd hm hk hc he=>
  refine f.mild h hs h' rfl rfl rfl rfl rfl rfl rfl (fun _ q=>q) (fun x hx=>(zay hx).imp id fun q=>?_)
  subst q
  exact⟨⟨⟨by show ¬ (8:Int)=3;decide,by show ¬ (8:Int)=4;decide⟩,fun _=>⟨rfl,rfl⟩,fun q=>absurd ((rfl:(8:Int)=_).trans q) (by decide),fun _=>⟨m,hm,hk,rfl,rfl⟩⟩,by show ¬ (8:Int)=5;decide,by show ¬ (8:Int)=7;decide⟩
 | inval c o hc ho hd hw=>
  refine f.mild h hs h' rfl rfl rfl rfl rfl rfl rfl (fun _ q=>q) (fun x hx=>(zay hx).imp id fun q=>?_)
  subst q
  have eo:(s.invalM c o).o.toNat=o:=by show ((o:Int)).toNat=o;omega
  exact⟨⟨⟨by show ¬ (9:Int)=3;decide,by show ¬ (9:Int)=4;decide⟩,fun q=>absurd q (by show ¬ ((9:Int)=5\/(9:Int)=7\/(9:Int)=8);decide),fun _=>⟨by show (0:Int)<=o;omega,by show (o:Int)<8;omega,rfl,by rw[eo];rfl,by rw[eo];exact hw⟩,fun q=>absurd q (by show ¬ ((9:Int)=7\/(9:Int)=8);decide)⟩,by show ¬ (9:Int)=5;decide,by show ¬ (9:Int)=7;decide⟩
 | redone m hd hm hk h0 h8 hc h1 h2=>
  refine f.mild h hs h' rfl rfl rfl rfl rfl rfl rfl (fun _ q=>q) (fun x hx=>(zay hx).imp id fun q=>?_)
  subst q
  exact⟨⟨⟨by show ¬ (6:Int)=3;decide,by show ¬ (6:Int)=4;decide⟩,fun q=>absurd q (by show ¬ ((6:Int)=5\/(6:Int)=7\/(6:Int)=8);decide),fun q=>absurd ((rfl:(6:Int)=_).trans q) (by decide),fun q=>absurd q (by show ¬ ((6:Int)=7\/(6:Int)=8);decide)⟩,by show ¬ (6:Int)=5;decide,by show ¬ (6:Int)=7;decide⟩
 | flush c hc hv=>
  have hses:∀ k:Nat,(s.flushed c).ses k=if k=c then s.ses c+1 else s.ses k:=fun k=>by
   show upd s.ses c (s.ses c+1) k=_
   unfold Lease.upd
   by_cases e:k=c
   ·subst e;simp
   ·rw[if_neg e,if_neg (by omega)]
  have hvol:∀ k:Nat,k≠c->(s.flushed c).vol k=s.vol k:=fun k e=>by
   show upd s.vol c 0 k=_
   rw[zad (by omega)]
  have lv:∀ (k:Nat) e ss x,Lv w s k e ss x->Lv (w.served (s.flushed c)) (s.flushed c) k e ss x:=fun k e ss x q=>by
   refine q.step f.d0 f.d1 rfl rfl ?_
   by_cases e:k=c
   ·subst e;right;omega
   ·left;exact⟨by rw[hses,if_neg e],by rw[hvol k e];exact Int.le_refl _⟩
  have cl:∀ (k o:Nat) v u e ss,k<w.n->o<8->(e=s.epoch->ss<=s.ses k)->Cl w L k o v u e ss->Cl (w.served (s.flushed c)) L k o v u e ss:=fun k o v u e ss hk ho hb q=>by
   refine q.step hs rfl (by show (logL s.rs).vv o=_;rw[hrs]) (fun g hg _ _=>.inl hg) hb ?_ ?_
   ·rw[hses]
    by_cases e:k=c
    ·subst e;rw[if_pos rfl];right;omega
    ·rw[if_neg e];exact .inl rfl
   ·intro q1 _ _ _ p1 p2
    have hkc:k≠c:=fun e=>by subst e;rw[hses,if_pos rfl] at q1;omega
    obtain⟨d1,d2⟩:=zjk (D:=s.D) (c':=(k:Int)) (o':=(o:Int)) (x:=(c:Int)) 8 fun i hi e=>hkc (zd3 (by omega) hc ho hi e).1
    show has (dels s.D c 8) (kk k o)=true/\Qr _ _ _ _ (lentB (dels s.D c 8) k o) u
    rw[d1,d2]
    exact⟨p1,p2⟩
  refine f.serve h hs h' rfl rfl ((f.sv s hs).2.2.dels c 8) rfl (fun _=>Int.le_refl _) (fun k=>?_) (fun m hm=>.inl hm) (fun _ _ q=>q) (fun _ _ _ hm=>.inl hm) ?_ ?_ ?_ ?_
  ·rw[hses];split
   ·rename_i e;subst e;omega
   ·omega
  ·exact fun k hk=>lv _ _ _ _ ((f.st k hk).vk s hs)
  ·exact fun k hk g hg g7 g1 g2=>lv _ _ _ _ ((f.st k hk).vg s hs g hg g7 g1 g2)
  ·exact fun k hk x hx=>cl _ _ _ _ _ _ hk (by have:=(f.st k hk).ck x hx;omega) (fun q=>(f.st k hk).lb.2 s hs q) ((f.st k hk).ck x hx).2.2
  ·intro k hk m hm
   obtain⟨⟨g,hg,g1,g2,_⟩,_⟩:=(h.msg m hm.mem).va hm.k5
   have:=zcb h hk hm.o hg (g1.trans hm.c) (g2.trans hm.n)
   exact cl _ _ _ _ _ _ hk (by omega) (hpb hk hm) ((f.st k hk).cp m hm)
 | grant m hd hm hk hc he hss=>
  obtain⟨s',hs'⟩:∃ s',s' = { s with vol:=upd s.vol (zy8 m.c:Nat) (mx (s.vol (zy8 m.c:Nat)) (w.clock+s.tv)) }:=⟨_,rfl⟩
  rw[<- hs'] at h' ⊢
  have b:s'.tv=s.tv/\s'.to=s.to/\s'.D=s.D/\s'.epoch=s.epoch/\s'.ready=s.ready/\s'.ses=s.ses/\s'.vv=s.vv/\s'.zzf=s.zzf/\s'.rs=s.rs/\s'.vol=upd s.vol (zy8 m.c:Nat) (mx (s.vol (zy8 m.c:Nat)) (w.clock+s.tv)):=by rw[hs'];exact⟨rfl,rfl,rfl,rfl,rfl,rfl,rfl,rfl,rfl,rfl⟩
  obtain⟨b1,b2,b3,b4,b5,b6,b7,b8,b9,b10⟩:=b
  have hvol:∀ k:Nat,s.vol k<=s'.vol k:=fun k=>by
   rw[b10]
   unfold Lease.upd
   split
   ·rename_i e;rw[e];exact zd2 _ _
   ·exact Int.le_refl _
  have lv:∀ (k:Nat) e ss x,Lv w s k e ss x->Lv (w.served s') s' k e ss x:=fun k e ss x q=>q.step f.d0 f.d1 b4 b5 (.inl ⟨by rw[b6],hvol k⟩)
  have cl:∀ (k o:Nat) v u e ss,k<w.n->(e=s.epoch->ss<=s.ses k)->Cl w L k o v u e ss->Cl (w.served s') (L++[s.answer 7 m]) k o v u e ss:=fun k o v u e ss hkn hb q=>by
   refine q.step hs b4 (by rw[b9,hrs]) (fun g hg g7 gc=>(zay hg).imp id fun q=>?_) hb (.inl (by rw[b6])) fun _ _ _ _ p1 p2=>by rw[b3];exact⟨p1,p2⟩
   subst q
   refine⟨rfl,?_⟩
   have gc':m.c=(w.seat k).k.id:=gc
   show s.ses (zy8 m.c:Nat)=s.ses k
   rw[gc',zbi (h.st k hkn) (by omega)]
  have n5:∀ x∈L++[s.answer 7 m],x.k=5->x∈L:=fun x hx q=>(zay hx).elim id fun p=>by subst p;exact absurd ((rfl:(7:Int)=_).trans q) (by decide)
  refine f.serve h hs h' b1 b2 (by rw[b3];exact(f.sv s hs).2.2) b4 (fun _=>by rw[b7];exact Int.le_refl _) (fun k=>by rw[b6];exact Int.le_refl _) (fun x hx=>(zay hx).imp id fun q=>?_) (fun _ _ q=>by rw[b8];exact q) (fun _ _ _ hm=>.inl (hm.sub n5)) ?_ ?_ ?_ ?_
  ·subst q
   exact⟨⟨by show ¬ (7:Int)=3;decide,by show ¬ (7:Int)=4;decide⟩,fun _=>⟨b4.symm,by rw[b6];rfl⟩,fun q=>absurd ((rfl:(7:Int)=_).trans q) (by decide),fun _=>⟨m,hm,hk,rfl,rfl⟩⟩
  ·exact fun k hk=>lv _ _ _ _ ((f.st k hk).vk s hs)
  ·intro k hk g hg g7 g1 g2
   rcases zay hg with q|q
   ·exact lv _ _ _ _ ((f.st k hk).vg s hs g q g7 g1 g2)
   ·subst q
    have gc':m.c=(w.seat k).k.id:=g1
    have hseat:zy8 m.c=k:=by rw[gc'];exact zbi (h.st k hk) (by omega)
    have fk:=f.st k hk
    refine .inr (.inl ⟨b4.symm,by show s.ses (zy8 m.c:Nat)=s'.ses k;rw[hseat,b6],Qr.new f.d0 f.d1 ?_ ?_⟩)
    ·rw[b10,hseat,zae]
     show w.clock+w.tv<=_
     rw[<- (f.sv s hs).1]
     exact zfc _ _
    ·show (w.seat k).k.asked+(w.seat k).k.vol<=(w.seat k).clock+short w.td w.tv
     have:=fk.ask
     rw[fk.vol]
     omega
  ·exact fun k hk x hx=>cl _ _ _ _ _ _ hk (fun q=>(f.st k hk).lb.2 s hs q) ((f.st k hk).ck x hx).2.2
  ·exact fun k hk x hx=>cl _ _ _ _ _ _ hk (hpb hk (hx.sub n5)) ((f.st k hk).cp x (hx.sub n5))
 | drop o m ho hd hm hk h0 hc he hv=>
  have hac:=f.ac s hs m hm hk he (by rw[hv,h0];simp)
  have lv:∀ (k:Nat) e ss x,Lv w s k e ss x->Lv (w.served (s.dropped (zy8 m.c) o)) (s.dropped (zy8 m.c) o) k e ss x:=fun k e ss x q=>q.step f.d0 f.d1 rfl rfl (.inl ⟨rfl,Int.le_refl _⟩)
  have cl:∀ (k o':Nat) v u e ss,k<w.n->o'<8->(k=zy8 m.c->o'≠o)->(e=s.epoch->ss<=s.ses k)->Cl w L k o' v u e ss->Cl (w.served (s.dropped (zy8 m.c) o)) L k o' v u e ss:=fun k o' v u e ss hkn ho' hne hb q=>by
   refine q.step hs rfl (by show (logL s.rs).vv o'=_;rw[hrs]) (fun g hg _ _=>.inl hg) hb (.inl rfl) fun _ _ _ _ p1 p2=>?_
   have hnk:kk (k:Int) (o':Int)≠kk (zy8 m.c:Nat) o:=fun e=>by
    have:=zd3 (by omega) (zbd _) ho' ho e
    exact hne this.1 this.2
   show has (s.D.del (kk (zy8 m.c:Nat) o)) (kk k o')=true/\Qr _ _ _ _ (lentB (s.D.del (kk (zy8 m.c:Nat) o)) k o') u
   rw[has_del_other hnk,zct hnk]
   exact⟨p1,p2⟩
  refine f.serve h hs h' rfl rfl ((f.sv s hs).2.2.del _) rfl (fun _=>Int.le_refl _) (fun _=>Int.le_refl _) (fun m hm=>.inl hm) (fun _ _ q=>q) (fun _ _ _ hm=>.inl hm) ?_ ?_ ?_ ?_
  ·exact fun k hk=>lv _ _ _ _ ((f.st k hk).vk s hs)
  ·exact fun k hk g hg g7 g1 g2=>lv _ _ _ _ ((f.st k hk).vg s hs g hg g7 g1 g2)
  ·intro k hkn x hx
   have hx8:=(f.st k hkn).ck x hx
   refine cl _ _ _ _ _ _ hkn (by omega) (fun ek eo=>?_) (fun q=>(f.st k hkn).lb.2 s hs q) hx8.2.2
   subst ek
   exact(hac.2 hkn).1 x hx (by omega)
  ·intro k hkn x hx
   obtain⟨⟨g,hg,g1,g2,_⟩,_⟩:=(h.msg x hx.mem).va hx.k5
   have hcob:=zcb h hkn hx.o hg (g1.trans hx.c) (g2.trans hx.n)
   refine cl _ _ _ _ _ _ hkn (by omega) (fun ek eo=>?_) (hpb hkn hx) ((f.st k hkn).cp x hx)
   subst ek
   exact(hac.2 hkn).2 (by omega) x hx
 | value o m ho hd hm hk h0 hc=>
  obtain⟨s',hs'⟩:∃ s',s'=s.lent m o w.clock:=⟨_,rfl⟩
  rw[<- hs'] at h' ⊢
  have b:s'.tv=s.tv/\s'.to=s.to/\s'.epoch=s.epoch/\s'.ready=s.ready/\s'.ses=s.ses/\s'.vv=s.vv/\s'.zzf=s.zzf/\s'.rs=s.rs/\s'.vol=s.vol/\s'.D=(if (s.zzf o).length=0 then s.D.put (kk (zy8 m.c:Nat) o) (Lease.num (mx (lentB s.D (zy8 m.c:Nat) o) (w.clock+s.to))) else s.D):=by
   rw[hs'];unfold Sv.lent;split<;>exact⟨rfl,rfl,rfl,rfl,rfl,rfl,rfl,rfl,rfl,rfl⟩
  obtain⟨b1,b2,b4,b5,b6,b7,b8,b9,b10,b3⟩:=b
  have hDok:DOk s'.D:=by
   rw[b3];split
   ·exact(f.sv s hs).2.2.put _ _ _
   ·exact(f.sv s hs).2.2
  have n7:∀ x∈L++[s.valueM m o],x.k=7->x∈L:=fun x hx q=>(zay hx).elim id fun p=>by subst p;exact absurd ((rfl:(5:Int)=_).trans q) (by decide)
  have lv:∀ (k:Nat) e ss x,Lv w s k e ss x->Lv (w.served s') s' k e ss x:=fun k e ss x q=>q.step f.d0 f.d1 b4 b5 (.inl ⟨by rw[b6],by rw[b10];exact Int.le_refl _⟩)
  have cl:∀ (k o':Nat) v u e ss,k<w.n->o'<8->(e=s.epoch->ss<=s.ses k)->Cl w L k o' v u e ss->Cl (w.served s') (L++[s.valueM m o]) k o' v u e ss:=fun k o' v u e ss hkn ho' hb q=>by
   refine q.step hs b4 (by rw[b9,hrs]) (fun g hg g7 _=>.inl (n7 g hg g7)) hb (.inl (by rw[b6])) fun _ _ _ _ p1 p2=>?_
   rw[b3]
   split
   ·by_cases e:kk (k:Int) (o':Int)=kk (zy8 m.c:Nat) o
    ·obtain⟨e1,e2⟩:=zd3 (by omega) (zbd _) ho' ho e
     subst e1 e2
     rw[has_put_same (f.sv s hs).2.2.tidy.isMap (Lease.ze5 _ _),zk5 (f.sv s hs).2.2]
     exact⟨rfl,p2.more f.d1 (zd2 _ _)⟩
    ·rw[has_put_other e,zel e]
     exact⟨p1,p2⟩
   ·exact⟨p1,p2⟩
  have hnew:∀ k,k<w.n->∀ x,Pend w (L++[s.valueM m o]) k x->Pend w L k x\/(x=s.valueM m o/\s.zzf o = []/\(w.seat k).k.cob=o/\zy8 m.c=k):=fun k hkn x hx=>by
   rcases zay hx.mem with q|q
   ·exact .inl ⟨q,hx.k5,hx.l,hx.c,hx.n,hx.o,hx.cm⟩
   ·subst q
    refine .inr ⟨rfl,?_,?_,?_⟩
    ·have hl:decide ((s.zzf o).length=0)=true:=hx.l
     have:=of_decide_eq_true hl
     exact List.length_eq_zero_iff.1 this
    ·obtain⟨g,hg,g1,g2,g3,g4⟩:=(h.msg m hm).rd hk
     have:=zcb h hkn hx.o hg (g1.trans hx.c) (g2.trans hx.n)
     omega
    ·have gc:m.c=(w.seat k).k.id:=hx.c
     rw[gc];exact zbi (h.st k hkn) (by omega)
  refine f.serve h hs h' b1 b2 hDok b4 (fun _=>by rw[b7];exact Int.le_refl _) (fun k=>by rw[b6];exact Int.le_refl _) (fun x hx=>(zay hx).imp id fun q=>?_) (fun _ _ q=>by rw[b8];exact q) (fun k hkn x hx=>(hnew k hkn x hx).imp id fun q=>by rw[q.2.2.1];simpa using q.2.1) ?_ ?_ ?_ ?_
  ·subst q
   exact⟨⟨by show ¬ (5:Int)=3;decide,by show ¬ (5:Int)=4;decide⟩,fun _=>⟨b4.symm,by rw[b6];rfl⟩,fun q=>absurd ((rfl:(5:Int)=_).trans q) (by decide),fun q=>absurd q (by show ¬ ((5:Int)=7\/(5:Int)=8);decide)⟩
  ·exact fun k hk=>lv _ _ _ _ ((f.st k hk).vk s hs)
  ·exact fun k hk g hg g7 g1 g2=>lv _ _ _ _ ((f.st k hk).vg s hs g (n7 g hg g7) g7 g1 g2)
  ·exact fun k hk x hx=>cl _ _ _ _ _ _ hk (by have:=(f.st k hk).ck x hx;omega) (fun q=>(f.st k hk).lb.2 s hs q) ((f.st k hk).ck x hx).2.2
  ·intro k hkn x hx
   rcases hnew k hkn x hx with q|⟨q1,q2,q3,q4⟩
   ·obtain⟨⟨g,hg,g1,g2,_⟩,_⟩:=(h.msg x q.mem).va q.k5
    have hcob:=zcb h hkn q.o hg (g1.trans q.c) (g2.trans q.n)
    exact cl _ _ _ _ _ _ hkn (by omega) (hpb hkn q) ((f.st k hkn).cp x q)
   ·have fk:=f.st k hkn
    have ec:(w.seat k).k.cob.toNat=o:=by omega
    rw[q1,ec]
    refine .inr (.inr ⟨?_,fun y hy _ _=>?_⟩)
    ·show s.vv o=(logL s'.rs).vv o
     rw[b9]
     exact congrFun (congrArg L4.vv hi.l4) o
    ·have ey:s'=y:=Option.some.inj hy
     rw[<- ey,b3,if_pos (by rw[q2];rfl),q4,has_put_same (f.sv s hs).2.2.tidy.isMap (Lease.ze5 _ _),zk5 (f.sv s hs).2.2]
     refine⟨rfl,Qr.new f.d0 f.d1 ?_ ?_⟩
     ·show w.clock+w.to<=_
      rw[<- (f.sv s hs).2.1]
      exact zfc _ _
     ·show (w.seat k).k.sent+(w.seat k).k.obj<=(w.seat k).clock+short w.td w.to
      have:=fk.snt
      rw[fk.obj]
      omega
 | commit o m rest ho hd hw hr hh ok=>
  rcases zei s m o hd (by rw[hrs];omega) with e|e
  ·obtain⟨k1,k2,k3,k4,k5,k6,_,_⟩:=zar s m o
   obtain⟨t1,t2⟩:=zd0 s m o
   have hvv0:(s.commit m o).1.vv=zy9 s.vv o (s.vv o+1):=by
    rw[e]
    have hro:¬ (s.recd m o).o<0:=by show ¬ (o:Int)<0;omega
    have:=(zbv { s with rs:=s.rs++[s.recd m o],left:=if s.fails=true then s.left-1 else s.left } (s.recd m o) hro).2.2.2.1
    rw[this]
    show zy9 s.vv ((o:Int)).toNat (s.vv o+1)=_
    simp
   obtain⟨s',hs'⟩:∃ s',s' = { (s.commit m o).1 with zzf:=zy9 (s.commit m o).1.zzf o rest }:=⟨_,rfl⟩
   rw[<- hs'] at h' ⊢
   have b:s'.tv=s.tv/\s'.to=s.to/\s'.epoch=s.epoch/\s'.ready=s.ready/\s'.ses=s.ses/\s'.vv=zy9 s.vv o (s.vv o+1)/\s'.zzf=zy9 s.zzf o rest/\s'.vol=s.vol/\s'.D=s.D:=by
    rw[hs'];exact⟨t2,t1,k4,k3,k2,hvv0,by show zy9 (s.commit m o).1.zzf o rest=_;rw[k1],k5,k6⟩
   obtain⟨b1,b2,b4,b5,b6,b7,b8,b10,b3⟩:=b
   have eV:(logL s'.rs).vv=s'.vv:=(congrArg L4.vv h'.l4).symm
   have eV0:(logL w.rs).vv=s.vv:=by rw[<- hrs];exact(congrArg L4.vv hi.l4).symm
   obtain⟨x0,hx0⟩:∃ x0,x0=s'.doneM m (s.commit m o).2.1:=⟨_,rfl⟩
   rw[<- hx0]
   have x6:x0.k=6:=by rw[hx0];rfl
   have n5:∀ x∈L++[x0],x.k=5->x∈L:=fun x hx q=>(zay hx).elim id fun p=>by rw[p,x6] at q;exact absurd q (by decide)
   have n7:∀ x∈L++[x0],x.k=7->x∈L:=fun x hx q=>(zay hx).elim id fun p=>by rw[p,x6] at q;exact absurd q (by decide)
   have lv:∀ (k:Nat) e ss x,Lv w s k e ss x->Lv (w.served s') s' k e ss x:=fun k e ss x q=>q.step f.d0 f.d1 b4 b5 (.inl ⟨by rw[b6],by rw[b10];exact Int.le_refl _⟩)
   have cl:∀ (k o':Nat) v u ee ss,k<w.n->o'<8->(ee=s.epoch->ss<=s.ses k)->Cl w L k o' v u ee ss->Cl (w.served s') (L++[x0]) k o' v u ee ss:=fun k o' v u ee ss hkn ho' hb q=>by
    by_cases eo:o'=o
    ·subst eo
     rcases q with q|⟨q1,q2⟩|⟨q1,q2⟩
     ·exact .inl q
     ·exact .inr (.inl ⟨q1.grow rfl fun g hg g7 _ _ _=>n7 g hg g7,fun y hy=>by
       have ey:s'=y:=Option.some.inj hy
       rw[<- ey,b4,b6];exact q2 s hs⟩)
     ·by_cases hcur:ee=s.epoch/\ss=s.ses k
      ·obtain⟨p1,p2⟩:=q2 s hs hcur.1 hcur.2
       have hno:=hh k (by omega)
       have:¬ w.clock<lentB s.D k o':=fun hlt=>by
        rw[(zx4 (f.sv s hs).2.2).2 ⟨p1,hlt⟩] at hno
        cases hno
       exact .inl (p2.over f.d0 f.d1 (by omega))
      ·have dead:∀ x,Lv w s k ee ss x->x<=(w.seat k).clock:=fun x hx=>by
        rcases hx with hx|⟨hx1,hx2,_⟩|⟨_,hx2⟩
        ·exact hx
        ·exact absurd ⟨hx1,hx2⟩ hcur
        ·exact hx2.over f.d0 f.d1 hr
       refine .inr (.inl ⟨⟨fun c1 c2=>?_,fun g hg g7 g1 g2 g3 g4=>?_⟩,fun y hy=>?_⟩)
       ·have:=(f.st k hkn).vk s hs
        rw[show (w.seat k).k.ep=ee from c1,show (w.seat k).k.ses=ss from c2] at this
        exact dead _ this
       ·have:=(f.st k hkn).vg s hs g (n7 g hg g7) g7 g1 g2
        rw[g3,g4] at this
        exact dead _ this
       ·have ey:s'=y:=Option.some.inj hy
        rw[<- ey,b4,b6];exact hcur
    ·exact q.step hs b4 (by rw[eV,eV0,b7,zag _ _ eo]) (fun g hg g7 _=>.inl (n7 g hg g7)) hb (.inl (by rw[b6])) fun _ _ _ _ p1 p2=>by rw[b3];exact⟨p1,p2⟩
   refine f.serve h hs h' b1 b2 (by rw[b3];exact(f.sv s hs).2.2) b4 (fun x=>?_) (fun k=>by rw[b6];exact Int.le_refl _) (fun x hx=>(zay hx).imp id fun q=>?_) (fun x q1 q2=>?_) (fun _ _ _ hm=>.inl (hm.sub n5)) ?_ ?_ ?_ ?_
   ·rw[b7];unfold zy9;split
    ·rename_i q;subst q;omega
    ·exact Int.le_refl _
   ·subst q
    refine⟨⟨by rw[x6];decide,by rw[x6];decide⟩,fun q=>?_,fun q=>?_,fun q=>?_⟩
    ·rw[x6] at q;exact absurd q (by decide)
    ·rw[x6] at q;exact absurd q (by decide)
    ·rw[x6] at q;exact absurd q (by decide)
   ·rw[b7] at q1
    have hne:x≠o:=fun q=>by subst q;rw[zaa] at q1;omega
    rw[b8,zag _ _ hne];exact q2
   ·exact fun k hk=>lv _ _ _ _ ((f.st k hk).vk s hs)
   ·exact fun k hk g hg g7 g1 g2=>lv _ _ _ _ ((f.st k hk).vg s hs g (n7 g hg g7) g7 g1 g2)
   ·exact fun k hk x hx=>cl _ _ _ _ _ _ hk (by have:=(f.st k hk).ck x hx;omega) (fun q=>(f.st k hk).lb.2 s hs q) ((f.st k hk).ck x hx).2.2
   ·intro k hk x hx
    have hx':=hx.sub n5
    obtain⟨⟨g,hg,g1,g2,_⟩,_⟩:=(h.msg x hx'.mem).va hx'.k5
    have hcob:=zcb h hk hx'.o hg (g1.trans hx'.c) (g2.trans hx'.n)
    exact cl _ _ _ _ _ _ hk (by omega) (hpb hk hx') ((f.st k hk).cp x hx')
  ·rw[e] at ok;cases ok
end Wld
end
end Go.Proofs.YtbebfliimjjohabGreatDoor
