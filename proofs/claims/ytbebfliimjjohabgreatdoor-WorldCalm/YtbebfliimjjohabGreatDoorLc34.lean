/- Parts of the proof. -/
import Derived.Test.YtbebfliimjjohabGreatDoorLc33
set_option maxRecDepth 100000
set_option maxHeartbeats 8000000
namespace Go.Proofs.YtbebfliimjjohabGreatDoor
section
namespace Wld
open Go.RowKit Go.Maps
open Lease (upd zae zad hol dels mx kk isH)
open Wal (R mayB timeB)
open Num (M okB)
def IsVal(rs:List R)(o v:Int)(d:ByteArray):Prop:=(v=0/\d=⟨#[]⟩)\/∃ r∈rs,0<=r.o/\r.o=o/\r.v=v/\r.d=d
theorem IsVal.mono{rs rs':List R}{o v:Int}{d:ByteArray}(h:IsVal rs o v d)(hr:∀ r∈rs,r∈rs'):IsVal rs' o v d:=h.imp id fun ⟨r,k,q⟩=>⟨r,hr r k,q⟩
theorem IsVal.le{H:List Hc}{rs:List R}{x:L4}(hl:LogIs H rs x){o v:Int}{d:ByteArray}(h:IsVal rs o v d):0<=v/\v<=x.vv o.toNat:=by
 rcases h with h|⟨r,hr,h0,e1,e2,_⟩
 ·have:=hl.vv0 o.toNat;omega
 ·have:=hl.ver r hr h0
  rw[e1,e2] at this
  omega
structure MsgOk(H:List Hc)(rs:List R)(m:M):Prop where
 rd:m.k=1->∃ h∈H,h.c=m.c/\h.n=m.n/\h.kd=1/\h.o=m.o
 wr:m.k=2->∃ h∈H,h.c=m.c/\h.n=m.n/\h.kd=2/\h.o=m.o/\h.d=m.d
 va:m.k=5->(∃ h∈H,h.c=m.c/\h.n=m.n/\h.kd=1/\h.o=m.o/\h.lo<=m.v)/\IsVal rs m.o m.v m.d
 dn:m.k=6->∃ r∈rs,0<=r.o/\r.c=m.c/\r.n=m.n/\r.v=m.v
 iv:m.k=9->0<=m.c/\m.c<4
theorem MsgOk.mono{H H':List Hc}{rs rs':List R}{m:M}(h:MsgOk H rs m)(hH:∀ g∈H,g∈H')(hr:∀ r∈rs,r∈rs'):MsgOk H' rs' m:=
 ⟨fun k=>(h.rd k).imp fun g q=>⟨hH g q.1,q.2⟩,fun k=>(h.wr k).imp fun g q=>⟨hH g q.1,q.2⟩,fun k=>⟨(h.va k).1.imp fun g q=>⟨hH g q.1,q.2⟩,(h.va k).2.mono hr⟩,fun k=>(h.dn k).imp fun r q=>⟨hr r q.1,q.2⟩,h.iv⟩
theorem MsgOk.other{H:List Hc}{rs:List R}{m:M}(a:Int)(e:m.k=a)(h:¬ (a=1\/a=2\/a=5\/a=6))(hi:a=9->0<=m.c/\m.c<4):MsgOk H rs m:=⟨fun k=>by omega,fun k=>by omega,fun k=>by omega,fun k=>by omega,fun k=>hi (by omega)⟩
structure SvInv(H:List Hc)(s:Sv):Prop where
 l4:s.l4=logL s.rs
 wg:∀ o m,m∈s.zzf o->o<8/\0<=m.c/\∃ h∈H,h.c=m.c/\h.n=m.n/\h.kd=2/\h.o=o/\h.d=m.d
 wn:∀ o m,m∈s.zzf o->∀ r∈s.rs,0<=r.o->¬ (r.c=m.c/\r.n=m.n)
 wd:∀ o,(s.zzf o).Pairwise fun a b=>¬ (a.c=b.c/\a.n=b.n)
theorem SvInv.same{H:List Hc}{s s':Sv}(h:SvInv H s)(h1:s'.l4=s.l4)(h2:s'.rs=s.rs)(h3:s'.zzf=s.zzf):SvInv H s':=⟨by rw[h1,h2];exact h.l4,by rw[h3];exact h.wg,by rw[h2,h3];exact h.wn,by rw[h3];exact h.wd⟩
theorem SvInv.mono{H H':List Hc}{s:Sv}(h:SvInv H s)(hH:∀ g∈H,g∈H'):SvInv H' s:=⟨h.l4,fun o m hm=>⟨(h.wg o m hm).1,(h.wg o m hm).2.1,(h.wg o m hm).2.2.imp fun g q=>⟨hH g q.1,q.2⟩⟩,h.wn,h.wd⟩
structure EvH(n:Nat)(e:Ev)(h:Hc):Prop where
 c:h.c=e.life*4+e.client
 kd:h.kd=e.kind
 o:h.o=e.obj
 d:e.kind=2->h.d=e.d
 c0:0<=e.client
 c4:e.client<n
 kk:e.kind=1\/e.kind=2
 o0:0<=e.obj
 o8:e.obj<8
 l0:0<=e.life
structure AnsOk(evs:List Ev)(rs:List R)(e:Ev)(h:Hc):Prop where
 rd:e.kind=1->IsVal rs e.obj e.ver e.d/\(0<e.ver->∃ x∈evs,x.kind=2/\x.obj=e.obj/\x.d=e.d/\x.began<=e.ended)
 wr:e.kind=2->∃ r∈rs,0<=r.o/\r.c=h.c/\r.n=h.n/\r.v=e.ver
structure SeatI(w:Wd)(H:List Hc)(k:Nat):Prop where
 id:(w.seat k).k.id=(w.seat k).life*4+k
 l0:0<=(w.seat k).life
 n0:0<=(w.seat k).k.num
 num:∀ h∈H,h.c=(w.seat k).k.id->h.n<=(w.seat k).k.num
 liv:∀ h∈H,zy8 h.c=k->h.c<=(w.seat k).k.id
 opn:0<=(w.seat k).call->∃ e h,w.events[(w.seat k).call.toNat]?=some e/\H[(w.seat k).call.toNat]?=some h/\h.c=(w.seat k).k.id/\h.n=(w.seat k).k.num/\h.kd=(w.seat k).k.kind/\h.o=(w.seat k).k.cob/\(h.kd=2->h.d=(w.seat k).k.d)/\e.ended=0
 isO:(w.seat k).k.zy2=decide (0<=(w.seat k).call)
 kept:∀ x∈(w.seat k).k.kept,IsVal w.rs x.o x.v x.d
 seen:∀ e∈w.events,e.client=k->e.life=(w.seat k).life->e.ended≠0->e.ver<=(w.seat k).k.seen e.obj
structure Inv(w:Wd)(H:List Hc)(L:List M)(B:Nat):Prop where
 n4:w.n<=4
 len:H.length=w.events.length
 eh:∀ (i:Nat) e h,w.events[i]?=some e->H[i]?=some h->EvH w.n e h
 an:∀ (i:Nat) e h,w.events[i]?=some e->H[i]?=some h->e.ended≠0->AnsOk w.events w.rs e h
 bg:∀ e∈w.events,0<e.began/\e.began<=w.step/\0<=e.ended/\e.ended<=w.step
 mo:∀ (i j:Nat) e x,i<j->w.events[i]?=some e->w.events[j]?=some x->e.kind=1->x.kind=1->e.client=x.client->e.life=x.life->e.obj=x.obj->e.ended≠0->x.ended≠0->e.ver<=x.ver
 bef:∀ e∈w.events,e.ended≠0->∀ (j:Nat) x h,w.events[j]?=some x->H[j]?=some h->e.obj=x.obj->e.ended<x.began->e.ver<=h.lo
 lol:∀ h∈H,h.lo<=(logL w.rs).vv h.o.toNat
 hs:H.Pairwise fun a b=>a.c=b.c->a.n<b.n
 hd:H.Pairwise fun a b=>a.kd=2->b.kd=2->a.d≠b.d
 hne:∀ h∈H,h.kd=2->h.d≠⟨#[]⟩
 n1:∀ h∈H,0<h.n
 net:∀ p∈w.net,p.2∈L/\(p.2.k=9->p.1=p.2.c)
 msg:∀ m∈L,MsgOk H w.rs m
 sv:∀ s,w.sv=some s->SvInv H s/\s.rs=w.rs
 log:LogIs H w.rs (logL w.rs)
 epc:(w.rs.filter fun r=>decide (r.o<0)).length<=B
 st:∀ k,k<w.n->SeatI w H k
theorem zcg{H:List Hc}(h:H.Pairwise fun a b=>¬ (a.c=b.c/\a.n=b.n)){a b:Hc}(ha:a∈H)(hb:b∈H)(e:a.c=b.c/\a.n=b.n):a=b:=by
 induction H with
 | nil=>cases ha
 | cons x H ih=>
  obtain⟨h1,h2⟩:=List.pairwise_cons.1 h
  rcases List.mem_cons.1 ha with p|p<;>rcases List.mem_cons.1 hb with q|q
  ·rw[p,q]
  ·subst p;exact absurd e (h1 b q)
  ·subst q;exact absurd ⟨e.1.symm,e.2.symm⟩ (h1 a p)
  ·exact ih h2 p q
theorem zqw(rs:List R):rs.length=(rs.filter fun r=>decide (0<=r.o)).length+(rs.filter fun r=>decide (r.o<0)).length:=by
 induction rs with
 | nil=>rfl
 | cons r rs ih=>
  rw[List.filter_cons,List.filter_cons]
  by_cases h:r.o<0
  ·rw[if_neg (by simpa using h),if_pos (by simpa using h)];simp;omega
  ·rw[if_pos (by simp;omega),if_neg (by simpa using h)];simp;omega
theorem Inv.hu{w:Wd}{H:List Hc}{L:List M}{B:Nat}(h:Inv w H L B):H.Pairwise fun a b=>¬ (a.c=b.c/\a.n=b.n):=h.hs.imp fun k q=>by have:=k q.1;omega
theorem Inv.room{w:Wd}{H:List Hc}{L:List M}{B:Nat}(h:Inv w H L B):w.rs.length<=H.length+B:=by
 have:=zqw w.rs
 have:=h.log.count
 have:=h.epc
 omega
theorem AnsOk.mono{evs evs':List Ev}{rs rs':List R}{e:Ev}{h:Hc}(k:AnsOk evs rs e h)(he:∀ x∈evs,x.kind=2->∃ y∈evs',y.kind=2/\y.obj=x.obj/\y.d=x.d/\y.began=x.began)(hr:∀ r∈rs,r∈rs'):AnsOk evs' rs' e h:=
 ⟨fun q=>⟨(k.rd q).1.mono hr,fun p=>by
  obtain⟨x,hx,h1,h2,h3,h4⟩:=(k.rd q).2 p
  obtain⟨y,hy,g1,g2,g3,g4⟩:=he x hx h1
  exact⟨y,hy,g1,g2.trans h2,g3.trans h3,by omega⟩⟩,fun q=>(k.wr q).imp fun r p=>⟨hr r p.1,p.2⟩⟩
theorem Inv.serve{w:Wd}{H:List Hc}{L:List M}{B:Nat}(h:Inv w H L B){s':Sv}{L':List M}{B':Nat}(hr:∀ r∈w.rs,r∈s'.rs)(hv:∀ o,(logL w.rs).vv o<=(logL s'.rs).vv o)(hs:SvInv H s')(hl:LogIs H s'.rs (logL s'.rs))(hB:(s'.rs.filter fun r=>decide (r.o<0)).length<=B')(h1:∀ m∈L,m∈L')(h2:∀ m∈L',m∈L\/MsgOk H s'.rs m):Inv (w.served s') H L' B':=
 ⟨h.n4,h.len,h.eh,fun i e g he hg hn=>(h.an i e g he hg hn).mono (fun x hx k=>⟨x,hx,k,rfl,rfl,rfl⟩) hr,h.bg,h.mo,h.bef,fun g hg=>Int.le_trans (h.lol g hg) (hv _),h.hs,h.hd,h.hne,h.n1,
  fun p hp=>⟨h1 _ (h.net p hp).1,(h.net p hp).2⟩,fun m hm=>(h2 m hm).elim (fun q=>(h.msg m q).mono (fun _ q=>q) hr) id,fun v hv=>by
   have e:s'=v:=Option.some.inj hv
   subst e
   exact⟨hs,rfl⟩,hl,hB,fun k hk=>⟨(h.st k hk).id,(h.st k hk).l0,(h.st k hk).n0,(h.st k hk).num,(h.st k hk).liv,(h.st k hk).opn,(h.st k hk).isO,fun x hx=>((h.st k hk).kept x hx).mono hr,(h.st k hk).seen⟩⟩
theorem zay{L:List M}{x m:M}(h:m∈L++[x]):m∈L\/m=x:=(List.mem_append.1 h).imp id fun k=>List.mem_singleton.1 k
theorem Inv.still{w:Wd}{H:List Hc}{L:List M}{B:Nat}(h:Inv w H L B){s s':Sv}(hs:w.sv=some s){L':List M}(e1:s'.l4=s.l4)(e2:s'.rs=s.rs)(e3:s'.zzf=s.zzf)(h1:∀ m∈L,m∈L')(h2:∀ m∈L',m∈L\/MsgOk H w.rs m):Inv (w.served s') H L' B:=by
 obtain⟨k1,k2⟩:=h.sv s hs
 have er:s'.rs=w.rs:=e2.trans k2
 exact h.serve (fun r hr=>by rw[er];exact hr) (fun o=>by rw[er];exact Int.le_refl _) (k1.same e1 e2 e3) (by rw[er];exact h.log) (by rw[er];exact h.epc) h1 (fun m hm=>by rw[er];exact h2 m hm)
theorem zei(s:Sv)(m:M)(o:Nat)(hd:s.down=false)(hl:s.rs.length<200) :
  (s.commit m o=(Sv.zy4 { s with rs:=s.rs++[s.recd m o],left:=if s.fails=true then s.left-1 else s.left } (s.recd m o),s.vv o+1,true))\/(s.commit m o=({ s with down:=true },0,false)):=by
 have ha:s.add (s.recd m o)=if s.fails=true/\s.left=0 then ({ s with down:=true },14) else ({ s with rs:=s.rs++[s.recd m o],left:=if s.fails=true then s.left-1 else s.left },0):=by
  unfold Sv.add
  rw[if_neg (by rw[hd];decide),if_neg (by omega)]
 unfold Sv.commit
 rw[ha]
 by_cases h:s.fails=true/\s.left=0
 ·right;rw[if_pos h,if_neg (show ¬ (14:Int)=0 by decide)];rfl
 ·left;rw[if_neg h,if_pos rfl]
theorem Inv.s1{w:Wd}{H:List Hc}{L:List M}{B:Nat}(h:Inv w H L B)(hB:H.length+B<200){s s':Sv}{L':List M}(hs:w.sv=some s)(k:S1 w.clock s L s' L'):Inv (w.served s') H L' B:=by
 obtain⟨hi,hrs⟩:=h.sv s hs
 have hroom:=h.room
 cases k with
 | flush c hc hv=>exact h.still hs rfl rfl rfl (fun _ q=>q) (fun _ q=>.inl q)
 | value o m ho hd hm hk h0 hc=>
  have hvv:s.vv=(logL s.rs).vv:=congrArg L4.vv hi.l4
  have hvd:s.vd=(logL s.rs).vd:=congrArg L4.vd hi.l4
  have e:(s.lent m o w.clock).l4=s.l4/\(s.lent m o w.clock).rs=s.rs/\(s.lent m o w.clock).zzf=s.zzf:=by unfold Sv.lent;split<;>exact⟨rfl,rfl,rfl⟩
  refine h.still hs e.1 e.2.1 e.2.2 (fun _ q=>List.mem_append_left _ q) (fun x hx=>(zay hx).imp id fun q=>?_)
  subst q
  obtain⟨g,hg,g1,g2,g3,g4⟩:=(h.msg m hm).rd hk
  refine⟨fun q=>absurd ((rfl:(5:Int)=_).trans q) (by decide),fun q=>absurd ((rfl:(5:Int)=_).trans q) (by decide),fun _=>⟨⟨g,hg,g1,g2,g3,g4.trans h0,?_⟩,?_⟩,fun q=>absurd ((rfl:(5:Int)=_).trans q) (by decide),fun q=>absurd ((rfl:(5:Int)=_).trans q) (by decide)⟩
  ·show g.lo<=s.vv o
   have:=h.lol g hg
   rw[g4,h0,<- hrs,<- hvv] at this
   simpa using this
  ·show IsVal w.rs o (s.vv o) (s.vd o)
   rw[hvv,hvd,hrs]
   exact(h.log.cur o).imp id fun ⟨r,hr,q⟩=>⟨r,hr,by omega,q⟩
 | grant m hd hm hk hc he hss=>exact h.still hs rfl rfl rfl (fun _ q=>List.mem_append_left _ q) (fun x hx=>(zay hx).imp id fun q=>by subst q;exact .other 7 rfl (by decide) (fun q=>absurd q (by decide)))
 | flushM m hd hm hk hc he=>exact h.still hs rfl rfl rfl (fun _ q=>List.mem_append_left _ q) (fun x hx=>(zay hx).imp id fun q=>by subst q;exact .other 8 rfl (by decide) (fun q=>absurd q (by decide)))
 | inval c o hc ho hd hw=>exact h.still hs rfl rfl rfl (fun _ q=>List.mem_append_left _ q) (fun x hx=>(zay hx).imp id fun q=>by subst q;exact .other 9 rfl (by decide) fun _=>⟨by show (0:Int)<=c;omega,by show (c:Int)<4;omega⟩)
 | drop o m ho hd hm hk h0 hc he hv=>exact h.still hs rfl rfl rfl (fun _ q=>q) (fun _ q=>.inl q)
 | redone m hd hm hk h0 h8 hc h1 h2=>
  refine h.still hs rfl rfl rfl (fun _ q=>List.mem_append_left _ q) (fun x hx=>(zay hx).imp id fun q=>?_)
  subst q
  have hla:s.last=(logL w.rs).last:=by rw[<- hrs];exact congrArg L4.last hi.l4
  refine⟨fun q=>absurd ((rfl:(6:Int)=_).trans q) (by decide),fun q=>absurd ((rfl:(6:Int)=_).trans q) (by decide),fun q=>absurd ((rfl:(6:Int)=_).trans q) (by decide),fun _=>?_,fun q=>absurd ((rfl:(6:Int)=_).trans q) (by decide)⟩
  rcases h.log.lin (zy8 m.c) with e|⟨e,e0⟩
  ·exfalso
   obtain⟨g,hg,g1,g2,g3,_⟩:=(h.msg m hm).wr hk
   rw[hla,e] at h1 h2
   have:=h.n1 g hg
   have h2':m.n=0:=h2
   omega
  ·exact⟨_,e,e0,by rw[<- hla];exact h1.symm,by rw[<- hla];exact h2.symm,by rw[<- hla];rfl⟩
 | fall o m rest ho hd hw ok=>
  rcases zei s m o hd (by rw[hrs];omega) with e|e
  ·rw[e] at ok;cases ok
  ·rw[e];exact h.still hs rfl rfl rfl (fun _ q=>q) (fun _ q=>.inl q)
 | enq o m ho hd hm hk h0 hc hl hsame h10=>
  refine h.serve (fun r hr=>by show r∈s.rs;rw[hrs];exact hr) (fun o=>by show _<=(logL s.rs).vv o;rw[hrs];exact Int.le_refl _) ?_ (by show LogIs H s.rs (logL s.rs);rw[hrs];exact h.log) (by show (s.rs.filter _).length<=B;rw[hrs];exact h.epc) (fun _ q=>q) (fun _ q=>.inl q)
  obtain⟨g,hg,g1,g2,g3,g4,g5⟩:=(h.msg m hm).wr hk
  have cases_mem:∀ (x:Nat) (y:M),y∈zy9 s.zzf o (s.zzf o++[m]) x->y∈s.zzf x\/(x=o/\y=m):=fun x y hy=>by
   unfold zy9 at hy
   split at hy
   ·rename_i e;subst e;exact(zay hy).imp id fun q=>⟨rfl,q⟩
   ·exact .inl hy
  have hnew:∀ r∈s.rs,0<=r.o->¬ (r.c=m.c/\r.n=m.n):=fun r hr r0 ⟨e1,e2⟩=>by
   have h3:=h.log.las r (by rw[<- hrs];exact hr) r0
   have hla:s.last=(logL w.rs).last:=by rw[<- hrs];exact congrArg L4.last hi.l4
   rw[<- hla,e1,e2,hl] at h3
   cases h3
  refine⟨hi.l4,fun x y hy=>?_,fun x y hy=>?_,fun x=>?_⟩
  ·rcases cases_mem x y hy with q|⟨rfl,rfl⟩
   ·exact hi.wg x y q
   ·exact⟨ho,hc,g,hg,g1,g2,g3,g4.trans h0,g5⟩
  ·rcases cases_mem x y hy with q|⟨rfl,rfl⟩
   ·exact hi.wn x y q
   ·exact hnew
  ·show (zy9 s.zzf o (s.zzf o++[m]) x).Pairwise _
   unfold zy9
   split
   ·rename_i e
    rw[List.pairwise_append]
    refine⟨hi.wd o,by simp,fun a ha b hb ⟨e1,e2⟩=>?_⟩
    rw[List.mem_singleton.1 hb] at e1 e2
    have:=List.any_eq_false.1 hsame a ha
    simp[sameW,e1,e2] at this
   ·exact hi.wd x
 | commit o m rest ho hd hw hr hh ok=>
  rcases zei s m o hd (by rw[hrs];omega) with e|e
  ·rw[e]
   dsimp only
   have hro:¬ (s.recd m o).o<0:=by show ¬ (o:Int)<0;omega
   obtain⟨y,hy⟩:∃ y:Sv,y = { s with rs:=s.rs++[s.recd m o],left:=if s.fails=true then s.left-1 else s.left }:=⟨_,rfl⟩
   rw[<- hy]
   have y1:y.l4=s.l4:=by rw[hy];rfl
   have y2:y.rs=s.rs++[s.recd m o]:=by rw[hy]
   have y3:y.zzf=s.zzf:=by rw[hy]
   have z1:(y.zy4 (s.recd m o)).l4=logL (s.rs++[s.recd m o]):=by rw[applied_l4,y1,hi.l4,logL_app]
   have z2:(y.zy4 (s.recd m o)).rs=s.rs++[s.recd m o]:=(zbb _ _).trans y2
   have z3:(y.zy4 (s.recd m o)).zzf=s.zzf:=(zbv y (s.recd m o) hro).1.trans y3
   have hvv:s.vv=(logL s.rs).vv:=congrArg L4.vv hi.l4
   obtain⟨g1,g2,g,hg,g3,g4,g5,g6,g7⟩:=hi.wg o m (by rw[hw];simp)
   have hlo:g.lo<=(logL s.rs).vv o:=by
    have:=h.lol g hg
    rw[g6,<- hrs] at this
    simpa using this
   have hlog:LogIs H (s.rs++[s.recd m o]) (logL (s.rs++[s.recd m o])):=by
    rw[logL_app]
    have hl0:LogIs H s.rs (logL s.rs):=by rw[hrs];exact h.log
    exact hl0.more (r:=s.recd m o) (by omega) (by show (o:Int)<8;omega) (by show s.vv o+1=_;rw[hvv];rfl) (hl0.vv0 _) hg g3 g4 g5 g6 g7 hlo (fun a ha a0 q=>hi.wn o m (by rw[hw];simp) a ha a0 q)
   have hle:∀ x,(logL s.rs).vv x<=(logL (s.rs++[s.recd m o])).vv x:=fun x=>by
    rw[logL_app]
    have:((logL s.rs).app (s.recd m o)).vv=zy9 (logL s.rs).vv o (s.vv o+1):=by
     unfold L4.app;rw[if_neg hro];split<;>rfl
    rw[this,hvv]
    unfold zy9
    split
    ·rename_i q;subst q;omega
    ·exact Int.le_refl _
   have hin:∀ r∈w.rs,r∈s.rs++[s.recd m o]:=fun r hr=>List.mem_append_left _ (by rw[hrs];exact hr)
   refine h.serve (by show ∀ r∈w.rs,r∈(y.zy4 (s.recd m o)).rs;rw[z2];exact hin) (by show ∀ x,_<=(logL (y.zy4 (s.recd m o)).rs).vv x;rw[z2,<- hrs];exact hle) ?_ (by show LogIs H (y.zy4 (s.recd m o)).rs _;rw[z2];exact hlog) ?_ (fun _ q=>List.mem_append_left _ q) (fun x hx=>(zay hx).imp id fun q=>?_)
   ·rw[z3]
    have cases_mem:∀ (x:Nat) (b:M),b∈zy9 s.zzf o rest x->b∈s.zzf x/\(x=o->b∈rest):=fun x b hb=>by
     unfold zy9 at hb
     split at hb
     ·rename_i q;subst q;exact⟨by rw[hw];exact List.mem_cons_of_mem _ hb,fun _=>hb⟩
     ·rename_i q;exact⟨hb,fun q'=>absurd q' q⟩
    refine⟨by show (y.zy4 (s.recd m o)).l4=_;rw[z1];show _=logL (y.zy4 (s.recd m o)).rs;rw[z2],fun x b hb=>hi.wg x b (cases_mem x b hb).1,fun x b hb r hr r0=>?_,fun x=>?_⟩
    ·have hr':r∈(y.zy4 (s.recd m o)).rs:=hr
     rw[z2] at hr'
     rcases List.mem_append.1 hr' with q|q
     ·exact hi.wn x b (cases_mem x b hb).1 r q r0
     ·rw[List.mem_singleton.1 q]
      rintro⟨q1,q2⟩
      have q1':m.c=b.c:=q1
      have q2':m.n=b.n:=q2
      obtain⟨_,_,g',hg',f1,f2,f3,f4,_⟩:=hi.wg x b (cases_mem x b hb).1
      have eg:g=g':=zcg h.hu hg hg' ⟨by rw[g3,f1,q1'],by rw[g4,f2,q2']⟩
      have ex:x=o:=by subst eg;omega
      have hb2:=(cases_mem x b hb).2 ex
      have:=hi.wd o
      rw[hw] at this
      exact(List.pairwise_cons.1 this).1 b hb2 ⟨q1',q2'⟩
    ·show (zy9 s.zzf o rest x).Pairwise _
     unfold zy9
     split
     ·have:=hi.wd o
      rw[hw] at this
      exact(List.pairwise_cons.1 this).2
     ·exact hi.wd x
   ·show ((y.zy4 (s.recd m o)).rs.filter _).length<=B
    rw[z2,List.filter_append,hrs]
    have:([s.recd m o].filter fun r=>decide (r.o<0)) = []:=by rw[List.filter_cons,if_neg (by simpa using hro)];rfl
    rw[this,List.append_nil]
    exact h.epc
   ·subst q
    refine⟨fun q=>absurd ((rfl:(6:Int)=_).trans q) (by decide),fun q=>absurd ((rfl:(6:Int)=_).trans q) (by decide),fun q=>absurd ((rfl:(6:Int)=_).trans q) (by decide),fun _=>⟨s.recd m o,?_,by show (0:Int)<=o;omega,rfl,rfl,rfl⟩,fun q=>absurd ((rfl:(6:Int)=_).trans q) (by decide)⟩
    show s.recd m o∈(y.zy4 (s.recd m o)).rs
    rw[z2]
    simp
  ·rw[e] at ok;cases ok
theorem Inv.again{w:Wd}{H:List Hc}{L:List M}{B:Nat}(h:Inv w H L B){s:Sv}(hs:w.sv=some s):Inv (w.served s) H L B:=h.still hs rfl rfl rfl (fun _ q=>q) (fun _ q=>.inl q)
theorem Inv.ss{H:List Hc}{B:Nat}(hB:H.length+B<200){T:Int}{s s':Sv}{L L':List M}(k:Ss T s L s' L'):∀ {w:Wd},w.clock=T->Inv w H L B->w.sv=some s->Inv (w.served s') H L' B:=by
 induction k with
 | refl s L=>exact fun _ h hs=>h.again hs
 | head k1 _ ih=>
  intro w hT h hs
  subst hT
  exact ih (w:=w.served _) rfl (h.s1 hB hs k1) rfl
theorem Inv.netted{w:Wd}{H:List Hc}{L:List M}{B:Nat}(h:Inv w H L B){l:List (Int×M)}(hl:∀ p∈l,p.2∈L/\(p.2.k=9->p.1=p.2.c)):Inv { w with net:=l } H L B:=
 ⟨h.n4,h.len,h.eh,h.an,h.bg,h.mo,h.bef,h.lol,h.hs,h.hd,h.hne,h.n1,hl,h.msg,h.sv,h.log,h.epc,fun k hk=>⟨(h.st k hk).id,(h.st k hk).l0,(h.st k hk).n0,(h.st k hk).num,(h.st k hk).liv,(h.st k hk).opn,(h.st k hk).isO,(h.st k hk).kept,(h.st k hk).seen⟩⟩
theorem Inv.put{w:Wd}{H:List Hc}{L:List M}{B:Nat}(h:Inv w H L B)(t:Int){m:M}(hm:m∈L)(ht:m.k=9->t=m.c):Inv (w.put t m) H L B:=by
 unfold Wd.put
 split
 ·exact h.netted fun p hp=>by
   rcases List.mem_append.1 hp with q|q
   ·exact h.net p q
   ·rw[List.mem_singleton.1 q];exact⟨hm,ht⟩
 ·exact h
theorem Inv.send{H:List Hc}{L:List M}{B:Nat}(t:Int):∀ (l:List M) {w:Wd},Inv w H L B->(∀ m∈l,m∈L/\m.k≠9)->Inv (w.send t l) H L B
 | [],_,h,_=>h
 | m :: l,_,h,hl=>Inv.send t l (h.put t (hl m (by simp)).1 fun q=>absurd q (hl m (by simp)).2) fun x hx=>hl x (List.mem_cons_of_mem _ hx)
theorem Inv.tells{H:List Hc}{L:List M}{B:Nat}:∀ (l:List M) {w:Wd},Inv w H L B->(∀ m∈l,m∈L)->Inv (w.tells l) H L B
 | [],_,h,_=>h
 | m :: l,_,h,hl=>Inv.tells l (h.put (zy8 m.c:Nat) (hl m (by simp)) fun q=>by
   have:=(h.msg m (hl m (by simp))).iv q
   rw[seatN_eq]
   omega) fun x hx=>hl x (List.mem_cons_of_mem _ hx)
theorem Inv.noSv{w:Wd}{H:List Hc}{L:List M}{B:Nat}(h:Inv w H L B):Inv { w with sv:=none } H L B:=
 ⟨h.n4,h.len,h.eh,h.an,h.bg,h.mo,h.bef,h.lol,h.hs,h.hd,h.hne,h.n1,h.net,h.msg,(fun s hs=>by cases hs),h.log,h.epc,fun k hk=>⟨(h.st k hk).id,(h.st k hk).l0,(h.st k hk).n0,(h.st k hk).num,(h.st k hk).liv,(h.st k hk).opn,(h.st k hk).isO,(h.st k hk).kept,(h.st k hk).seen⟩⟩
theorem Inv.fallen{w:Wd}{H:List Hc}{L:List M}{B:Nat}(h:Inv w H L B):Inv w.fallen H L B:=by
 unfold Wd.fallen
 split
 ·exact h
 ·split
  ·exact h.noSv
  ·exact h
theorem Inv.answer{w:Wd}{H:List Hc}{L:List M}{B:Nat}(h:Inv w H L B)(hB:H.length+B<200){s:Sv}(hs:w.sv=some s){r:Sv×List M}(hr:Ss w.clock s L r.1 (L++r.2)):Inv (w.answer r) H (L++r.2) B:=
 (Inv.tells r.2 (Inv.ss hB hr rfl h hs) fun _ hm=>List.mem_append_right _ hm).fallen
theorem Inv.stepped{w:Wd}{H:List Hc}{L:List M}{B:Nat}(h:Inv w H L B):Inv { w with step:=w.step+1 } H L B:=
 ⟨h.n4,h.len,h.eh,h.an,fun e he=>by
  have:=h.bg e he
  exact⟨this.1,by show e.began<=w.step+1;omega,this.2.2.1,by show e.ended<=w.step+1;omega⟩,h.mo,h.bef,h.lol,h.hs,h.hd,h.hne,h.n1,h.net,h.msg,h.sv,h.log,h.epc,fun k hk=>⟨(h.st k hk).id,(h.st k hk).l0,(h.st k hk).n0,(h.st k hk).num,(h.st k hk).liv,(h.st k hk).opn,(h.st k hk).isO,(h.st k hk).kept,(h.st k hk).seen⟩⟩
theorem Inv.lose{w:Wd}{H:List Hc}{L:List M}{B:Nat}(h:Inv w H L B)(k:Nat):Inv (w.lose k) H L B:=h.netted fun p hp=>h.net p (List.mem_of_mem_eraseIdx hp)
theorem Inv.twice{w:Wd}{H:List Hc}{L:List M}{B:Nat}(h:Inv w H L B)(k:Nat):Inv (w.twice k) H L B:=by
 unfold Wd.twice
 split
 ·exact h
 ·rename_i p hp
  split
  ·exact h.netted fun q hq=>by
    rcases List.mem_append.1 hq with x|x
    ·exact h.net q x
    ·rw[List.mem_singleton.1 x];exact h.net p (List.mem_of_getElem? hp)
  ·exact h
theorem Inv.crash{w:Wd}{H:List Hc}{L:List M}{B:Nat}(h:Inv w H L B):Inv w.crash H L B:=h.stepped.noSv
theorem Inv.zy3{w:Wd}{H:List Hc}{L:List M}{B:Nat}(h:Inv w H L B)(x t:Int):Inv (w.zy3 x t) H L B:=by
 unfold Wd.zy3
 split
 ·exact⟨h.n4,h.len,h.eh,h.an,h.bg,h.mo,h.bef,h.lol,h.hs,h.hd,h.hne,h.n1,h.net,h.msg,h.sv,h.log,h.epc,fun k hk=>⟨(h.st k hk).id,(h.st k hk).l0,(h.st k hk).n0,(h.st k hk).num,(h.st k hk).liv,(h.st k hk).opn,(h.st k hk).isO,(h.st k hk).kept,(h.st k hk).seen⟩⟩
 ·rename_i s hs
  exact h.still hs rfl rfl rfl (fun _ q=>q) (fun _ q=>.inl q)
theorem Inv.gone{w:Wd}{H:List Hc}{L:List M}{B:Nat}(h:Inv w H L B)(b:Int)(f:Nat->Int):Inv (w.gone b f) H L B:=by
 have h:=h.stepped
 exact⟨h.n4,h.len,h.eh,h.an,h.bg,h.mo,h.bef,h.lol,h.hs,h.hd,h.hne,h.n1,h.net,h.msg,h.sv,h.log,h.epc,fun k hk=>⟨(h.st k hk).id,(h.st k hk).l0,(h.st k hk).n0,(h.st k hk).num,(h.st k hk).liv,(h.st k hk).opn,(h.st k hk).isO,(h.st k hk).kept,(h.st k hk).seen⟩⟩
theorem zcr(to' tv td now:Int)(rs:List R)(hl:rs.length<200):∃ e,(logL rs).ep+1=e/\(Sv.new to' tv td rs false 0 now).rs=rs++[epochR e]/\(Sv.new to' tv td rs false 0 now).l4=logL (rs++[epochR e])/\(Sv.new to' tv td rs false 0 now).zzf=(fun _=>[])/\(Sv.new to' tv td rs false 0 now).down=false/\(Sv.new to' tv td rs false 0 now).epoch=e/\(Sv.new to' tv td rs false 0 now).ses=(fun _=>0)/\(Sv.new to' tv td rs false 0 now).vol=(fun _=>0)/\(Sv.new to' tv td rs false 0 now).D = .map []/\(Sv.new to' tv td rs false 0 now).ready=(if 0<(logL rs).ep then now+tv else 0)/\(Sv.new to' tv td rs false 0 now).to=to'/\(Sv.new to' tv td rs false 0 now).tv=tv/\(Sv.new to' tv td rs false 0 now).fails=false/\(Sv.new to' tv td rs false 0 now).left=0:=by
 have hz:=zmv rs (Sv.zero to' tv td rs false 0)
 have hk:=zc8 rs (Sv.zero to' tv td rs false 0)
 have hrs:(Sv.opened to' tv td rs false 0).rs=rs:=by
  have:∀ (l:List R) (s:Sv),(l.foldl Sv.zy4 s).rs=s.rs:=fun l=>by
   induction l with
   | nil=>exact fun _=>rfl
   | cons r l ih=>exact fun s=>(ih _).trans (zbb s r)
  exact this rs _
 obtain⟨s,hs⟩:∃ s:Sv,s=Sv.opened to' tv td rs false 0:=⟨_,rfl⟩
 have hl4:s.l4=logL rs:=by rw[hs];exact hz
 have hep:s.epoch=(logL rs).ep:=congrArg L4.ep hl4
 have hk':s.to=to'/\s.tv=tv/\s.td=td/\s.down=false/\s.fails=false/\s.left=0/\s.zzf=(fun _=>[])/\s.ready=0/\s.torn=0/\s.D = .map []/\s.vol=(fun _=>0)/\s.ses=(fun _=>0):=by
  rw[hs]
  obtain⟨a1,a2,a3,a4,a5,a6,a7,a8,a9,a10,a11,a12,_⟩:=hk
  exact⟨a1,a2,a3,a4,a5,a6,a7,a8,a9,a10,a11,a12⟩
 obtain⟨a1,a2,a3,a4,a5,a6,a7,a8,a9,a10,a11,a12⟩:=hk'
 rw[<- hs] at hrs
 have hnew:Sv.new to' tv td rs false 0 now = { s.readied now with rs:=s.rs++[epochR (s.epoch+1)],left:=0 }:=by
  unfold Sv.new
  rw[<- hs]
  unfold Sv.add
  rw[if_neg (show ¬ (s.readied now).down=true by show ¬ s.down=true;rw[a4];decide),if_neg (show ¬ (s.readied now).rs.length=200 by show ¬ s.rs.length=200;rw[hrs];omega),if_neg (show ¬ ((s.readied now).fails=true/\(s.readied now).left=0) by show ¬ (s.fails=true/\s.left=0);rw[a5];simp)]
  have e1:(s.readied now).fails=false:=a5
  have e2:(s.readied now).left=0:=a6
  dsimp only
  rw[e1,e2]
  rfl
 rw[hnew]
 refine⟨s.epoch+1,by rw[hep],by rw[hrs],?_,a7,a4,rfl,a12,a11,a10,?_,a1,a2,a5,rfl⟩
 ·rw[logL_app,<- hl4];rfl
 ·show (if 0<s.epoch then now+s.tv else s.ready)=_
  rw[hep,a2,a8]
theorem Inv.start{w:Wd}{H:List Hc}{L:List M}{B:Nat}(h:Inv w H L B)(hB:H.length+B<200):Inv w.start H L (B+1):=by
 have hroom:=h.room
 obtain⟨e,he,h1,h2,h3,_⟩:=zcr w.to w.tv w.td w.clock w.rs (by omega)
 have hlog:LogIs H (w.rs++[epochR e]) (logL (w.rs++[epochR e])):=by rw[logL_app];exact h.log.epoch e (by omega)
 refine h.serve (s':=Sv.new w.to w.tv w.td w.rs false 0 w.clock) (fun r hr=>by rw[h1];exact List.mem_append_left _ hr) (fun o=>by rw[h1,logL_app];exact Int.le_refl _) ?_ (by rw[h1];exact hlog) ?_ (fun _ q=>q) (fun _ q=>.inl q)
 ·exact⟨by rw[h1];exact h2,fun o m hm=>by rw[h3] at hm;simp at hm,fun o m hm=>by rw[h3] at hm;simp at hm,fun o=>by rw[h3];simp⟩
 ·rw[h1,List.filter_append,List.length_append]
  have:=h.epc
  have:([epochR e].filter fun r=>decide (r.o<0)).length<=1:=List.length_filter_le _ _
  omega
end Wld
end
end Go.Proofs.YtbebfliimjjohabGreatDoor
