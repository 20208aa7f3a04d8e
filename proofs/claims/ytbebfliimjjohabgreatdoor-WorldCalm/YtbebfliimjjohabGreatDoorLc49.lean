/- Parts of the proof. -/
import Derived.Test.YtbebfliimjjohabGreatDoorLc48
set_option maxRecDepth 100000
set_option maxHeartbeats 8000000
namespace Go.Proofs.YtbebfliimjjohabGreatDoor
section
namespace Wld
open Go.Maps
open Lease (I64 upd zae zad mx hol isH kk dels)
open Cache (E era putL)
open Wal (R timeB)
open Num (M okB)
structure Rc(w w':Wd)(r:Int):Prop where
 n:w'.n=w.n
 t:w'.clock=w.clock+r
 k:∀ k,k<w.n->(w'.seat k).clock=(w.seat k).clock+r
 cl:∀ c,c<w.n->Clean w c->Clean w' c
 du:∀ c,c<w.n->∀ x,Du w c x->Du w' c (x-r)
 sh:∀ c,c<w.n->Shut w c->Shut w' c
 rd:Rdy w->Rdy w'
 ry:∀ x,(∀ s,w.sv=some s->s.ready<=w.clock+x)->∀ s,w'.sv=some s->s.ready<=w'.clock+(x-r)
theorem Rc.refl(w:Wd):Rc w w 0:=⟨rfl,by omega,fun _ _=>by omega,fun _ _ q=>q,fun _ _ x q=>by rw[Int.sub_zero];exact q,fun _ _ q=>q,id,fun x q s hs=>by rw[Int.sub_zero];exact q s hs⟩
theorem Rc.trans{a b c:Wd}{r q:Int}(h:Rc a b r)(k:Rc b c q):Rc a c (r+q):=
 ⟨k.n.trans h.n,by rw[k.t,h.t];omega,fun i hi=>by rw[k.k i (by rw[h.n];exact hi),h.k i hi];omega,fun i hi p=>k.cl i (by rw[h.n];exact hi) (h.cl i hi p),fun i hi x p=>by
  have:=k.du i (by rw[h.n];exact hi) _ (h.du i hi x p)
  rwa [show x-r-q=x-(r+q) by omega] at this,fun i hi p=>k.sh i (by rw[h.n];exact hi) (h.sh i hi p),fun p=>k.rd (h.rd p),fun x p=>by
  have:=k.ry (x-r) (h.ry x p)
  rwa [show x-r-q=x-(r+q) by omega] at this⟩
theorem zjp(w:Wd):Clk w w.ticked:=by
 unfold Wd.ticked
 split
 ·exact .refl w
 ·exact zfz w _
theorem Wk.clock{w:Wd}{H:List Hc}{b:Nat}{cb:Int}{C:Nat}(h:Wk w H b cb C)(hnet:w.net = [])(hH:H.length+b<=110)(hC:C+300<=100000000)(hcb:cb+1<549755813888) :
  Fm (w.goes 1 fun k=>if k<w.n then 1 else 0).zy5 H b (cb+1) (C+300)/\Rc w (w.goes 1 fun k=>if k<w.n then 1 else 0).zy5 1:=by
 obtain⟨L,hc,hs2⟩:=h.cm (by omega) (by omega) (Nat.lt_of_le_of_lt (h.mu0 hnet) (by omega))
 have hx:=h.xt
 obtain⟨B,hi,hB⟩:=hs2.inv.inv
 have hck:=hs2.ck
 obtain⟨L',C',c1,c2,c3,t⟩:=clockPart hc hH hC hx.lb hnet hcb (by have:=hck.1;omega) hi.n4
 obtain⟨L1,h1⟩:=hc.goes (by omega) hnet hcb
 have hmu:=h1.mu
 obtain⟨_,_,_,_,sk,_⟩:=zbx (P:=Sk (w.goes 1 fun k=>if k<w.n then 1 else 0)) (fun w' L2 C2 p rest hc' ht hnn=>ht.deliver hc' hnn) (w.goes 1 fun k=>if k<w.n then 1 else 0).mu _ L1 (C+1) h1 (by omega) (Sk.refl _) (Nat.le_refl _)
 have sk:Sk (w.goes 1 fun k=>if k<w.n then 1 else 0) (w.goes 1 fun k=>if k<w.n then 1 else 0).zy5:=sk
 obtain⟨L2,s2⟩:=hs2.goes (a:=1) (f:=fun k=>if k<w.n then 1 else 0) (g:=1) (by omega) (by omega) (by omega) (fun k _=>by split<;>omega) hcb (fun q k hk=>by
  rw[if_pos hk]
  have:=(hs2.fr q).d0
  omega)
 obtain⟨L3,s3⟩:=Safe2.drain (by omega) (w.goes 1 fun k=>if k<w.n then 1 else 0).mu s2
 have s3:Safe2 True (w.goes 1 fun k=>if k<w.n then 1 else 0).zy5 H L3 b (cb+1):=s3
 obtain⟨s,hs,hp⟩:=h.up
 obtain⟨r,hr⟩:∃ r,s.tickN (stop (w.clock+1)) 8=r:=⟨_,rfl⟩
 obtain⟨e1,e2,e3,e4,e5⟩:=zdv hc hnet hs (fun k=>if k<w.n then 1 else 0) hr
 have hrd:r.1.ready=s.ready:=by
  have:=(zc1 (stop (w.clock+1)) s L 8 (Nat.le_refl _)).more.1
  rwa [hr] at this
 have hst:stop (w.clock+1)=w.clock+1:=by have:=hck.1;unfold stop;split<;>omega
 have hdc:=zhi (w.goes 1 fun k=>if k<w.n then 1 else 0).mu (w.goes 1 fun k=>if k<w.n then 1 else 0)
 have hdc:Clk (w.goes 1 fun k=>if k<w.n then 1 else 0) (w.goes 1 fun k=>if k<w.n then 1 else 0).zy5:=hdc
 have hgc:∀ k,k<w.n->((w.goes 1 fun k=>if k<w.n then 1 else 0).seat k).clock=(w.seat k).clock+1:=fun k hk=>by
  rw[(zjp (w.gone 1 fun k=>if k<w.n then 1 else 0)).k k |> fun q=>(show ((w.goes 1 fun k=>if k<w.n then 1 else 0).seat k).clock=_ from q)]
  show stop ((w.seat k).clock+(if k<w.n then 1 else 0))=_
  rw[if_pos hk]
  have:=hck.2 k hk
  unfold stop
  split<;>omega
 have ht:(w.goes 1 fun k=>if k<w.n then 1 else 0).zy5.clock=w.clock+1:=by rw[hdc.t,e3,hst]
 have hk':∀ k,k<w.n->((w.goes 1 fun k=>if k<w.n then 1 else 0).zy5.seat k).clock=(w.seat k).clock+1:=fun k hk=>by rw[hdc.k,hgc k hk]
 have hcl:∀ c,c<w.n->Clean w c->Clean (w.goes 1 fun k=>if k<w.n then 1 else 0).zy5 c:=fun c hc' q=>Clean.of (t.cl c (by rw[e4];exact hc') q) c3
 have hry:∀ s',(w.goes 1 fun k=>if k<w.n then 1 else 0).zy5.sv=some s'->s'.ready=s.ready:=fun s' hs'=>by
  obtain⟨s0,h0,h1⟩:=sk.rdy s' hs'
  rw[e2] at h0
  rw[h1,<- Option.some.inj h0,hrd]
 refine⟨⟨⟨⟨L3,s3⟩,c2.up,c2.wb.mono c1⟩,c3,t.ho⟩,hdc.n.trans e4,ht,hk',hcl,fun c hc' x q=>?_,fun c hc' q=>t.ov c (by rw[e4];exact hc') (by rw[e5];exact q),fun q s' hs'=>?_,fun x q s' hs'=>?_⟩
 ·rcases q with q|q
  ·exact .inl (hcl c hc' q)
  ·right
   rw[(sk.ask c).1,(sk.ask c).2.1,e5,hk' c hc']
   omega
 ·have:=q s hs
  rw[hry s' hs',ht]
  omega
 ·have:=q s hs
  rw[hry s' hs',ht]
  omega
theorem Rr.rc{w w':Wd}(h:Rr w w'):Rc w w' 0:=
 ⟨h.ck.n,by rw[h.ck.t];omega,fun k _=>by rw[h.ck.k];omega,h.cl,fun c hc x q=>by rw[Int.sub_zero];exact h.du c hc x q,h.sh,h.rd,fun x q s' hs'=>by
  obtain⟨s,hs,e⟩:=h.ry s' hs'
  rw[Int.sub_zero,e,h.ck.t]
  exact q s hs⟩
theorem Fm.calmK{w:Wd}{H:List Hc}{b:Nat}{cb:Int}{C:Nat}(h:Fm w H b cb C)(hH:H.length+b<=110)(hC:C+1200<=100000000)(h4:w.n<=4) :
  ∀ k,k<=w.n->Fm (w.calmK k) H b cb (C+300*k)/\Rr w (w.calmK k)/\(∀ c,c<k->Du w c 2->Clean (w.calmK k) c)/\((∀ c,c<w.n->Clean w c)->Rdy w->∀ c,c<k->Shut (w.calmK k) c)
 | 0,_=>⟨h,.refl w,fun c hc=>absurd hc (by omega),fun _ _ c hc=>absurd hc (by omega)⟩
 | k+1,hk=>by
  obtain⟨h1,r1,d1,s1⟩:=Fm.calmK h hH hC h4 k (by omega)
  have hn:(w.calmK k).n=w.n:=calmK_n w k
  obtain⟨h2,r2,d2,s2⟩:=h1.turn hH (by omega) (k:=k) (by omega)
  have e:w.calmK (k+1)=((w.calmK k).again k).zy5:=rfl
  rw[e]
  refine⟨h2.mono (by omega),r1.trans r2,fun c hc q=>?_,fun q1 q2 c hc=>?_⟩
  ·by_cases ec:c=k
   ·subst ec;exact d2 (r1.du c (by omega) 2 q)
   ·exact r2.cl c (by omega) (d1 c (by omega) q)
  ·by_cases ec:c=k
   ·subst ec;exact s2 (fun x hx=>r1.cl x (by omega) (q1 x (by omega))) (r1.rd q2)
   ·exact r2.sh c (by omega) (s1 q1 q2 c (by omega))
theorem Up.restart{w:Wd}(u:Up w):w.restart=w:=by
 obtain⟨s,hs,_⟩:=u
 unfold Wd.restart
 rw[hs]
theorem Fm.calm1{w:Wd}{H:List Hc}{b:Nat}{cb:Int}{C:Nat}(h:Fm w H b cb C)(hH:H.length+b<=110)(hC:C+1500<=100000000)(hcb:cb+1<549755813888) :
  Fm w.calm1 H b (cb+1) (C+1500)/\Rc w w.calm1 1/\(∀ c,c<w.n->Du w c 2->Clean w.calm1 c)/\((∀ c,c<w.n->Clean w c)->Rdy w->∀ c,c<w.n->Shut w.calm1 c):=by
 have h4:w.n<=4:=by obtain⟨L,s⟩:=h.wk.s2;obtain⟨B,i,_⟩:=s.inv.inv;exact i.n4
 obtain⟨h1,r1,d1,s1⟩:=h.calmK hH (by omega) h4 w.n (Nat.le_refl _)
 obtain⟨h2,r2⟩:=h1.wk.clock h1.net hH (by omega) hcb
 have hn:(w.calmK w.n).n=w.n:=calmK_n w w.n
 have e:w.calm1=((w.calmK w.n).goes 1 fun k=>if k<(w.calmK w.n).n then 1 else 0).zy5:=by
  unfold Wd.calm1
  rw[h.wk.up.restart,hn]
 rw[e]
 refine⟨h2.mono (by omega),?_,fun c hc q=>r2.cl c (by omega) (d1 c hc q),fun q1 q2 c hc=>r2.sh c (by omega) (s1 q1 q2 c hc)⟩
 have:=r1.rc.trans r2
 rwa [show (0:Int)+1=1 by omega] at this
theorem Fm.calm{w:Wd}{H:List Hc}{b:Nat}{cb:Int}{C:Nat}(h:Fm w H b cb C)(hH:H.length+b<=110)(r:Nat):∀ {D:Nat} {x:Int},D=C+1500*r->x=cb+r->D<=100000000->x<549755813888->Fm (w.calm r) H b x D/\Rc w (w.calm r) r:=by
 induction r with
 | zero=>
  intro D x hD hx _ _
  obtain rfl:D=C:=by omega
  obtain rfl:x=cb:=by omega
  exact⟨h,Rc.refl w⟩
 | succ r ih=>
  intro D x hD hx hC hcb
  obtain⟨h1,r1⟩:=ih (D:=D-1500) (x:=x-1) (by omega) (by omega) (by omega) (by omega)
  obtain⟨h2,r2,_⟩:=h1.calm1 hH (by omega) (by omega)
  have e:w.calm (r+1)=(w.calm r).calm1:=rfl
  rw[e]
  refine⟨?_,r1.trans r2⟩
  rw[show x-1+1=x by omega] at h2
  exact h2.mono (by omega)
theorem zi0(w:Wd)(a:Nat):∀ b,w.calm (a+b)=(w.calm a).calm b
 | 0=>rfl
 | b+1=>congrArg Wd.calm1 (zi0 w a b)
theorem Wk.calm1{w:Wd}{H:List Hc}{b:Nat}{cb:Int}{C:Nat}(h:Wk w.restart H b cb C)(h1:1<=w.n)(hH:H.length+b<=110)(hC:C+18000<=100000000)(hcb:cb+1<549755813888) :
  Fm w.calm1 H b (cb+1) (C+18000)/\(∀ x,(∀ s,(w.restart.calmK w.n).sv=some s->s.ready<=(w.restart.calmK w.n).clock+x)->∀ s,w.calm1.sv=some s->s.ready<=w.calm1.clock+(x-1)):=by
 have h4:w.restart.n<=4:=by obtain⟨L,s⟩:=h.s2;obtain⟨B,i,_⟩:=s.inv.inv;exact i.n4
 have hr:w.restart.n=w.n:=restart_n w
 obtain⟨k1,k2⟩:=h.calmK (by omega) w.n (by omega)
 have hn:(w.restart.calmK w.n).n=w.n:=by rw[calmK_n,hr]
 obtain⟨f1,f2⟩:=k1.clock (k2 (by omega)) hH (by omega) hcb
 have e:w.calm1=((w.restart.calmK w.n).goes 1 fun k=>if k<(w.restart.calmK w.n).n then 1 else 0).zy5:=by
  unfold Wd.calm1
  rw[hn]
 rw[e]
 exact⟨f1.mono (by omega),f2.ry⟩
theorem zof{s:Sv}{o:Nat}(h:s.zzf o = [])(T:Int):s.zyz o T=(s,[]):=by
 unfold Sv.zyz
 rw[if_pos (.inr (by rw[h];rfl))]
theorem zhj{s:Sv}(h:∀ o:Nat,o<8->s.zzf o = [])(c T:Int):∀ k,k<=8->s.zy0 c T k=(s,[])
 | 0,_=>rfl
 | k+1,hk=>by
  unfold Sv.zy0
  rw[zhj h c T k (by omega)]
  dsimp only
  rw[zof (h k (by omega))]
  rfl
structure Qs(s0 s:Sv):Prop where
 ep:s.epoch=s0.epoch
 ses:s.ses=s0.ses
 vv:s.vv=s0.vv
 vd:s.vd=s0.vd
 wt:∀ o:Nat,o<8->s.zzf o = []
theorem zjq{s:Sv}(hd:s.down=false)(hw:∀ o:Nat,o<8->s.zzf o = []){m:M}(hk:m.k=3)(hc:0<=m.c)(ho:0<=m.o)(ho8:m.o<8)(T:Int) :
  s.hear m T=if m.e≠s.epoch\/m.s≠s.ses (zy8 m.c:Nat) then (s,[s.answer 8 m]) else ({ s with vol:=upd s.vol (zy8 m.c:Nat) (mx (s.vol (zy8 m.c:Nat)) (T+s.tv)) },[s.answer 7 m]):=by
 unfold Sv.hear
 rw[if_neg (by rw[hd];simp;omega),if_neg (by omega),if_neg (by omega),if_pos hk]
 unfold Sv.renewS
 obtain⟨r,hr⟩:∃ r,s.zy0 (zy8 m.c:Nat) T 8=r:=⟨_,rfl⟩
 have e:=hr.symm.trans (zhj hw (zy8 m.c:Nat) T 8 (Nat.le_refl _))
 rw[hr,e,if_neg (by simp)]
theorem zug{s:Sv}(hd:s.down=false){m:M}(hk:m.k=1)(hc:0<=m.c)(ho:0<=m.o)(ho8:m.o<8)(T:Int):s.hear m T=(s.lent m m.o.toNat T,[s.valueM m m.o.toNat]):=by
 unfold Sv.hear
 rw[if_neg (by rw[hd];simp;omega),if_pos hk]
 rfl
def Ans(s0:Sv)(a:Int)(x:M):Prop:=x.e=s0.epoch/\x.s=s0.ses (zy8 x.c:Nat)/\(x.k=7\/x.k=8\/(x.k=5/\x.l=true/\x.v=s0.vv a.toNat/\x.d=s0.vd a.toNat))
def Qst(a:Int)(m:M):Prop:=m.k=3\/(m.k=1/\m.o=a)
theorem Qs.hear{s0 s:Sv}(h:Qs s0 s)(hd:s.down=false){a:Int}{m:M}(hm:Qst a m)(T:Int):Qs s0 (s.hear m T).1/\∀ x∈(s.hear m T).2,Ans s0 a x:=by
 by_cases hb:m.c<0\/m.o<0\/8<=m.o
 ·have e:s.hear m T=(s,[]):=by
   unfold Sv.hear
   rw[if_pos (.inr hb)]
  rw[e]
  exact⟨h,fun x hx=>by cases hx⟩
 ·rcases hm with hk|⟨hk,ha⟩
  ·rw[zjq hd h.wt hk (by omega) (by omega) (by omega)]
   split
   ·refine⟨h,fun x hx=>?_⟩
    rw[List.mem_singleton.1 hx]
    exact⟨h.ep,by rw[<- h.ses];rfl,.inr (.inl rfl)⟩
   ·refine⟨⟨h.ep,h.ses,h.vv,h.vd,h.wt⟩,fun x hx=>?_⟩
    rw[List.mem_singleton.1 hx]
    exact⟨h.ep,by rw[<- h.ses];rfl,.inl rfl⟩
  ·rw[zug hd hk (by omega) (by omega) (by omega)]
   refine⟨?_,fun x hx=>?_⟩
   ·show Qs s0 (s.lent m m.o.toNat T)
    unfold Sv.lent
    split
    ·exact⟨h.ep,h.ses,h.vv,h.vd,h.wt⟩
    ·exact h
   ·rw[List.mem_singleton.1 hx,<- ha]
    refine⟨h.ep,by rw[<- h.ses];rfl,.inr (.inr ⟨rfl,?_,by rw[<- h.vv];rfl,by rw[<- h.vd];rfl⟩)⟩
    show decide ((s.zzf m.o.toNat).length=0)=true
    rw[h.wt _ (by omega)]
    rfl
structure Qi(s0:Sv)(a:Int)(w:Wd):Prop where
 sv:∃ s,w.sv=some s/\Qs s0 s
 net:∀ p∈w.net,(p.1 = -1/\Qst a p.2)\/(p.1=((zy8 p.2.c:Nat):Int)/\Ans s0 a p.2)
 kp:∀ j,j<w.n->Kp (w.seat j).k
theorem Ans.quiet{s0:Sv}{a:Int}{x:M}(h:Ans s0 a x)(k:K):(k.hear x).2 = []:=by
 obtain⟨_,_,h⟩:=h
 have h9:x.k≠9:=by rcases h with h|h|⟨h,_⟩<;>omega
 unfold K.hear
 rw[if_neg h9]
 repeat' split
 all_goals rfl
theorem Qi.deliver{s0:Sv}{a:Int}{w:Wd}{H:List Hc}{L:List M}{b C:Nat}{cb:Int}(h:Cm w H L b C cb)(t:Qi s0 a w){p:Int×M}{rest:List (Int×M)}(hn:w.net=p :: rest):Qi s0 a (w.deliver 0):=by
 obtain⟨s,hs,hq⟩:=t.sv
 have hd:s.down=false:=by obtain⟨s1,hs1,hp1⟩:=h.up;rw[Option.some.inj (hs.symm.trans hs1)];exact hp1.up
 have hpm:p∈w.net:=by rw[hn];exact List.mem_cons_self ..
 have hrest:∀ q∈rest,q∈w.net:=fun q hq=>by rw[hn];exact List.mem_cons_of_mem _ hq
 have hok:okB p.2=true:=h.wb.net p hpm
 refine h.cases hn (P:=Qi s0 a) (fun s' hs' hp w' e1 e2 e3 e4 e5=>?_) (fun j hj hp w' e1 e2 e3 e4 e5=>?_) (fun hp hq' w' e1 e2 e3 e4 e5=>?_)
 ·obtain rfl:s=s':=Option.some.inj (hs.symm.trans hs')
  have hm:Qst a p.2:=by
   rcases t.net p hpm with q|q
   ·exact q.2
   ·have:=q.1;omega
  obtain⟨k1,k2⟩:=hq.hear hd hm w.clock
  refine⟨⟨_,e2,k1⟩,fun q hq=>?_,fun j hj=>by rw[e3];exact t.kp j (by omega)⟩
  rw[e1] at hq
  rcases List.mem_append.1 hq with r|r
  ·exact t.net q (hrest q r)
  ·obtain⟨x,hx,rfl⟩:=List.mem_map.1 r
   exact .inr ⟨rfl,k2 x hx⟩
 ·have hm:Ans s0 a p.2:=by
   rcases t.net p hpm with q|q
   ·have:=q.1;omega
   ·exact q.2
  refine⟨⟨s,by rw[e2];exact hs,hq⟩,fun q hq=>?_,fun i hi=>?_⟩
  ·rw[e1,hm.quiet] at hq
   exact t.net q (hrest q (by simpa using hq))
  ·rw[e3]
   split
   ·exact(t.kp j hj).hear hok
   ·exact t.kp i (by omega)
 ·exact⟨⟨s,by rw[e2];exact hs,hq⟩,fun q hq=>t.net q (hrest q (by rw[<- e1];exact hq)),fun j hj=>by rw[e3];exact t.kp j (by omega)⟩
def Kn(s0:Sv)(w:Wd)(j:Nat):Prop:=(w.seat j).k.ep=s0.epoch/\(w.seat j).k.ses=s0.ses (j:Nat)
theorem znl{s0:Sv}{a:Int}{x:M}(h:Ans s0 a x){k:K}(hk:Kp k){j:Nat}(hj:x.c=k.id->zy8 x.c=j) :
  (k.hear x).1.renewal=k.renewal/\(k.hear x).1.id=k.id/\((k.ep=s0.epoch/\k.ses=s0.ses (j:Nat))->(k.hear x).1.ep=s0.epoch/\(k.hear x).1.ses=s0.ses (j:Nat)/\k.til<=(k.hear x).1.til)/\(((k.hear x).1.ep=k.ep/\(k.hear x).1.ses=k.ses)\/((k.hear x).1.ep=s0.epoch/\(k.hear x).1.ses=s0.ses (j:Nat))):=by
 obtain⟨h1,h2,h3⟩:=h
 have h9:x.k≠9:=by rcases h3 with h|h|⟨h,_⟩<;>omega
 have ht:=hk.t
 have same:∀ k':K,k'.renewal=k.renewal->k'.id=k.id->k'.ep=k.ep->k'.ses=k.ses->k'.til=k.til->k'.renewal=k.renewal/\k'.id=k.id/\((k.ep=s0.epoch/\k.ses=s0.ses (j:Nat))->k'.ep=s0.epoch/\k'.ses=s0.ses (j:Nat)/\k.til<=k'.til)/\((k'.ep=k.ep/\k'.ses=k.ses)\/(k'.ep=s0.epoch/\k'.ses=s0.ses (j:Nat))):=fun k' e1 e2 e3 e4 e5=>⟨e1,e2,fun q=>⟨by rw[e3];exact q.1,by rw[e4];exact q.2,by omega⟩,.inl ⟨e3,e4⟩⟩
 unfold K.hear
 rw[if_neg h9]
 split
 ·exact same k rfl rfl rfl rfl rfl
 ·rename_i hid
  have hid':x.c=k.id:=by omega
  rw[hj hid'] at h2
  split
  ·unfold K.granted
   split
   ·exact⟨rfl,rfl,fun q=>⟨q.1,q.2,ht⟩,.inl ⟨rfl,rfl⟩⟩
   ·exact same k rfl rfl rfl rfl rfl
  ·split
   ·unfold K.flush
    split
    ·exact same k rfl rfl rfl rfl rfl
    ·rename_i hne
     exact⟨rfl,rfl,fun q=>absurd ⟨h1.trans q.1.symm,h2.trans q.2.symm⟩ hne,.inr ⟨h1,h2⟩⟩
   ·split
    ·unfold K.read
     split
     ·exact same k rfl rfl rfl rfl rfl
     ·split<;>exact same _ rfl rfl rfl rfl rfl
    ·split
     ·exact same _ rfl rfl rfl rfl rfl
     ·exact same k rfl rfl rfl rfl rfl
def Mo(s0:Sv)(w0 w:Wd):Prop:=w.n=w0.n/\∀ j,j<w0.n->Kn s0 w0 j->Kn s0 w j/\(w0.seat j).k.til<=(w.seat j).k.til
theorem Qi.ans{s0:Sv}{a:Int}{w:Wd}(t:Qi s0 a w){p:Int×M}{rest:List (Int×M)}(hn:w.net=p :: rest){j:Nat}(hp:p.1=(j:Int)):Ans s0 a p.2/\zy8 p.2.c=j:=by
 rcases t.net p (by rw[hn];exact List.mem_cons_self ..) with q|q
 ·have:=q.1;omega
 ·exact⟨q.2,by have:=q.1;omega⟩
theorem Mo.deliver{s0:Sv}{a:Int}{w0 w:Wd}{H:List Hc}{L:List M}{b C:Nat}{cb:Int}(h:Cm w H L b C cb)(t:Qi s0 a w)(m:Mo s0 w0 w){p:Int×M}{rest:List (Int×M)}(hn:w.net=p :: rest):Mo s0 w0 (w.deliver 0):=by
 refine h.cases hn (P:=Mo s0 w0) (fun s' hs' hp w' e1 e2 e3 e4 e5=>⟨e5.trans m.1,fun j hj q=>?_⟩) (fun j hj hp w' e1 e2 e3 e4 e5=>⟨e5.trans m.1,fun i hi q=>?_⟩) (fun hp hq' w' e1 e2 e3 e4 e5=>⟨e5.trans m.1,fun j hj q=>?_⟩)
 ·unfold Kn;rw[e3];exact m.2 j hj q
 ·obtain⟨m1,m2⟩:=m.2 i hi q
  unfold Kn
  rw[e3]
  split
  ·rename_i ei;subst ei
   obtain⟨ha,hs⟩:=t.ans hn hp
   obtain⟨_,_,g,_⟩:=znl ha (t.kp i hj) (j:=i) (fun _=>hs)
   obtain⟨g1,g2,g3⟩:=g m1
   exact⟨⟨g1,g2⟩,by omega⟩
  ·exact⟨m1,m2⟩
 ·unfold Kn;rw[e3];exact m.2 j hj q
def RnP(s0:Sv)(w:Wd)(k:Nat)(kn:Prop):Prop:=
 (Kn s0 w k/\(kn->(w.seat k).k.asked+(w.seat k).k.vol<=(w.seat k).k.til)) \/
 (∃ m:M,((-1:Int),m)∈w.net/\m.k=3/\m.c=(w.seat k).k.id/\m.n=(w.seat k).k.renewal/\m.o=0/\m.e=(w.seat k).k.ep/\m.s=(w.seat k).k.ses/\(kn->Kn s0 w k)) \/
 (∃ m:M,((k:Int),m)∈w.net/\m.c=(w.seat k).k.id/\m.n=(w.seat k).k.renewal/\((m.k=7/\Kn s0 w k)\/(m.k=8/\¬ kn)))
theorem RnP.deliver{s0:Sv}{a:Int}{w:Wd}{H:List Hc}{L:List M}{b C:Nat}{cb:Int}(h:Cm w H L b C cb)(t:Qi s0 a w){k:Nat}(hk:k<w.n){kn:Prop}(hr:RnP s0 w k kn){p:Int×M}{rest:List (Int×M)}(hn:w.net=p :: rest):RnP s0 (w.deliver 0) k kn:=by
 obtain⟨s,hs,hq⟩:=t.sv
 have hd:s.down=false:=by obtain⟨s1,hs1,hp1⟩:=h.up;rw[Option.some.inj (hs.symm.trans hs1)];exact hp1.up
 refine h.cases hn (P:=fun w'=>RnP s0 w' k kn) (fun s' hs' hp w' e1 e2 e3 e4 e5=>?_) (fun j hj hp w' e1 e2 e3 e4 e5=>?_) (fun hp hq' w' e1 e2 e3 e4 e5=>?_)
 ·obtain rfl:s=s':=Option.some.inj (hs.symm.trans hs')
  unfold RnP Kn
  rw[e3,e1]
  rcases hr with r|⟨m,hm,m1,m2,m3,m4,m5,m6,m7⟩|⟨m,hm,m1,m2,m3⟩
  ·exact .inl r
  ·rw[hn] at hm
   rcases List.mem_cons.1 hm with q|q
   ·right;right
    have e:p.2=m:=by rw[<- q]
    have hc:=(h.id hk).1
    have hsn:zy8 m.c=k:=by rw[m2];exact(h.id hk).2.2
    rw[e,zjq hd hq.wt m1 (by omega) (by omega) (by omega)]
    split
    ·rename_i hne
     refine⟨s.answer 8 m,List.mem_append_right _ (List.mem_map.2 ⟨_,List.mem_singleton.2 rfl,?_⟩),m2,m3,.inr ⟨rfl,fun q=>?_⟩⟩
     ·show (((zy8 m.c:Nat):Int),_)=_
      rw[hsn]
     ·obtain⟨q1,q2⟩:=m7 q
      rcases hne with x|x
      ·exact x (by rw[m5,q1,hq.ep])
      ·exact x (by rw[m6,q2,hq.ses,hsn])
    ·rename_i hne
     refine⟨s.answer 7 m,List.mem_append_right _ (List.mem_map.2 ⟨_,List.mem_singleton.2 rfl,?_⟩),m2,m3,.inl ⟨rfl,?_⟩⟩
     ·show (((zy8 m.c:Nat):Int),_)=_
      rw[hsn]
     ·have h1:m.e=s.epoch:=Classical.byContradiction fun x=>hne (.inl x)
      have h2:m.s=s.ses (zy8 m.c:Nat):=Classical.byContradiction fun x=>hne (.inr x)
      rw[hsn] at h2
      exact⟨by rw[<- m5,h1,hq.ep],by rw[<- m6,h2,hq.ses]⟩
   ·exact .inr (.inl ⟨m,List.mem_append_left _ q,m1,m2,m3,m4,m5,m6,m7⟩)
  ·rw[hn] at hm
   rcases List.mem_cons.1 hm with q|q
   ·have:(k:Int)=p.1:=by rw[<- q]
    omega
   ·exact .inr (.inr ⟨m,List.mem_append_left _ q,m1,m2,m3⟩)
 ·obtain⟨ha,hsj⟩:=t.ans hn hp
  have hacks:=ha.quiet (w.seat j).k
  rw[hacks] at e1
  simp only[List.map_nil,List.append_nil] at e1
  have a0:=ziz (w.seat j).k p.2
  obtain⟨b1,b2,b3,b4⟩:=znl ha (t.kp j hj) (j:=j) (fun _=>hsj)
  unfold RnP Kn
  rw[e3,e1]
  by_cases ej:k=j
  ·subst ej
   rw[if_pos rfl,b1,b2,a0.1,a0.2.1]
   rcases hr with ⟨r1,r2⟩|⟨m,hm,m1,m2,m3,m4,m5,m6,m7⟩|⟨m,hm,m1,m2,m3⟩
   ·obtain⟨g1,g2,g3⟩:=b3 r1
    exact .inl ⟨⟨g1,g2⟩,fun q=>by have:=r2 q;omega⟩
   ·rw[hn] at hm
    rcases List.mem_cons.1 hm with q|q
    ·have:(-1:Int)=p.1:=by rw[<- q]
     omega
    ·rcases b4 with ⟨c1,c2⟩|⟨c1,c2⟩
     ·rw[c1,c2]
      exact .inr (.inl ⟨m,q,m1,m2,m3,m4,m5,m6,m7⟩)
     ·by_cases hkn:kn
      ·obtain⟨g1,g2,g3⟩:=b3 (m7 hkn)
       exact .inr (.inl ⟨m,q,m1,m2,m3,m4,by rw[g1,m5];exact(m7 hkn).1,by rw[g2,m6];exact(m7 hkn).2,fun _=>⟨g1,g2⟩⟩)
      ·exact .inl ⟨⟨c1,c2⟩,fun q=>absurd q hkn⟩
   ·rw[hn] at hm
    rcases List.mem_cons.1 hm with q|q
    ·have e:p.2=m:=by rw[<- q]
     left
     rw[e] at b3 ⊢ ha hsj
     rcases m3 with ⟨x1,x2⟩|⟨x1,x2⟩
     ·obtain⟨g1,g2,_⟩:=b3 x2
      refine⟨⟨g1,g2⟩,fun _=>?_⟩
      unfold K.hear
      rw[if_neg (by omega),if_neg (by omega),if_pos ⟨x1,m2⟩]
      unfold K.granted
      rw[if_pos ⟨ha.1.trans x2.1.symm,by rw[ha.2.1,hsj];exact x2.2.symm⟩]
      exact Int.le_refl _
     ·refine⟨?_,fun q=>absurd q x2⟩
      unfold K.hear
      rw[if_neg (by omega),if_neg (by omega),if_neg (by omega),if_pos ⟨x1,m2⟩]
      unfold K.flush
      have hs2:=ha.2.1
      rw[hsj] at hs2
      split
      ·rename_i y
       exact⟨y.1.symm.trans ha.1,y.2.symm.trans hs2⟩
      ·exact⟨ha.1,hs2⟩
    ·refine .inr (.inr ⟨m,q,m1,m2,?_⟩)
     rcases m3 with ⟨x1,x2⟩|x
     ·obtain⟨g1,g2,_⟩:=b3 x2
      exact .inl ⟨x1,g1,g2⟩
     ·exact .inr x
  ·rw[if_neg ej]
   rcases hr with r|⟨m,hm,m1⟩|⟨m,hm,m1⟩
   ·exact .inl r
   ·rw[hn] at hm
    rcases List.mem_cons.1 hm with q|q
    ·have:(-1:Int)=p.1:=by rw[<- q]
     omega
    ·exact .inr (.inl ⟨m,q,m1⟩)
   ·rw[hn] at hm
    rcases List.mem_cons.1 hm with q|q
    ·have:(k:Int)=p.1:=by rw[<- q]
     omega
    ·exact .inr (.inr ⟨m,q,m1⟩)
 ·unfold RnP Kn
  rw[e3,e1]
  rcases hr with r|⟨m,hm,m1⟩|⟨m,hm,m1⟩
  ·exact .inl r
  ·rw[hn] at hm
   rcases List.mem_cons.1 hm with q|q
   ·exact absurd (by rw[<- q]) hp
   ·exact .inr (.inl ⟨m,q,m1⟩)
  ·rw[hn] at hm
   rcases List.mem_cons.1 hm with q|q
   ·exfalso
    have e:p.1=(k:Int):=by rw[<- q]
    rw[e] at hq'
    have:w.has (k:Int)=true:=decide_eq_true ⟨by omega,by omega⟩
    rw[this] at hq'
    cases hq'
   ·exact .inr (.inr ⟨m,q,m1⟩)
structure Qu(s0:Sv)(w:Wd)(H:List Hc)(b:Nat)(cb:Int)(C:Nat):Prop where
 fm:Fm w H b cb C
 cl:∀ c,c<w.n->Clean w c
 rd:Rdy w
 sh:∀ c,c<w.n->Shut w c
 sv:∃ s,w.sv=some s/\Qs s0 s
theorem Fm.empty{w:Wd}{H:List Hc}{b:Nat}{cb:Int}{C:Nat}(h:Fm w H b cb C)(hc:∀ c,c<w.n->Clean w c)(hr:Rdy w){s:Sv}(hs:w.sv=some s):∀ o:Nat,o<8->s.zzf o = []:=allEmpty hs h.ho (h.wk.xt.dn s hs) hc (hr s hs)
theorem zga{f:Nat->List M}(h:∀ o:Nat,o<8->f o = []):total f=0:=by
 unfold total
 rw[h 0 (by omega),h 1 (by omega),h 2 (by omega),h 3 (by omega),h 4 (by omega),h 5 (by omega),h 6 (by omega),h 7 (by omega)]
 rfl
structure Qt(s0:Sv)(w w':Wd)(k:Nat):Prop where
 mo:Mo s0 w w'
 vol:∀ j,(w'.seat j).k.vol=(w.seat j).k.vol
 ask:∀ j,(w'.seat j).k.asked=(w.seat j).k.asked\/(j=k/\(w.seat k).k.til<=(w.seat k).clock+2)
 ren:(w.seat k).k.til<=(w.seat k).clock+2->Kn s0 w' k/\(Kn s0 w k->(w.seat k).clock+(w.seat k).k.vol<=(w'.seat k).k.til)
theorem Mo.refl(s0:Sv)(w:Wd):Mo s0 w w:=⟨rfl,fun _ _ q=>⟨q,Int.le_refl _⟩⟩
theorem Mo.trans{s0:Sv}{a b c:Wd}(h:Mo s0 a b)(k:Mo s0 b c):Mo s0 a c:=⟨k.1.trans h.1,fun j hj q=>by
 obtain⟨h1,h2⟩:=h.2 j hj q
 obtain⟨k1,k2⟩:=k.2 j (by rw[h.1];exact hj) h1
 exact⟨k1,Int.le_trans h2 k2⟩⟩
theorem Qu.turn{s0:Sv}{w:Wd}{H:List Hc}{b:Nat}{cb:Int}{C:Nat}(h:Qu s0 w H b cb C)(hH:H.length+b<=110)(hC:C+300<=100000000){k:Nat}(hk:k<w.n) :
  Qu s0 (w.again k).zy5 H b cb (C+300)/\Clk w (w.again k).zy5/\Qt s0 w (w.again k).zy5 k:=by
 obtain⟨f1,f2,f3,f4⟩:=h.fm.turn hH hC hk
 obtain⟨L,hc,hs2⟩:=h.fm.wk.cm (by omega) (by omega) (Nat.lt_of_le_of_lt (h.fm.wk.mu0 h.fm.net) (by omega))
 have hx:=h.fm.wk.xt
 obtain⟨L1,h1⟩:=hc.again hx.lb (by omega) hk h.fm.net
 obtain⟨e1,e2,e3,e4,e5⟩:=zf6 hc hx.lb hk h.fm.net
 have hmu:=h1.mu
 have hfr:=(hs2.fr trivial).st k hk
 have hL:(w.seat k).k.againL (w.seat k).clock=if (w.seat k).k.til<=(w.seat k).clock+2 then [(w.seat k).k.renewM] else []:=by
  unfold K.againL
  have ho:¬ (w.seat k).k.zy2=true:=by rw[h.sh k hk];decide
  simp[ho]
 have hseat:∀ j,((w.again k).seat j).k.vol=(w.seat j).k.vol/\((w.again k).seat j).k.ep=(w.seat j).k.ep/\((w.again k).seat j).k.ses=(w.seat j).k.ses/\((w.again k).seat j).k.til=(w.seat j).k.til/\((w.again k).seat j).k.id=(w.seat j).k.id/\(((w.again k).seat j).k.asked=(w.seat j).k.asked\/(j=k/\(w.seat k).k.til<=(w.seat k).clock+2)):=fun j=>by
  rw[e5]
  split
  ·rename_i ej;subst ej
   show ((w.seat j).k.again _).vol=_/\((w.seat j).k.again _).ep=_/\((w.seat j).k.again _).ses=_/\((w.seat j).k.again _).til=_/\((w.seat j).k.again _).id=_/\_
   unfold K.again
   split
   ·rename_i q;exact⟨rfl,rfl,rfl,rfl,rfl,.inr ⟨rfl,q⟩⟩
   ·exact⟨rfl,rfl,rfl,rfl,rfl,.inl rfl⟩
  ·exact⟨rfl,rfl,rfl,rfl,rfl,.inl rfl⟩
 have q0:Qi s0 0 (w.again k):=by
  refine⟨by rw[e2];exact h.sv,fun p hp=>?_,fun j hj=>?_⟩
  ·rw[e1] at hp
   obtain⟨x,hx,rfl⟩:=List.mem_map.1 hp
   rw[hL] at hx
   split at hx
   ·rw[List.mem_singleton.1 hx];exact .inl ⟨rfl,.inl rfl⟩
   ·cases hx
  ·rw[e5]
   split
   ·exact(hx.kp k hk).again hfr.ask
   ·exact hx.kp j (by omega)
 have m0:Mo s0 w (w.again k):=⟨e4,fun j _ q=>⟨⟨(hseat j).2.1.trans q.1,(hseat j).2.2.1.trans q.2⟩,by rw[(hseat j).2.2.2.1];exact Int.le_refl _⟩⟩
 have r0:(w.seat k).k.til<=(w.seat k).clock+2->RnP s0 (w.again k) k (Kn s0 w k):=fun ht=>by
  refine .inr (.inl ⟨(w.seat k).k.renewM,by rw[e1,hL,if_pos ht];exact List.mem_map.2 ⟨_,List.mem_singleton.2 rfl,rfl⟩,rfl,(hseat k).2.2.2.2.1.symm,?_,rfl,(hseat k).2.1.symm,(hseat k).2.2.1.symm,fun q=>(m0.2 k hk q).1⟩)
  rw[e5,if_pos rfl]
  show _=((w.seat k).k.again _).renewal
  unfold K.again
  rw[if_pos ht]
  rfl
 obtain⟨_,_,_,_,⟨p1,p2,p3,p4⟩,p5⟩:=zbx (P:=fun w'=>Qi s0 0 w'/\Mo s0 w w'/\((w.seat k).k.til<=(w.seat k).clock+2->RnP s0 w' k (Kn s0 w k))/\Sk (w.again k) w') (fun w' L2 C2 p rest hc' ht hnn=>⟨ht.1.deliver hc' hnn,ht.2.1.deliver hc' ht.1 hnn,fun q=>(ht.2.2.1 q).deliver hc' ht.1 (by rw[ht.2.1.1];exact hk) hnn,ht.2.2.2.deliver hc' hnn⟩) (w.again k).mu (w.again k) L1 (C+2) h1 (by omega) ⟨q0,m0,r0,Sk.refl _⟩ (Nat.le_refl _)
 have p1:Qi s0 0 (w.again k).zy5:=p1
 have p2:Mo s0 w (w.again k).zy5:=p2
 have p3:(w.seat k).k.til<=(w.seat k).clock+2->RnP s0 (w.again k).zy5 k (Kn s0 w k):=p3
 have p4:Sk (w.again k) (w.again k).zy5:=p4
 have p5:(w.again k).zy5.net = []:=p5
 have hn:=f2.ck.n
 refine⟨⟨f1,fun c hc'=>f2.cl c (by omega) (h.cl c (by omega)),f2.rd h.rd,fun c hc'=>f2.sh c (by omega) (h.sh c (by omega)),p1.sv⟩,f2.ck,p2,fun j=>by rw[(p4.ask j).2.1,(hseat j).1],fun j=>?_,fun ht=>?_⟩
 ·rw[(p4.ask j).1]
  exact(hseat j).2.2.2.2.2
 ·rcases p3 ht with ⟨r1,r2⟩|⟨m,hm,_⟩|⟨m,hm,_⟩
  ·refine⟨r1,fun q=>?_⟩
   have:=r2 q
   rw[(p4.ask k).1,(p4.ask k).2.1,(hseat k).1] at this
   have ea:((w.again k).seat k).k.asked=(w.seat k).clock:=by
    rw[e5,if_pos rfl]
    show ((w.seat k).k.again _).asked=_
    unfold K.again
    rw[if_pos ht]
    rfl
   omega
  ·rw[p5] at hm;cases hm
  ·rw[p5] at hm;cases hm
theorem zgb{s:Sv}(h:∀ o:Nat,o<8->s.zzf o = [])(T:Int):∀ k,k<=8->s.tickN T k=(s,[])
 | 0,_=>rfl
 | k+1,hk=>by
  have e:s.zy1 k T=(s,[]):=by
   unfold Sv.zy1
   rw[h k (by omega)]
   show s.adv k T 1=_
   unfold Sv.adv
   rw[if_pos (.inl (by rw[h k (by omega)];rfl))]
  unfold Sv.tickN
  rw[zgb h T k (by omega)]
  dsimp only
  rw[e]
  rfl
theorem Qu.clock{s0:Sv}{w:Wd}{H:List Hc}{b:Nat}{cb:Int}{C:Nat}(h:Qu s0 w H b cb C)(hH:H.length+b<=110)(hC:C+300<=100000000)(hcb:cb+1<549755813888) :
  Qu s0 (w.goes 1 fun k=>if k<w.n then 1 else 0).zy5 H b (cb+1) (C+300)/\Rc w (w.goes 1 fun k=>if k<w.n then 1 else 0).zy5 1/\∀ j,((w.goes 1 fun k=>if k<w.n then 1 else 0).zy5.seat j).k=(w.seat j).k:=by
 obtain⟨f1,f2⟩:=h.fm.wk.clock h.fm.net hH hC hcb
 obtain⟨L,hc,hs2⟩:=h.fm.wk.cm (by omega) (by omega) (Nat.lt_of_le_of_lt (h.fm.wk.mu0 h.fm.net) (by omega))
 obtain⟨s,hs,hq⟩:=h.sv
 have hr:s.tickN (stop (w.clock+1)) 8=(s,[]):=zgb hq.wt _ 8 (Nat.le_refl _)
 obtain⟨e1,e2,e3,e4,e5⟩:=zdv hc h.fm.net hs (fun k=>if k<w.n then 1 else 0) hr
 have e1':(w.goes 1 fun k=>if k<w.n then 1 else 0).net = []:=e1
 have ed:(w.goes 1 fun k=>if k<w.n then 1 else 0).zy5=w.goes 1 fun k=>if k<w.n then 1 else 0:=zey _ (by rw[e1'];rfl) _
 have hn:=f2.n
 refine⟨⟨f1,fun c hc'=>f2.cl c (by omega) (h.cl c (by omega)),f2.rd h.rd,fun c hc'=>f2.sh c (by omega) (h.sh c (by omega)),?_⟩,f2,fun j=>by rw[ed];exact e5 j⟩
 rw[ed]
 exact⟨s,e2,hq⟩
def Dk(s0:Sv)(w:Wd)(j:Nat)(r:Int):Prop:=Kn s0 w j\/(w.seat j).k.asked+(w.seat j).k.vol<=(w.seat j).clock+r
theorem Qu.calmK{s0:Sv}{w:Wd}{H:List Hc}{b:Nat}{cb:Int}{C:Nat}(h:Qu s0 w H b cb C)(hH:H.length+b<=110)(hC:C+1200<=100000000)(h4:w.n<=4) :
  ∀ k,k<=w.n->Qu s0 (w.calmK k) H b cb (C+300*k)/\Clk w (w.calmK k)/\Mo s0 w (w.calmK k)/\(∀ j,((w.calmK k).seat j).k.vol=(w.seat j).k.vol)/\(∀ c,c<w.n->∀ r,Dk s0 w c r->Dk s0 (w.calmK k) c r)/\(∀ c,c<k->Dk s0 w c 2->Kn s0 (w.calmK k) c)/\(∀ c,c<k->Kn s0 w c->3<=(w.seat c).k.vol->(w.seat c).clock+3<=((w.calmK k).seat c).k.til)
 | 0,_=>⟨h,.refl w,.refl s0 w,fun _=>rfl,fun _ _ _ q=>q,fun c hc=>absurd hc (by omega),fun c hc=>absurd hc (by omega)⟩
 | k+1,hk=>by
  obtain⟨h1,c1,m1,v1,d1,k1,t1⟩:=Qu.calmK h hH hC h4 k (by omega)
  have hn:(w.calmK k).n=w.n:=calmK_n w k
  obtain⟨h2,c2,q2⟩:=h1.turn hH (by omega) (k:=k) (by omega)
  have e:w.calmK (k+1)=((w.calmK k).again k).zy5:=rfl
  rw[e]
  have hkp:=h1.fm.wk.xt.kp
  have hD:∀ c,c<w.n->∀ r,Dk s0 (w.calmK k) c r->Dk s0 ((w.calmK k).again k).zy5 c r:=fun c hc r q=>by
   rcases q with q|q
   ·exact .inl (q2.mo.2 c (by omega) q).1
   ·rcases q2.ask c with p|p
    ·right
     rw[p,q2.vol,c2.k]
     exact q
    ·left
     rw[p.1]
     exact(q2.ren p.2).1
  refine⟨⟨h2.fm.mono (by omega),h2.cl,h2.rd,h2.sh,h2.sv⟩,c1.trans c2,m1.trans q2.mo,fun j=>(q2.vol j).trans (v1 j),fun c hc r q=>hD c hc r (d1 c hc r q),fun c hc q=>?_,fun c hc q1 q3=>?_⟩
  ·by_cases ec:c=k
   ·subst ec
    rcases d1 c (by omega) 2 q with q|q
    ·exact(q2.mo.2 c (by omega) q).1
    ·exact(q2.ren (by have:=(hkp c (by omega)).t;omega)).1
   ·exact(q2.mo.2 c (by omega) (k1 c (by omega) q)).1
  ·by_cases ec:c=k
   ·subst ec
    have hkn:=(m1.2 c (by omega) q1).1
    by_cases ht:((w.calmK c).seat c).k.til<=((w.calmK c).seat c).clock+2
    ·have:=(q2.ren ht).2 hkn
     rw[c1.k,v1] at this
     omega
    ·have:=(q2.mo.2 c (by omega) hkn).2
     rw[c1.k] at ht
     omega
   ·have:=(q2.mo.2 c (by omega) (m1.2 c (by omega) q1).1).2
    have:=t1 c (by omega) q1 q3
    omega
theorem Qu.calm1{s0:Sv}{w:Wd}{H:List Hc}{b:Nat}{cb:Int}{C:Nat}(h:Qu s0 w H b cb C)(hH:H.length+b<=110)(hC:C+1500<=100000000)(hcb:cb+1<549755813888) :
  Qu s0 w.calm1 H b (cb+1) (C+1500)/\w.calm1.n=w.n/\w.calm1.clock=w.clock+1/\(∀ j,j<w.n->(w.calm1.seat j).clock=(w.seat j).clock+1)/\(∀ j,(w.calm1.seat j).k.vol=(w.seat j).k.vol)/\(∀ c,c<w.n->∀ r,Dk s0 w c r->Dk s0 w.calm1 c (r-1))/\(∀ c,c<w.n->Dk s0 w c 2->Kn s0 w.calm1 c)/\(∀ c,c<w.n->Kn s0 w c->3<=(w.seat c).k.vol->(w.calm1.seat c).clock+2<=(w.calm1.seat c).k.til):=by
 have h4:w.n<=4:=by obtain⟨L,s⟩:=h.fm.wk.s2;obtain⟨B,i,_⟩:=s.inv.inv;exact i.n4
 obtain⟨h1,c1,m1,v1,d1,k1,t1⟩:=h.calmK hH (by omega) h4 w.n (Nat.le_refl _)
 obtain⟨h2,r2,e5⟩:=h1.clock hH (by omega) hcb
 have hn:(w.calmK w.n).n=w.n:=calmK_n w w.n
 have e:w.calm1=((w.calmK w.n).goes 1 fun k=>if k<(w.calmK w.n).n then 1 else 0).zy5:=by
  unfold Wd.calm1
  rw[h.fm.wk.up.restart,hn]
 rw[e]
 have hck:∀ j,j<w.n->(((w.calmK w.n).goes 1 fun k=>if k<(w.calmK w.n).n then 1 else 0).zy5.seat j).clock=(w.seat j).clock+1:=fun j hj=>by rw[r2.k j (by omega),c1.k]
 refine⟨⟨h2.fm.mono (by omega),h2.cl,h2.rd,h2.sh,h2.sv⟩,r2.n.trans hn,by rw[r2.t,c1.t],hck,fun j=>by rw[e5];exact v1 j,fun c hc r q=>?_,fun c hc q=>?_,fun c hc q1 q2=>?_⟩
 ·rcases d1 c hc r q with q|q
  ·left;unfold Kn;rw[e5];exact q
  ·right
   rw[e5,hck c hc]
   rw[c1.k] at q
   omega
 ·unfold Kn;rw[e5];exact k1 c hc q
 ·rw[e5,hck c hc]
  have:=t1 c hc q1 q2
  omega
end Wld
end
end Go.Proofs.YtbebfliimjjohabGreatDoor
