/- Parts of the proof. -/
import Derived.Test.YtbebfliimjjohabGreatDoorLc45
import Derived.Test.YtbebfliimjjohabGreatDoorLc41
import Derived.Test.YtbebfliimjjohabGreatDoorLc42
set_option maxRecDepth 100000
set_option maxHeartbeats 8000000
namespace Go.Proofs.YtbebfliimjjohabGreatDoor
section
namespace Wld
open Go.Maps
open Lease (I64 upd zae zad mx hol isH kk dels)
open Cache (E era putL)
open Wal (R timeB)
open Num (M okB)
structure Kp(k:K):Prop where
 e:0<=k.ep/\k.ep<=1099511627776
 s:0<=k.ses/\k.ses<=1099511627776
 a:0<=k.asked
 v:0<=k.vol
 t:k.til<=k.asked+k.vol
theorem Kp.same{k k':K}(h:Kp k)(h1:k'.ep=k.ep)(h2:k'.ses=k.ses)(h3:k'.asked=k.asked)(h4:k'.vol=k.vol)(h5:k'.til=k.til):Kp k':=⟨by rw[h1];exact h.e,by rw[h2];exact h.s,by rw[h3];exact h.a,by rw[h4];exact h.v,by rw[h3,h4,h5];exact h.t⟩
theorem ziz(k:K)(m:M):(k.hear m).1.asked=k.asked/\(k.hear m).1.vol=k.vol/\(k.hear m).1.obj=k.obj/\((k.hear m).1.til=k.til\/(k.hear m).1.til=k.asked+k.vol\/(k.hear m).1.til=0):=by
 have ov:∀ (c:K) (d:ByteArray) (v:Int),(c.overWith d v).asked=c.asked/\(c.overWith d v).vol=c.vol/\(c.overWith d v).obj=c.obj/\(c.overWith d v).til=c.til:=fun _ _ _=>⟨rfl,rfl,rfl,rfl⟩
 unfold K.hear
 split
 ·unfold K.forget;split<;>exact⟨rfl,rfl,rfl,.inl rfl⟩
 ·split
  ·exact⟨rfl,rfl,rfl,.inl rfl⟩
  ·split
   ·unfold K.granted;split
    ·exact⟨rfl,rfl,rfl,.inr (.inl rfl)⟩
    ·exact⟨rfl,rfl,rfl,.inl rfl⟩
   ·split
    ·unfold K.flush;split
     ·exact⟨rfl,rfl,rfl,.inl rfl⟩
     ·exact⟨rfl,rfl,rfl,.inr (.inr rfl)⟩
    ·split
     ·unfold K.read;split
      ·exact⟨rfl,rfl,rfl,.inl rfl⟩
      ·split<;>exact⟨rfl,rfl,rfl,.inl rfl⟩
     ·split
      ·exact⟨rfl,rfl,rfl,.inl rfl⟩
      ·exact⟨rfl,rfl,rfl,.inl rfl⟩
theorem Kp.hear{k:K}(h:Kp k){m:M}(hm:okB m=true):Kp (k.hear m).1:=by
 obtain⟨a1,a2,_,a3⟩:=ziz k m
 have l:=zld k m
 have h1:=h.a
 have h2:=h.v
 have h3:=h.t
 refine⟨?_,?_,by rw[a1];exact h1,by rw[a2];exact h2,by rw[a1,a2];omega⟩
 ·rcases l with q|q
  ·rw[q.1];exact h.e
  ·rw[q.1];exact(zd6 hm).1
 ·rcases l with q|q
  ·rw[q.2];exact h.s
  ·rw[q.2];exact zwy hm
theorem Kp.again{k:K}(h:Kp k){now:Int}(hn:k.asked<=now):Kp (k.again now):=by
 have h1:=h.a
 have h3:=h.t
 unfold K.again
 split
 ·exact⟨h.e,h.s,by show 0<=now;omega,h.v,by show k.til<=now+k.vol;omega⟩
 ·exact h
theorem Kp.begin{k:K}(h:Kp k)(kd ob:Int)(d:ByteArray)(v:Int)(ov ht:Bool)(now:Int):Kp (k.begin kd ob d v ov ht now):=h.same rfl rfl rfl rfl rfl
theorem Kp.looked{k:K}(h:Kp k)(o:Int):Kp (k.looked o):=by
 unfold K.looked
 split
 ·exact h
 ·exact h.same rfl rfl rfl rfl rfl
theorem Kp.reads{k:K}(h:Kp k)(o now:Int):Kp (k.reads o now):=by
 have h1:=(h.begin 1 o ⟨#[]⟩ 0 false false now).looked o
 unfold K.reads
 split
 ·exact h1
 ·exact h1.same rfl rfl rfl rfl rfl
theorem Kp.new{id ob vol:Int}(h:0<=vol):Kp (K.new id ob vol):=⟨⟨Int.le_refl _,by show (0:Int)<=_;omega⟩,⟨Int.le_refl _,by show (0:Int)<=_;omega⟩,Int.le_refl _,h,by show (0:Int)<=0+vol;omega⟩
structure Xt(w:Wd):Prop where
 ex:Ex w
 dn:DnW w
 kp:∀ k,k<w.n->Kp (w.seat k).k
 net:∀ p∈w.net,okB p.2=true
 c0:0<=w.clock
 eo:Eo w
 s0:0<=w.step
theorem znh(w:Wd)(t:Int)(m:M):(w.put t m).step=w.step:=by unfold Wd.put;split<;>rfl
theorem zeo(t:Int):∀ (l:List M) (w:Wd),(w.send t l).step=w.step
 | [],_=>rfl
 | m :: l,w=>(zeo t l (w.put t m)).trans (znh w t m)
theorem zjo:∀ (l:List M) (w:Wd),(w.tells l).step=w.step
 | [],_=>rfl
 | m :: l,w=>(zjo l (w.put (zy8 m.c:Nat) m)).trans (znh w _ m)
theorem zob(w:Wd):w.fallen.step=w.step:=by
 unfold Wd.fallen
 split
 ·rfl
 ·split<;>rfl
theorem zib(w:Wd)(r:Sv×List M):(w.answer r).step=w.step:=(zob _).trans (zjo r.2 _)
theorem zt9{w:Wd}(h:∀ p∈w.net,okB p.2=true)(t:Int)(m:M):∀ p∈(w.put t m).net,okB p.2=true:=by
 unfold Wd.put
 split
 ·rename_i q
  intro p hp
  rcases List.mem_append.1 hp with r|r
  ·exact h p r
  ·rw[List.mem_singleton.1 r];exact q.1
 ·exact h
theorem zni(t:Int):∀ (l:List M) {w:Wd},(∀ p∈w.net,okB p.2=true)->∀ p∈(w.send t l).net,okB p.2=true
 | [],_,h=>h
 | m :: l,_,h=>zni t l (zt9 h t m)
theorem zlh:∀ (l:List M) {w:Wd},(∀ p∈w.net,okB p.2=true)->∀ p∈(w.tells l).net,okB p.2=true
 | [],_,h=>h
 | m :: l,_,h=>zlh l (zt9 h _ m)
theorem zrf(w:Wd):w.fallen.net=w.net:=by
 unfold Wd.fallen
 split
 ·rfl
 ·split<;>rfl
theorem zws(w:Wd)(k:Nat):(w.note k).net=w.net:=by unfold Wd.note;split<;>rfl
theorem zhg(w:Wd)(r:Sv×List M):(w.answer r).seat=w.seat/\(w.answer r).n=w.n/\(w.answer r).clock=w.clock/\((∀ p∈w.net,okB p.2=true)->∀ p∈(w.answer r).net,okB p.2=true):=by
 unfold Wd.answer
 have a:=ze1 ((w.served r.1).tells r.2)
 have b:=zb3 r.2 (w.served r.1)
 exact⟨a.1.trans b.1,a.2.2.1.trans b.2.2.1,a.2.2.2.1.trans b.2.2.2.1,fun h=>by rw[zrf];exact zlh r.2 (w:=w.served r.1) h⟩
theorem Xt.zy6{w:Wd}{H:List Hc}{L:List M}{B:Nat}(x:Xt w)(h:Inv w H L B)(hB:H.length+B<200){m:M}(hm:m∈L):Xt (w.zy6 m):=by
 have e:=x.ex.zy6 h hB hm
 have d:=x.dn.zy6 h hB hm
 unfold Wd.zy6 at e d ⊢
 split at e
 ·exact x
 ·rename_i s hs
  obtain⟨a1,a2,a3,a4⟩:=zhg w (s.hear m w.clock)
  rw[hs] at d
  exact⟨e,d,fun k hk=>by rw[a1];exact x.kp k (by omega),a4 x.net,by rw[a3];exact x.c0,x.eo.same (zdr _ _),by rw[zib];exact x.s0⟩
theorem zua{w:Wd}{s:Sv}(hs:w.sv=some s){r:Sv×List M}(hr:s.tickN w.clock 8=r):w.ticked=w.answer r:=by
 unfold Wd.ticked
 rw[hs,<- hr]
theorem Xt.ticked{w:Wd}{H:List Hc}{L:List M}{B:Nat}(x:Xt w)(h:Inv w H L B)(hB:H.length+B<200):Xt w.ticked:=by
 have e:=x.ex.ticked h hB
 have d:=x.dn.ticked h hB
 cases hs:w.sv with
 | none=>
  have q:w.ticked=w:=by unfold Wd.ticked;rw[hs]
  rw[q];exact x
 | some s=>
  obtain⟨r,hr⟩:∃ r,s.tickN w.clock 8=r:=⟨_,rfl⟩
  rw[zua hs hr] at e d ⊢
  obtain⟨a1,a2,a3,a4⟩:=zhg w r
  exact⟨e,d,fun k hk=>by rw[a1];exact x.kp k (by omega),a4 x.net,by rw[a3];exact x.c0,x.eo.same (zdr _ _),by rw[zib];exact x.s0⟩
theorem Xt.lose{w:Wd}(x:Xt w)(k:Nat):Xt (w.lose k):=⟨x.ex.lose k,x.dn,x.kp,fun p hp=>x.net p (List.mem_of_mem_eraseIdx hp),x.c0,x.eo,x.s0⟩
theorem Xt.stepped{w:Wd}(x:Xt w):Xt { w with step:=w.step+1 }:=⟨x.ex.stepped,x.dn,x.kp,x.net,x.c0,x.eo,by have:=x.s0;show 0<=w.step+1;omega⟩
theorem Xt.twice{w:Wd}(x:Xt w)(k:Nat):Xt (w.twice k):=by
 unfold Wd.twice
 split
 ·exact x
 ·rename_i p hp
  split
  ·refine⟨⟨x.ex.seen,x.ex.rdy⟩,x.dn,x.kp,fun q hq=>?_,x.c0,x.eo,x.s0⟩
   rcases List.mem_append.1 hq with r|r
   ·exact x.net q r
   ·rw[List.mem_singleton.1 r];exact x.net p (List.mem_of_getElem? hp)
  ·exact x
theorem Xt.setK{w:Wd}(x:Xt w)(k:Nat){c:K}(hc:∀ o:Int,c.seen o<=(logL w.rs).vv o.toNat)(hp:Kp c):Xt (w.setK k c):=
 ⟨x.ex.setK k c hc,x.dn,fun j hj=>by
  rw[setK_seat]
  split
  ·exact hp
  ·exact x.kp j hj,x.net,x.c0,x.eo.same (zf7 w k c),x.s0⟩
theorem Xt.sent{w:Wd}(x:Xt w)(t:Int)(l:List M):Xt (w.send t l):=by
 obtain⟨e1,e2,e3,e4,e5,e6⟩:=zdf t l w
 exact⟨x.ex.sent t l,x.dn.sv e6 e3,fun k hk=>by rw[e1];exact x.kp k (by omega),zni t l x.net,by rw[e4];exact x.c0,x.eo.same (zc4 t l w),by rw[zeo];exact x.s0⟩
theorem Xt.noted{w:Wd}(x:Xt w)(hp:0<w.step)(k:Nat):Xt (w.note k):=by
 obtain⟨e1,e2,e3,e4,e5,e6⟩:=zdg w k
 exact⟨x.ex.noted k,x.dn.sv e6 e3,fun j hj=>by rw[e1];exact x.kp j (by omega),by rw[zws];exact x.net,by rw[e4];exact x.c0,x.eo.noted hp k,by rw[(zfd w k).2];exact x.s0⟩
theorem Xt.zy7{w:Wd}{H:List Hc}{L:List M}{B:Nat}(x:Xt w)(h:Inv w H L B){k:Nat}(hk:k<w.n){m:M}(hm:m∈L)(ho:okB m=true)(hp:0<w.step):Xt (w.zy7 k m):=
 ((x.setK k (zk9 x.ex h hk hm) ((x.kp k hk).hear ho)).sent (-1) _).noted (by rw[zeo];exact hp) k
theorem Xt.deliver{w:Wd}{H:List Hc}{L:List M}{B:Nat}(x:Xt w)(h:Inv w H L B)(hB:H.length+B<200)(k:Nat):Xt (w.deliver k):=by
 unfold Wd.deliver
 split
 ·exact x
 ·rename_i p hp
  have h1:=(h.lose k).stepped
  have x1:=(x.lose k).stepped
  have hm:=(h.net p (List.mem_of_getElem? hp)).1
  have ho:=x.net p (List.mem_of_getElem? hp)
  unfold Wd.told
  split
  ·exact Xt.zy6 (w:={ w.lose k with step:=w.step+1 }) x1 h1 hB hm
  ·split
   ·rename_i hh
    have:=of_decide_eq_true hh
    exact Xt.zy7 (w:={ w.lose k with step:=w.step+1 }) x1 h1 (k:=p.1.toNat) (by show p.1.toNat<w.n;have:0<=p.1/\p.1<(w.n:Int):=this;omega) hm ho (by have:=x.s0;show 0<w.step+1;omega)
   ·exact x1
theorem Xt.ask{w:Wd}(x:Xt w){k:Nat}(hk:k<w.n)(ha:(w.seat k).k.asked<=(w.seat k).clock):Xt (w.ask k):=by
 refine(x.setK k (fun o=>?_) ((x.kp k hk).again ha)).sent (-1) _
 unfold K.again
 split<;>exact x.ex.seen k hk o
theorem Xt.again{w:Wd}(x:Xt w){k:Nat}(hk:k<w.n)(ha:(w.seat k).k.asked<=(w.seat k).clock):Xt (w.again k):=x.stepped.ask hk ha
theorem Xt.crash{w:Wd}(x:Xt w):Xt w.crash:=⟨x.ex.crash,fun s hs=>(by cases hs),x.kp,x.net,x.c0,x.eo,by have:=x.s0;show 0<=w.step+1;omega⟩
theorem Xt.zy3{w:Wd}{H:List Hc}{L:List M}{B:Nat}(x:Xt w)(h:Inv w H L B)(a t:Int):Xt (w.zy3 a t):=by
 have e:=x.ex.zy3 h a t
 have q:(w.zy3 a t).n=w.n/\(w.zy3 a t).seat=w.seat/\(w.zy3 a t).net=w.net/\(w.zy3 a t).clock=w.clock/\DnW (w.zy3 a t)/\(w.zy3 a t).step=w.step:=by
  unfold Wd.zy3
  split
  ·rename_i hs
   exact⟨rfl,rfl,rfl,rfl,x.dn,rfl⟩
  ·rename_i s hs
   exact⟨rfl,rfl,rfl,rfl,fun s' q=>(by obtain rfl:=Option.some.inj q;exact x.dn s hs),rfl⟩
 obtain⟨q1,q2,q3,q4,q5,q6⟩:=q
 exact⟨e,q5,fun k hk=>by rw[q2];exact x.kp k (by omega),by rw[q3];exact x.net,by rw[q4];exact x.c0,x.eo.same (zbt w a t),by rw[q6];exact x.s0⟩
theorem Xt.gone{w:Wd}(x:Xt w){b:Int}(hb:0<=b)(hc:w.clock<=549755813888)(f:Nat->Int):Xt (w.gone b f):=
 ⟨x.ex.gone hb hc f,x.dn,x.kp,x.net,by have:=x.c0;exact ze9 (by omega),x.eo.same (znf w b f),by have:=x.s0;show 0<=w.step+1;omega⟩
theorem Xt.goes{w:Wd}{H:List Hc}{L:List M}{B:Nat}(x:Xt w)(h:Inv w H L B)(hB:H.length+B<200){b:Int}(hb:0<=b)(hc:w.clock<=549755813888)(f:Nat->Int):Xt (w.goes b f):=(x.gone hb hc f).ticked (h.gone b f) hB
theorem Xt.restart{w:Wd}{H:List Hc}{L:List M}{B:Nat}(x:Xt w)(h:Inv w H L B)(hB:H.length+B<200)(ht:0<=w.tv):Xt w.restart:=by
 have e:=x.ex.restart h hB x.c0 ht
 unfold Wd.restart at e ⊢
 split at e
 ·exact x
 ·exact⟨e,DnW.start (w:={ w with step:=w.step+1 }) h.stepped hB,x.kp,x.net,x.c0,x.eo,by have:=x.s0;show 0<=w.step+1;omega⟩
theorem Xt.enter{w:Wd}{H:List Hc}{L:List M}{B:Nat}(x:Xt w)(h:Inv w H L B){k:Nat}(hk:k<w.n){life:Int}(hl:(w.seat k).life<life)(hv:0<=short w.td w.tv):Xt (w.enter k life):=by
 refine⟨x.ex.enter h k life,x.dn,fun j hj=>?_,x.net,x.c0,x.eo.enter h hk hl,x.s0⟩
 show Kp (zy9 w.seat k _ j).k
 unfold zy9
 split
 ·exact Kp.new hv
 ·exact x.kp j hj
theorem Xt.reborn{w:Wd}{H:List Hc}{L:List M}{B:Nat}(x:Xt w)(h:Inv w H L B){k:Nat}(hk:k<w.n)(hv:0<=short w.td w.tv):Xt (w.reborn k):=Xt.enter (w:={ w with step:=w.step+1 }) x.stepped h.stepped hk (by show (w.seat k).life<(w.seat k).life+1;omega) hv
theorem Xt.opens{w:Wd}(x:Xt w){k:Nat}(hcl:(w.seat k).call<0){c:K}(hc:∀ o:Int,c.seen o<=(logL w.rs).vv o.toNat)(hp:Kp c):Xt (w.opens k c):=by
 refine⟨x.ex.opens k c hc,x.dn,fun j hj=>?_,x.net,x.c0,x.eo.opens c hcl,by have:=x.s0;show 0<=w.step+1;omega⟩
 show Kp (zy9 w.seat k _ j).k
 unfold zy9
 split
 ·exact hp
 ·exact x.kp j hj
structure Safe2(hon:Prop)(w:Wd)(H:List Hc)(L:List M)(b:Nat)(cb:Int):Prop extends Safe hon w H L b cb where
 xt:hon->Xt w
theorem Safe2.with{hon:Prop}{w w':Wd}{H H':List Hc}{L:List M}{b b':Nat}{cb cb':Int}(h:Safe2 hon w H L b cb)(k:∃ L',Safe hon w' H' L' b' cb')(hx:∀ B,Inv w H L B->H.length+B<=H.length+b->Fr w H L->Xt w->Xt w'):∃ L',Safe2 hon w' H' L' b' cb':=by
 obtain⟨L',k⟩:=k
 obtain⟨B,i,hB⟩:=h.inv.inv
 exact⟨L',k,fun q=>hx B i (by omega) (h.fr q) (h.xt q)⟩
theorem Safe2.mono{hon:Prop}{w:Wd}{H:List Hc}{L:List M}{b b':Nat}{cb cb':Int}(h:Safe2 hon w H L b cb)(hb:b<=b')(hc:cb<=cb'):Safe2 hon w H L b' cb':=⟨h.toSafe.mono hb hc,h.xt⟩
theorem Safe2.lose{hon:Prop}{w:Wd}{H:List Hc}{L:List M}{b:Nat}{cb:Int}(h:Safe2 hon w H L b cb)(k:Nat):Safe2 hon (w.lose k) H L b cb:=⟨h.toSafe.lose k,fun q=>(h.xt q).lose k⟩
theorem Safe2.twice{hon:Prop}{w:Wd}{H:List Hc}{L:List M}{b:Nat}{cb:Int}(h:Safe2 hon w H L b cb)(k:Nat):Safe2 hon (w.twice k) H L b cb:=⟨h.toSafe.twice k,fun q=>(h.xt q).twice k⟩
theorem Safe2.deliver{hon:Prop}{w:Wd}{H:List Hc}{L:List M}{b:Nat}{cb:Int}(h:Safe2 hon w H L b cb)(hb:H.length+b<200)(k:Nat):∃ L',Safe2 hon (w.deliver k) H L' b cb:=
 h.with (h.toSafe.deliver hb k) fun _ i hB _ x=>x.deliver i (by omega) k
theorem Safe2.again{hon:Prop}{w:Wd}{H:List Hc}{L:List M}{b:Nat}{cb:Int}(h:Safe2 hon w H L b cb){k:Nat}(hk:k<w.n):∃ L',Safe2 hon (w.again k) H L' b cb:=
 h.with (h.toSafe.again hk) fun _ _ _ f x=>x.again hk (f.st k hk).ask
theorem Xt.begin{w:Wd}(x:Xt w){k:Nat}(hk:k<w.n){c:K}(hc:∀ o:Int,c.seen o<=(logL w.rs).vv o.toNat)(hp:Kp c)(ha:c.asked<=(w.seat k).clock)(hcl:(w.seat k).call<0):Xt (w.begin k c):=by
 have x1:=(x.opens hcl hc hp).noted (by have:=x.s0;show 0<w.step+1;omega) k
 have hs:(((w.opens k c).note k).seat k).k=c:=by
  rw[(zdg _ k).1]
  show (zy9 w.seat k _ k).k=c
  rw[zaa]
 have hcl:(((w.opens k c).note k).seat k).clock=(w.seat k).clock:=(zg6 w k c).k k
 unfold Wd.begin Wd.asked
 split
 ·exact x1
 ·exact x1.ask (by rw[zmt];exact hk) (by rw[hs,hcl];exact ha)
theorem zoc(k:K)(o now:Int):(k.reads o now).asked=k.asked:=by
 have l1:=(zch (k.begin 1 o ⟨#[]⟩ 0 false false now) o).2.2.2.2.2.2.2.2.2.2.2.2.2.1
 unfold K.reads
 split
 ·exact l1
 ·exact l1
theorem zrg{w:Wd}{H:List Hc}{L:List M}{B:Nat}(x:Ex w)(h:Inv w H L B){k:Nat}(hk:k<w.n)(o now y:Int):((w.seat k).k.reads o now).seen y<=(logL w.rs).vv y.toNat:=by
 have h0:=x.seen k hk
 unfold K.reads
 split
 ·rw[(zch _ _).2.2.2.2.2.1];exact h0 y
 ·rename_i e he
  obtain⟨a1,a2,_⟩:=zmy he
  have hval:=(h.st k hk).kept e a1
  have hle:=(hval.le h.log).2
  rw[a2] at hle
  have l1:=(zch ((w.seat k).k.begin 1 o ⟨#[]⟩ 0 false false now) o).2.2.2.2.2.1
  have l2:=(zch ((w.seat k).k.begin 1 o ⟨#[]⟩ 0 false false now) o).2.2.2.1
  show upd (((w.seat k).k.begin 1 o ⟨#[]⟩ 0 false false now).looked o).seen (((w.seat k).k.begin 1 o ⟨#[]⟩ 0 false false now).looked o).cob (mx ((((w.seat k).k.begin 1 o ⟨#[]⟩ 0 false false now).looked o).seen (((w.seat k).k.begin 1 o ⟨#[]⟩ 0 false false now).looked o).cob) e.v) y<=_
  rw[l1,l2]
  show upd (w.seat k).k.seen o (mx ((w.seat k).k.seen o) e.v) y<=_
  by_cases e1:y=o
  ·rw[e1,zae];exact zqx (h0 _) hle
  ·rw[zad e1];exact h0 y
theorem zhh{w:Wd}{H:List Hc}{k:Nat}(h:SeatI w H k)(hf:(w.seat k).k.zy2=false):(w.seat k).call<0:=by
 have:=h.isO
 rw[hf] at this
 have:=of_decide_eq_false this.symm
 omega
theorem Safe2.read{hon:Prop}{w:Wd}{H:List Hc}{L:List M}{b:Nat}{cb:Int}(h:Safe2 hon w H L b cb){k:Nat}(hk:k<w.n){o:Int}(ho:0<=o)(ho8:o<8)(hf:(w.seat k).k.zy2=false):∃ g L',g.kd=1/\Safe2 hon (w.read k o) (H++[g]) L' b cb:=by
 obtain⟨g,L',g1,s⟩:=h.toSafe.read hk ho ho8 hf
 obtain⟨B,i,hB⟩:=h.inv.inv
 exact⟨g,L',g1,s,fun q=>(h.xt q).begin hk (fun y=>zrg (h.xt q).ex i hk o _ y) (((h.xt q).kp k hk).reads o _) (by rw[zoc];exact((h.fr q).st k hk).ask) (zhh (i.st k hk) hf)⟩
theorem Safe2.write{hon:Prop}{w:Wd}{H:List Hc}{L:List M}{b:Nat}{cb:Int}(h:Safe2 hon w H L b cb){k:Nat}(hk:k<w.n){o:Int}(ho:0<=o)(ho8:o<8)(hf:(w.seat k).k.zy2=false){d:ByteArray}(hd:d≠⟨#[]⟩)(hdd:∀ g∈H,g.kd=2->g.d≠d):∃ g L',g.kd=2/\g.d=d/\Safe2 hon (w.write k o d) (H++[g]) L' b cb:=by
 obtain⟨g,L',g1,g2,s⟩:=h.toSafe.write hk ho ho8 hf hd hdd
 exact⟨g,L',g1,g2,s,fun q=>(h.xt q).begin hk (fun y=>(h.xt q).ex.seen k hk y) (((h.xt q).kp k hk).begin 2 o d 0 false false _) ((h.fr q).st k hk).ask (h.inv.inv.elim fun _ i=>zhh (i.1.st k hk) hf)⟩
theorem Safe2.crash{hon:Prop}{w:Wd}{H:List Hc}{L:List M}{b:Nat}{cb:Int}(h:Safe2 hon w H L b cb):Safe2 hon w.crash H L (b+1) cb:=⟨h.toSafe.crash,fun q=>(h.xt q).crash⟩
theorem Safe2.zy3{hon:Prop}{w:Wd}{H:List Hc}{L:List M}{b:Nat}{cb:Int}(h:Safe2 hon w H L b cb)(x t:Int):Safe2 hon (w.zy3 x t) H L (b+1) cb:=
 ⟨h.toSafe.zy3 x t,fun q=>h.inv.inv.elim fun _ i=>(h.xt q).zy3 i.1 x t⟩
theorem Safe2.restart{hon:Prop}{w:Wd}{H:List Hc}{L:List M}{b:Nat}{cb:Int}(h:Safe2 hon w H L b cb)(hb:H.length+b<200):Safe2 hon w.restart H L b cb:=
 ⟨h.toSafe.restart hb,fun q=>h.inv.inv.elim fun _ i=>(h.xt q).restart i.1 (by omega) (h.fr q).v0⟩
theorem Safe2.reborn{hon:Prop}{w:Wd}{H:List Hc}{L:List M}{b:Nat}{cb:Int}(h:Safe2 hon w H L b cb){k:Nat}(hk:k<w.n):Safe2 hon (w.reborn k) H L b cb:=
 ⟨h.toSafe.reborn hk,fun q=>h.inv.inv.elim fun _ i=>(h.xt q).reborn i.1 hk (zd4 (h.fr q).d0 (h.fr q).d1 (h.fr q).v0)⟩
theorem Safe2.goes{hon:Prop}{w:Wd}{H:List Hc}{L:List M}{b:Nat}{cb:Int}(h:Safe2 hon w H L b cb)(hb:H.length+b<200){a:Int}{f:Nat->Int}{g:Int}(h0:0<=a)(ha:a<=g)(hf:∀ k,k<w.n->0<=f k/\f k<=g)(hcb:cb+g<549755813888)(hh:hon->∀ k,k<w.n->a*(1000-w.td)<=f k*(1000+w.td)):∃ L',Safe2 hon (w.goes a f) H L' b (cb+g):=
 h.with (h.toSafe.goes hb ha hf hcb hh) fun _ i hB _ x=>x.goes i (by omega) h0 (by have:=h.ck.1;omega) f
theorem Safe2.drain{hon:Prop}{H:List Hc}{b:Nat}{cb:Int}(hb:H.length+b<200):∀ (f:Nat) {w:Wd} {L:List M},Safe2 hon w H L b cb->∃ L',Safe2 hon (w.drain f) H L' b cb
 | 0,_,L,h=>⟨L,h⟩
 | f+1,w,L,h=>by
  unfold Wd.drain
  split
  ·exact⟨L,h⟩
  ·obtain⟨L1,h1⟩:=h.deliver hb 0
   exact Safe2.drain hb f h1
theorem Safe2.calmK{hon:Prop}{w:Wd}{H:List Hc}{L:List M}{b:Nat}{cb:Int}(h:Safe2 hon w H L b cb)(hb:H.length+b<200):∀ k,k<=w.n->∃ L',Safe2 hon (w.calmK k) H L' b cb
 | 0,_=>⟨L,h⟩
 | k+1,hk=>by
  obtain⟨L1,h1⟩:=h.calmK hb k (by omega)
  obtain⟨L2,h2⟩:=h1.again (k:=k) (by rw[calmK_n];omega)
  exact Safe2.drain hb _ h2
theorem Safe2.calm1{hon:Prop}{w:Wd}{H:List Hc}{L:List M}{b:Nat}{cb:Int}(h:Safe2 hon w H L b cb)(hb:H.length+b<200)(hcb:cb+1<549755813888):∃ L',Safe2 hon w.calm1 H L' b (cb+1):=by
 obtain⟨L1,h1⟩:=(h.restart hb).calmK hb w.n (by rw[restart_n];omega)
 have hn:(w.restart.calmK w.n).n=w.n:=by rw[calmK_n,restart_n]
 obtain⟨L2,h2⟩:=h1.goes (a:=1) (f:=fun k=>if k<w.n then 1 else 0) (g:=1) hb (by omega) (by omega) (fun k _=>by split<;>omega) hcb (fun q k hk=>by
  have hk':k<w.n:=by rw[<- hn];exact hk
  rw[if_pos hk']
  have:=(h1.fr q).d0
  omega)
 exact Safe2.drain hb _ h2
theorem Safe2.calm{hon:Prop}{w:Wd}{H:List Hc}{L:List M}{b:Nat}{cb:Int}(h:Safe2 hon w H L b cb)(hb:H.length+b<200)(h0:0<=cb):∀ r:Nat,cb+r<549755813888->∃ L',Safe2 hon (w.calm r) H L' b (cb+r)
 | 0,_=>⟨L,h.mono (Nat.le_refl _) (by omega)⟩
 | r+1,hr=>by
  obtain⟨L1,h1⟩:=h.calm hb h0 r (by omega)
  obtain⟨L2,h2⟩:=h1.calm1 hb (by omega)
  exact⟨L2,h2.mono (Nat.le_refl _) (by omega)⟩
theorem Safe2.first{to' tv td:Int}(hd0:0<=td)(hd1:td<1000)(hv:0<=tv){n:Nat}(hn:n<=4)(hon:Prop):Safe2 hon (Wd.bare to' tv td n).start [] [] 1 0:=
 ⟨Safe.first hd0 hd1 hv hn hon,fun _=>⟨Ex.first hv n,DnW.start (Inv.bare to' tv td hn) (by decide),fun _ _=>Kp.new (zd4 hd0 hd1 hv),fun p hp=>(by cases hp),Int.le_refl 0,fun i e he=>(by simp[Wd.bare,Wd.start,Wd.served] at he),Int.le_refl 0⟩⟩
end Wld
end
section
namespace Wld
open Go.RowKit Go.Maps
open Lease (upd zae zad hol dels mx kk isH I64 objB)
open Wal (R mayB timeB)
open Num (M okB)
def TxtIs(d:ByteArray)(j:Nat):Prop:=d.size=3/\(d.data[1]?).map UInt8.toNat=some j
theorem TxtIs.ne{d d':ByteArray}{i j:Nat}(h:TxtIs d i)(k:TxtIs d' j)(hn:i≠j):d≠d':=by
 rintro rfl
 have:=h.2.symm.trans k.2
 exact hn (Option.some.inj this)
theorem TxtIs.some{d:ByteArray}{j:Nat}(h:TxtIs d j):d≠⟨#[]⟩:=by
 rintro rfl
 exact absurd h.1 (by decide)
structure Good(s:Wd)(wr:Nat)(lies:Bool)(i:Nat):Prop where
 ex:∃ (H:List Hc) (L:List M) (b C:Nat),Safe2 (lies=false) s H L b (40*(i:Int))/\H.length+b<=1+i/\WdB s C/\C<=60000*i/\∀ g∈H,g.kd=2->∃ j,j<=wr/\TxtIs g.d j
 wr:wr<=i
theorem Good.first{to' tv td:Int}(h1:1<=tv)(h4:0<=td)(h5:td<=500){n:Nat}(hn:n<=4)(hB:WdB (Wd.bare to' tv td n) 0)(lies:Bool):Good (Wd.bare to' tv td n).start 0 lies 0:=
 ⟨⟨[],[],1,0,Safe2.first h4 (by omega) (by omega) hn _,by simp,hB.start (by simp[Wd.bare]),by omega,by simp⟩,by omega⟩
theorem Good.keep{s s':Wd}{wr:Nat}{lies:Bool}{i:Nat}(h:Good s wr lies i)(hs:∀ (H:List Hc) (L:List M) b cb,Safe2 (lies=false) s H L b cb->H.length+b<200->∃ L',Safe2 (lies=false) s' H L' b cb)(hB:∀ C,WdB s C->WdB s' (C+60000))(hi:i<=100):Good s' wr lies (i+1):=by
 obtain⟨H,L,b,C,k1,k2,k3,k4,k5⟩:=h.ex
 obtain⟨L',k6⟩:=hs H L b _ k1 (by omega)
 exact⟨⟨H,L',b,C+60000,k6.mono (Nat.le_refl _) (by omega),by omega,hB C k3,by omega,k5⟩,by have:=h.wr;omega⟩
theorem Good.idle{s:Wd}{wr wr':Nat}{lies:Bool}{i:Nat}(h:Good s wr lies i)(hw:wr<=wr')(hw2:wr'<=i+1):Good s wr' lies (i+1):=by
 obtain⟨H,L,b,C,k1,k2,k3,k4,k5⟩:=h.ex
 exact⟨⟨H,L,b,C,k1.mono (Nat.le_refl _) (by omega),by omega,k3,by omega,fun g hg q=>(k5 g hg q).imp fun j r=>⟨by omega,r.2⟩⟩,by omega⟩
theorem zpf{k:K}{o:Int}(h:k.freeE o=0):k.zy2=false/\0<=o/\o<8:=by
 unfold K.freeE at h
 split at h
 ·cases h
 ·rename_i q
  split at h
  ·rename_i p
   have:=Num.zaq (show Num.inB o 0 7=true from p)
   exact⟨by simpa using q,this.1,by omega⟩
  ·cases h
theorem Good.read{s:Wd}{wr:Nat}{lies:Bool}{i:Nat}(h:Good s wr lies i){k:Nat}(hk:k<s.n){o:Int}(hf:(s.seat k).k.freeE o=0):Good (s.read k o) wr lies (i+1):=by
 obtain⟨H,L,b,C,k1,k2,k3,k4,k5⟩:=h.ex
 obtain⟨f1,f2,f3⟩:=zpf hf
 obtain⟨g,L',g1,k6⟩:=k1.read hk f2 f3 f1
 have hsb:=k3.st k hk
 have hkb:=KB.reads hsb.k (o:=o) (now:=(s.seat k).clock) f2 (by omega) hsb.c0 hsb.c1
 refine⟨⟨H++[g],L',b,C+60000,k6.mono (Nat.le_refl _) (by omega),by simp;omega,(WdB.begin k3 hk hkb).mono (by omega),by omega,fun x hx q=>?_⟩,by have:=h.wr;omega⟩
 rcases za5 hx with p|p
 ·exact k5 x p q
 ·rw[p,g1] at q;exact absurd q (by decide)
theorem Good.write{s:Wd}{wr:Nat}{lies:Bool}{i:Nat}(h:Good s wr lies i){k:Nat}(hk:k<s.n){o:Int}{d:ByteArray}(hd:TxtIs d (wr+1))(hf:(s.seat k).k.writeE o d=0):Good (s.write k o d) (wr+1) lies (i+1):=by
 obtain⟨H,L,b,C,k1,k2,k3,k4,k5⟩:=h.ex
 have hf':(s.seat k).k.freeE o=0:=by
  unfold K.writeE at hf
  split at hf
  ·rename_i q;exact absurd hf q
  ·rename_i q;simpa using q
 obtain⟨f1,f2,f3⟩:=zpf hf'
 obtain⟨g,L',g1,g2,k6⟩:=k1.write hk f2 f3 f1 hd.some (d:=d) fun x hx q=>by
  obtain⟨j,j1,j2⟩:=k5 x hx q
  exact j2.ne hd (by omega)
 have hsb:=k3.st k hk
 have hkb:=KB.begin hsb.k (o:=o) (now:=(s.seat k).clock) 2 (d:=d) (by rw[hd.1];omega) 0 false false f2 (by omega) hsb.c0 hsb.c1
 refine⟨⟨H++[g],L',b,C+60000,k6.mono (Nat.le_refl _) (by omega),by simp;omega,(WdB.begin k3 hk (hkb.mono (by omega))).mono (by omega),by omega,fun x hx q=>?_⟩,by have:=h.wr;omega⟩
 rcases za5 hx with p|p
 ·exact(k5 x p q).imp fun j r=>⟨by omega,r.2⟩
 ·exact⟨wr+1,Nat.le_refl _,by rw[p,g2];exact hd⟩
theorem Good.crash{s:Wd}{wr:Nat}{lies:Bool}{i:Nat}(h:Good s wr lies i):Good s.crash wr lies (i+1):=by
 obtain⟨H,L,b,C,k1,k2,k3,k4,k5⟩:=h.ex
 exact⟨⟨H,L,b+1,C+60000,k1.crash.mono (Nat.le_refl _) (by omega),by omega,k3.crash.mono (by omega),by omega,k5⟩,by have:=h.wr;omega⟩
theorem Good.zy3{s:Wd}{wr:Nat}{lies:Bool}{i:Nat}(h:Good s wr lies i){x:Int}(hx:x<=9223372036854775807)(t:Int):Good (s.zy3 x t) wr lies (i+1):=by
 obtain⟨H,L,b,C,k1,k2,k3,k4,k5⟩:=h.ex
 exact⟨⟨H,L,b+1,C+60000,(k1.zy3 x t).mono (Nat.le_refl _) (by omega),by omega,(k3.zy3 hx t).mono (by omega),by omega,k5⟩,by have:=h.wr;omega⟩
theorem Good.goes{s:Wd}{wr:Nat}{lies:Bool}{i:Nat}(h:Good s wr lies i)(hi:i<=100){g b0:Int}{f:Nat->Int}(hb0:0<=b0/\b0<=40)(hf:∀ k,k<s.n->0<=f k/\f k<=40)(hh:lies=false->1000*b0<=g*(1000+s.td)/\∀ k,k<s.n->g*(1000-s.td)<=1000*f k):Good (s.goes b0 f) wr lies (i+1):=by
 obtain⟨H,L,b,C,k1,k2,k3,k4,k5⟩:=h.ex
 have d0:=k3.td0
 have d1:=k3.td1
 obtain⟨L',k6⟩:=k1.goes (a:=b0) (f:=f) (g:=40) (by omega) hb0.1 hb0.2 hf (by omega) fun q k hk=>by
  obtain⟨q1,q2⟩:=hh q
  have q3:=q2 k hk
  have e1:1000*b0*(1000-s.td)<=g*(1000+s.td)*(1000-s.td):=Int.mul_le_mul_of_nonneg_right q1 (by omega)
  have e2:g*(1000-s.td)*(1000+s.td)<=1000*f k*(1000+s.td):=Int.mul_le_mul_of_nonneg_right q3 (by omega)
  have e3:g*(1000+s.td)*(1000-s.td)=g*(1000-s.td)*(1000+s.td):=by rw[Int.mul_assoc,Int.mul_assoc,Int.mul_comm (1000+s.td)]
  have e4:1000*b0*(1000-s.td)=1000*(b0*(1000-s.td)):=Int.mul_assoc _ _ _
  have e5:1000*f k*(1000+s.td)=1000*(f k*(1000+s.td)):=Int.mul_assoc _ _ _
  omega
 exact⟨⟨H,L',b,C+60000,k6.mono (Nat.le_refl _) (by omega),by omega,(k3.goes hb0.1 fun k hk=>(hf k hk).1).mono (by omega),by omega,k5⟩,by have:=h.wr;omega⟩
end Wld
end
end Go.Proofs.YtbebfliimjjohabGreatDoor
