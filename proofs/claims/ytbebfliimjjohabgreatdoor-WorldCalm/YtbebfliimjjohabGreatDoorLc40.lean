/- Parts of the proof. -/
import Derived.Test.YtbebfliimjjohabGreatDoorLc39
set_option maxRecDepth 100000
set_option maxHeartbeats 8000000
namespace Go.Proofs.YtbebfliimjjohabGreatDoor
section
namespace Wld
open Go.RowKit Go.Maps
open Lease (upd zae zad hol dels mx kk isH)
open Cache (E era putL)
open Wal (R mayB timeB)
open Num (M okB)
theorem Lv.congr{w w':Wd}{s:Sv}{k:Nat}{e ss x:Int}(h:Lv w s k e ss x)(h1:w'.td=w.td)(h2:w'.tv=w.tv)(h3:w'.clock=w.clock)(h4:(w'.seat k).clock=(w.seat k).clock):Lv w' s k e ss x:=by
 unfold Lv at *
 rw[h1,h2,h3,h4]
 exact h
theorem Cl.congr{w w':Wd}{L L':List M}{k o:Nat}{v u e ss:Int}(h:Cl w L k o v u e ss)(h1:w'.td=w.td)(h2:w'.to=w.to)(h3:w'.clock=w.clock)(h4:(w'.seat k).clock=(w.seat k).clock)(h5:w'.rs=w.rs)(h6:w'.sv=w.sv)(hd:Dead w L k e ss->Dead w' L' k e ss):Cl w' L' k o v u e ss:=by
 unfold Cl at *
 rw[h1,h2,h3,h4,h5,h6]
 exact h.imp id fun q=>q.imp (fun p=>⟨hd p.1,p.2⟩) id
theorem Dead.congr{w w':Wd}{L L':List M}{k:Nat}{e ss:Int}(h:Dead w L k e ss)(h1:w'.seat k=w.seat k)(hL:∀ g∈L',g.k=7->g∈L):Dead w' L' k e ss:=by
 unfold Dead at *
 rw[h1]
 exact⟨h.1,fun g hg g7=>h.2 g (hL g hg g7) g7⟩
theorem Fr.turn{w w':Wd}{H H':List Hc}{L L':List M}(f:Fr w H L){k:Nat}{c:K}
  (e1:w'.td=w.td) (e2:w'.tv=w.tv) (e3:w'.to=w.to) (e4:w'.clock=w.clock) (e5:w'.n=w.n) (e6:w'.rs=w.rs) (e7:w'.sv=w.sv) (e8:∀ j,j≠k->w'.seat j=w.seat j) (e9:(w'.seat k).k=c) (e10:(w'.seat k).clock=(w.seat k).clock)
  (hfr:∀ (i:Nat) e g,w'.events[i]?=some e->H'[i]?=some g->e.kind=1->e.ended≠0->g.lo<=e.ver)
  (new:∀ m∈L',m∈L\/m.k=1\/m.k=2\/(m.k=3/\m.c=c.id/\m.n<=c.renewal)\/(m.k=4/\m.c=c.id/\0<=m.o/\m.o<8/\m.e<=(logL w.rs).ep/\(m.e=(logL w.rs).ep->m.v<=(logL w.rs).vv m.o.toNat+1)/\∀ s,w.sv=some s->m.e=s.epoch->m.v=s.vv m.o.toNat+1->s.zzf m.o.toNat≠[]))
  (cid:zy8 c.id=k)
  (hrb:∀ m∈L,m.k=3\/m.k=7\/m.k=8->zy8 m.c=k->m.c<=c.id/\(m.c=c.id->m.n<=c.renewal))
  (hvol:c.vol=short w.td w.tv) (hobj:c.obj=short w.td w.to) (hask:c.asked<=(w.seat k).clock) (htil:c.til<=(w.seat k).clock+short w.td w.tv) (hsnt:c.sent<=(w.seat k).clock)
  (hlb:c.ep<=(logL w.rs).ep/\∀ s,w.sv=some s->c.ep=s.epoch->c.ses<=s.ses k)
  (hdead:∀ e ss,Dead w L k e ss->Dead w' L k e ss)
  (hvk:∀ s,w.sv=some s->Lv w s k c.ep c.ses c.til)
  (hvg:∀ s,w.sv=some s->∀ g∈L,g.k=7->g.c=c.id->g.n=c.renewal->Lv w s k g.e g.s (c.asked+c.vol))
  (hck:∀ x∈c.kept,0<=x.o/\x.o<8/\Cl w L k x.o.toNat x.v x.u c.ep c.ses)
  (hcp:∀ m,Pend w' L k m->Cl w L k c.cob.toNat m.v (c.sent+c.obj) m.e m.s)
  (hac:∀ s,w.sv=some s->∀ m∈L',m.k=4->zy8 m.c=k->m.e=s.epoch->m.v=s.vv m.o.toNat+1->NoCl w' L k m.o):Fr w' H' L':=by
 have old:∀ m∈L',m.k=5\/m.k=7\/m.k=8\/m.k=9->m∈L:=fun m hm hk=>by
  rcases new m hm with q|q|q|q|q
  ·exact q
  all_goals omega
 have n7:∀ m∈L',m.k=7->m∈L:=fun m hm q=>old m hm (.inr (.inl q))
 have n5:∀ m∈L',m.k=5->m∈L:=fun m hm q=>old m hm (.inl q)
 have lv:∀ j s e ss x,Lv w s j e ss x->(w'.seat j).clock=(w.seat j).clock->Lv w' s j e ss x:=fun j s e ss x q p=>q.congr e1 e2 e4 p
 have cj:∀ j,(w'.seat j).clock=(w.seat j).clock:=fun j=>by
  by_cases e:j=k
  ·subst e;exact e10
  ·rw[e8 j e]
 refine⟨by rw[e1];exact f.d0,by rw[e1];exact f.d1,by rw[e2];exact f.v0,fun s hs=>by rw[e2,e3];exact f.sv s (by rw[<- e7];exact hs),by rw[e6];exact f.ep,?_,?_,?_,?_,?_,?_,hfr⟩
 ·intro m hm hk
  rw[e6]
  have q:=f.lb m (old m hm (by omega)) hk
  exact⟨q.1,fun s hs=>q.2 s (by rw[<- e7];exact hs)⟩
 ·intro m hm hk
  rw[e6]
  rcases new m hm with q|q|q|q|q
  ·exact f.ib m q hk
  ·omega
  ·omega
  ·omega
  ·exact⟨q.2.2.1,q.2.2.2.1,q.2.2.2.2.1,q.2.2.2.2.2.1⟩
 ·intro m hm hk j hj ej
  rw[e5] at hj
  by_cases e:j=k
  ·subst e
   rw[e9]
   rcases new m hm with q|q|q|q|q
   ·exact hrb m q hk ej
   ·omega
   ·omega
   ·exact⟨by omega,fun _=>q.2.2⟩
   ·omega
  ·rw[e8 j e]
   rcases new m hm with q|q|q|q|q
   ·exact f.rb m q hk j hj ej
   ·omega
   ·omega
   ·exfalso;rw[q.2.1,cid] at ej;exact e ej.symm
   ·omega
 ·intro s hs m hm hk q1 q2
  exact f.iv s (by rw[<- e7];exact hs) m (old m hm (by omega)) hk q1 q2
 ·intro s hs m hm hk q1 q2
  rw[e7] at hs
  have hw:s.zzf m.o.toNat≠[]:=by
   rcases new m hm with q|q|q|q|q
   ·exact(f.ac s hs m q hk q1 q2).1
   ·omega
   ·omega
   ·omega
   ·exact q.2.2.2.2.2.2 s hs q1 q2
  refine⟨hw,fun hn=>?_⟩
  rw[e5] at hn
  have grow:∀ j o,NoCl w' L j o->NoCl w' L' j o:=fun j o q=>⟨q.1,fun ec x hx=>q.2 ec x (hx.sub n5)⟩
  by_cases e:zy8 m.c=k
  ·rw[e];exact grow _ _ (hac s hs m hm hk e q1 q2)
  ·apply grow
   have hmL:m∈L:=by
    rcases new m hm with q|q|q|q|q
    ·exact q
    ·omega
    ·omega
    ·omega
    ·exfalso;rw[q.2.1,cid] at e;exact e rfl
   have:=(f.ac s hs m hmL hk q1 q2).2 hn
   unfold NoCl at *
   rw[e8 _ e]
   exact⟨this.1,fun ec x hx=>this.2 ec x ⟨hx.mem,hx.k5,hx.l,by have:=hx.c;rw[e8 _ e] at this;exact this,by have:=hx.n;rw[e8 _ e] at this;exact this,by have:=hx.o;rw[e8 _ e] at this;exact this,by have:=hx.cm;rw[e8 _ e] at this;exact this⟩⟩
 ·intro j hj
  rw[e5] at hj
  have g:=f.st j hj
  by_cases e:j=k
  ·subst e
   have dl:∀ e ss,Dead w L j e ss->Dead w' L' j e ss:=fun e ss q=>(hdead e ss q).congr rfl n7
   refine⟨by rw[e10];exact g.t0,by rw[e9,e1,e2];exact hvol,by rw[e9,e1,e3];exact hobj,by rw[e9,e10];exact hask,by rw[e9,e10,e1,e2];exact htil,by rw[e9,e10];exact hsnt,by rw[e9,e6,e7];exact hlb,?_,?_,?_,?_⟩
   ·intro s hs;rw[e7] at hs;rw[e9];exact lv _ _ _ _ _ (hvk s hs) e10
   ·intro s hs y hy y7 y1 y2;rw[e7] at hs;rw[e9] at y1 y2 ⊢;exact lv _ _ _ _ _ (hvg s hs y (n7 y hy y7) y7 y1 y2) e10
   ·intro x hx;rw[e9] at hx ⊢;exact⟨(hck x hx).1,(hck x hx).2.1,(hck x hx).2.2.congr e1 e3 e4 e10 e6 e7 (dl _ _)⟩
   ·intro x hx;rw[e9];exact(hcp x (hx.sub n5)).congr e1 e3 e4 e10 e6 e7 (dl _ _)
  ·have es:=e8 j e
   have dl:∀ e ss,Dead w L j e ss->Dead w' L' j e ss:=fun e ss q=>q.congr es n7
   refine⟨by rw[es];exact g.t0,by rw[es,e1,e2];exact g.vol,by rw[es,e1,e3];exact g.obj,by rw[es];exact g.ask,by rw[es,e1,e2];exact g.til,by rw[es];exact g.snt,by rw[es,e6,e7];exact g.lb,?_,?_,?_,?_⟩
   ·intro s hs;rw[e7] at hs;rw[es];exact lv _ _ _ _ _ (g.vk s hs) (by rw[es])
   ·intro s hs y hy y7 y1 y2;rw[e7] at hs;rw[es] at y1 y2 ⊢;exact lv _ _ _ _ _ (g.vg s hs y (n7 y hy y7) y7 y1 y2) (by rw[es])
   ·intro x hx;rw[es] at hx ⊢;exact⟨(g.ck x hx).1,(g.ck x hx).2.1,(g.ck x hx).2.2.congr e1 e3 e4 (by rw[es]) e6 e7 (dl _ _)⟩
   ·intro x hx
    rw[es]
    have hx':Pend w L j x:=⟨n5 x hx.mem hx.k5,hx.k5,hx.l,by have:=hx.c;rw[es] at this;exact this,by have:=hx.n;rw[es] at this;exact this,by have:=hx.o;rw[es] at this;exact this,by have:=hx.cm;rw[es] at this;exact this⟩
    exact(g.cp x hx').congr e1 e3 e4 (by rw[es]) e6 e7 (dl _ _)
theorem Fr.same{w w':Wd}{H:List Hc}{L:List M}(f:Fr w H L)(e1:w'.td=w.td)(e2:w'.tv=w.tv)(e3:w'.to=w.to)(e4:w'.clock=w.clock)(e5:w'.n=w.n)(e6:w'.rs=w.rs)(e7:w'.sv=w.sv)(e8:w'.seat=w.seat)(e9:w'.events=w.events):Fr w' H L:=by
 obtain⟨a1,a2,a3,a4,a5,a6,a7,a8,a9,a10,a11,a12,a13⟩:=w
 obtain⟨b1,b2,b3,b4,b5,b6,b7,b8,b9,b10,b11,b12,b13⟩:=w'
 dsimp only at e1 e2 e3 e4 e5 e6 e7 e8 e9
 subst e1 e2 e3 e4 e5 e6 e7 e8 e9
 exact⟨f.d0,f.d1,f.v0,f.sv,f.ep,f.lb,f.ib,f.rb,f.iv,fun s hs m hm h1 h2 h3=>⟨(f.ac s hs m hm h1 h2 h3).1,fun hn=>⟨((f.ac s hs m hm h1 h2 h3).2 hn).1,fun ec x hx=>((f.ac s hs m hm h1 h2 h3).2 hn).2 ec x ⟨hx.mem,hx.k5,hx.l,hx.c,hx.n,hx.o,hx.cm⟩⟩⟩,
  fun k hk=>⟨(f.st k hk).t0,(f.st k hk).vol,(f.st k hk).obj,(f.st k hk).ask,(f.st k hk).til,(f.st k hk).snt,(f.st k hk).lb,(f.st k hk).vk,(f.st k hk).vg,(f.st k hk).ck,fun m hm=>(f.st k hk).cp m ⟨hm.mem,hm.k5,hm.l,hm.c,hm.n,hm.o,hm.cm⟩⟩,f.fr⟩
theorem Fr.put{w:Wd}{H:List Hc}{L:List M}(f:Fr w H L)(t:Int)(m:M):Fr (w.put t m) H L:=by
 unfold Wd.put
 split
 ·exact f.same rfl rfl rfl rfl rfl rfl rfl rfl rfl
 ·exact f
theorem Fr.send{H:List Hc}{L:List M}(t:Int):∀ (l:List M) {w:Wd},Fr w H L->Fr (w.send t l) H L
 | [],_,f=>f
 | m :: l,_,f=>Fr.send t l (f.put t m)
theorem Fr.tells{H:List Hc}{L:List M}:∀ (l:List M) {w:Wd},Fr w H L->Fr (w.tells l) H L
 | [],_,f=>f
 | m :: l,_,f=>Fr.tells l (f.put (zy8 m.c:Nat) m)
theorem Cl.noSv{w w':Wd}{L:List M}{k o:Nat}{v u e ss:Int}(h:Cl w L k o v u e ss)(h1:w'.sv=none)(h2:w'.seat=w.seat)(h3:w'.rs=w.rs):Cl w' L k o v u e ss:=by
 unfold Cl at *
 rw[h1,h2,h3]
 exact h.imp id fun q=>q.imp (fun p=>⟨p.1.congr (congrFun h2 k) fun _ q _=>q,fun s hs=>by cases hs⟩) fun p=>⟨p.1,fun s hs=>by cases hs⟩
theorem Fr.noSv{w:Wd}{H:List Hc}{L:List M}(f:Fr w H L):Fr { w with sv:=none } H L:=
 ⟨f.d0,f.d1,f.v0,(fun s hs=>by cases hs),f.ep,fun m hm hk=>⟨(f.lb m hm hk).1,fun s hs=>by cases hs⟩,f.ib,f.rb,(fun s hs=>by cases hs),(fun s hs=>by cases hs),
  fun k hk=>⟨(f.st k hk).t0,(f.st k hk).vol,(f.st k hk).obj,(f.st k hk).ask,(f.st k hk).til,(f.st k hk).snt,⟨(f.st k hk).lb.1,fun s hs=>by cases hs⟩,(fun s hs=>by cases hs),(fun s hs=>by cases hs),fun x hx=>⟨((f.st k hk).ck x hx).1,((f.st k hk).ck x hx).2.1,((f.st k hk).ck x hx).2.2.noSv rfl rfl rfl⟩,fun m hm=>((f.st k hk).cp m ⟨hm.mem,hm.k5,hm.l,hm.c,hm.n,hm.o,hm.cm⟩).noSv rfl rfl rfl⟩,f.fr⟩
theorem Fr.fallen{w:Wd}{H:List Hc}{L:List M}(f:Fr w H L):Fr w.fallen H L:=by
 unfold Wd.fallen
 split
 ·exact f
 ·split
  ·exact f.noSv
  ·exact f
theorem Fr.ss{H:List Hc}{B:Nat}(hB:H.length+B<200){T:Int}{s s':Sv}{L L':List M}(k:Ss T s L s' L'):∀ {w:Wd},w.clock=T->Inv w H L B->Fr w H L->w.sv=some s->Fr (w.served s') H L':=by
 induction k with
 | refl s L=>exact fun {w} _ h f hs=>f.mild h hs (h.sv s hs).1 rfl rfl rfl rfl rfl rfl rfl (fun _ q=>q) (fun _ q=>.inl q)
 | head k1 _ ih=>
  intro w hT h f hs
  subst hT
  exact ih (w:=w.served _) rfl (h.s1 hB hs k1) (f.s1 h hB hs k1) rfl
theorem Fr.answer{w:Wd}{H:List Hc}{L:List M}{B:Nat}(f:Fr w H L)(h:Inv w H L B)(hB:H.length+B<200){s:Sv}(hs:w.sv=some s){r:Sv×List M}(hr:Ss w.clock s L r.1 (L++r.2)):Fr (w.answer r) H (L++r.2):=
 (Fr.tells r.2 (Fr.ss hB hr rfl h f hs)).fallen
theorem Fr.stepped{w:Wd}{H:List Hc}{L:List M}(f:Fr w H L):Fr { w with step:=w.step+1 } H L:=f.same rfl rfl rfl rfl rfl rfl rfl rfl rfl
theorem Fr.zy3{w:Wd}{H:List Hc}{L:List M}{B:Nat}(f:Fr w H L)(h:Inv w H L B)(x t:Int):Fr (w.zy3 x t) H L:=by
 unfold Wd.zy3
 split
 ·exact f.same rfl rfl rfl rfl rfl rfl rfl rfl rfl
 ·rename_i s hs
  exact f.mild h hs ((h.sv s hs).1.same rfl rfl rfl) rfl rfl rfl rfl rfl rfl rfl (fun _ q=>q) (fun _ q=>.inl q)
theorem Fr.gone{w:Wd}{H:List Hc}{L:List M}(f:Fr w H L){b:Int}{by_:Nat->Int}(hb:w.clock+b<549755813888)(hk:∀ k,k<w.n->0<=by_ k/\(w.seat k).clock+by_ k<549755813888/\b*(1000-w.td)<=by_ k*(1000+w.td)):Fr (w.gone b by_) H L:=by
 have et:(w.gone b by_).clock=w.clock+b:=if_pos hb
 have es:∀ k,k<w.n->((w.gone b by_).seat k).clock=(w.seat k).clock+by_ k:=fun k hkn=>if_pos (hk k hkn).2.1
 have ek:∀ k,((w.gone b by_).seat k).k=(w.seat k).k:=fun _=>rfl
 have dead:∀ k,k<w.n->∀ e ss,Dead w L k e ss->Dead (w.gone b by_) L k e ss:=fun k hkn e ss q=>by
  have:=(hk k hkn).1
  unfold Dead at *
  rw[es k hkn,ek]
  exact⟨fun a1 a2=>by have:=q.1 a1 a2;omega,fun g hg a1 a2 a3 a4 a5=>by have:=q.2 g hg a1 a2 a3 a4 a5;omega⟩
 have qr:∀ k,k<w.n->∀ V y x,Qr w.td V w.clock (w.seat k).clock y x->Qr w.td V (w.clock+b) ((w.seat k).clock+by_ k) y x:=fun k hkn V y x q=>q.time (hk k hkn).2.2
 have lv:∀ k,k<w.n->∀ s e ss x,Lv w s k e ss x->Lv (w.gone b by_) s k e ss x:=fun k hkn s e ss x q=>by
  have:=(hk k hkn).1
  unfold Lv at *
  rw[es k hkn,et]
  rcases q with q|⟨q1,q2,q3⟩|⟨q1,q2⟩
  ·exact .inl (by omega)
  ·exact .inr (.inl ⟨q1,q2,qr k hkn _ _ _ q3⟩)
  ·exact .inr (.inr ⟨q1,qr k hkn _ _ _ q2⟩)
 have cl:∀ k,k<w.n->∀ o v u e ss,Cl w L k o v u e ss->Cl (w.gone b by_) L k o v u e ss:=fun k hkn o v u e ss q=>by
  have:=(hk k hkn).1
  unfold Cl at *
  rw[es k hkn,et]
  rcases q with q|⟨q1,q2⟩|⟨q1,q2⟩
  ·exact .inl (by omega)
  ·exact .inr (.inl ⟨dead k hkn _ _ q1,q2⟩)
  ·exact .inr (.inr ⟨q1,fun s hs a1 a2=>⟨(q2 s hs a1 a2).1,qr k hkn _ _ _ (q2 s hs a1 a2).2⟩⟩)
 refine⟨f.d0,f.d1,f.v0,f.sv,f.ep,f.lb,f.ib,f.rb,f.iv,fun s hs m hm h1 h2 h3=>⟨(f.ac s hs m hm h1 h2 h3).1,fun hn=>⟨((f.ac s hs m hm h1 h2 h3).2 hn).1,fun ec x hx=>((f.ac s hs m hm h1 h2 h3).2 hn).2 ec x ⟨hx.mem,hx.k5,hx.l,hx.c,hx.n,hx.o,hx.cm⟩⟩⟩,fun k hkn=>?_,f.fr⟩
 have g:=f.st k hkn
 have h0:=(hk k hkn).1
 refine⟨by rw[es k hkn];have:=g.t0;omega,g.vol,g.obj,by rw[es k hkn];have:=g.ask;show (w.seat k).k.asked<=_;omega,by rw[es k hkn];have:=g.til;show (w.seat k).k.til<=(w.seat k).clock+by_ k+short w.td w.tv;omega,by rw[es k hkn];have:=g.snt;show (w.seat k).k.sent<=_;omega,g.lb,fun s hs=>lv k hkn _ _ _ _ (g.vk s hs),fun s hs y hy y7 y1 y2=>lv k hkn _ _ _ _ (g.vg s hs y hy y7 y1 y2),fun x hx=>⟨(g.ck x hx).1,(g.ck x hx).2.1,cl k hkn _ _ _ _ _ (g.ck x hx).2.2⟩,fun m hm=>cl k hkn _ _ _ _ _ (g.cp m ⟨hm.mem,hm.k5,hm.l,hm.c,hm.n,hm.o,hm.cm⟩)⟩
theorem Fr.start{w:Wd}{H:List Hc}{L:List M}{B:Nat}(f:Fr w H L)(h:Inv w H L B)(hB:H.length+B<200):Fr w.start H L:=by
 have hroom:=h.room
 obtain⟨e,he,h1,h2,h3,_,h5,h6,h7,h8,h9,h10,h11,_⟩:=zcr w.to w.tv w.td w.clock w.rs (by omega)
 obtain⟨s',hs'⟩:∃ s',s'=Sv.new w.to w.tv w.td w.rs false 0 w.clock:=⟨_,rfl⟩
 have ew:w.start=w.served s':=by rw[hs'];rfl
 rw[<- hs'] at h1 h2 h3 h5 h6 h7 h8 h9 h10 h11
 rw[ew]
 have hsv:∀ v,(w.served s').sv=some v->s'=v:=fun v hv=>Option.some.inj hv
 have eE:(logL s'.rs).ep=e:=by rw[<- congrArg L4.ep (h2.trans (by rw[h1])),<- h5];rfl
 have eV:(logL s'.rs).vv=(logL w.rs).vv:=by rw[h1,logL_app];rfl
 have hready:s'.ready=w.clock+w.tv:=by rw[h9,if_pos (by have:=f.ep;omega)]
 have lvn:∀ k,k<w.n->∀ e' ss x,e'<=(logL w.rs).ep->x<=(w.seat k).clock+short w.td w.tv->Lv (w.served s') s' k e' ss x:=fun k _ e' ss x q1 q2=>by
  refine .inr (.inr ⟨by rw[h5];omega,Qr.new f.d0 f.d1 ?_ q2⟩)
  rw[hready];exact Int.le_refl _
 have cln:∀ k,k<w.n->∀ o v u e' ss,e'<=(logL w.rs).ep->Cl w L k o v u e' ss->Cl (w.served s') L k o v u e' ss:=fun k _ o v u e' ss q1 q=>by
  rcases q with q|⟨p1,_⟩|⟨p1,_⟩
  ·exact .inl q
  ·refine .inr (.inl ⟨p1.congr rfl fun _ q _=>q,fun v hv=>?_⟩)
   rw[<- hsv v hv,h5]
   rintro⟨r1,_⟩
   omega
  ·refine .inr (.inr ⟨by show v=(logL s'.rs).vv o;rw[eV];exact p1,fun v hv r1 _=>?_⟩)
   rw[<- hsv v hv,h5] at r1
   omega
 refine⟨f.d0,f.d1,f.v0,fun v hv=>by rw[<- hsv v hv];exact⟨h11,h10,by rw[h8];exact DOk.empty⟩,by show 1<=(logL s'.rs).ep;rw[eE];have:=f.ep;omega,?_,?_,f.rb,?_,?_,?_,f.fr⟩
 ·intro m hm hk
  have:=(f.lb m hm hk).1
  refine⟨by show m.e<=(logL s'.rs).ep;rw[eE];omega,fun v hv q=>?_⟩
  rw[<- hsv v hv,h5] at q
  omega
 ·intro m hm hk
  obtain⟨q1,q2,q3,q4⟩:=f.ib m hm hk
  refine⟨q1,q2,by show m.e<=(logL s'.rs).ep;rw[eE];omega,fun q=>?_⟩
  have q':m.e=(logL s'.rs).ep:=q
  rw[eE] at q'
  omega
 ·intro v hv m hm hk q
  rw[<- hsv v hv,h5] at q
  have:=(f.ib m hm (.inl hk)).2.2.1
  omega
 ·intro v hv m hm hk q
  rw[<- hsv v hv,h5] at q
  have:=(f.ib m hm (.inr hk)).2.2.1
  omega
 ·intro k hk
  have g:=f.st k hk
  refine⟨g.t0,g.vol,g.obj,g.ask,g.til,g.snt,⟨by show _<=(logL s'.rs).ep;rw[eE];have:=g.lb.1;show (w.seat k).k.ep<=e;omega,fun v hv q=>?_⟩,fun v hv=>?_,fun v hv y hy y7 y1 y2=>?_,fun x hx=>⟨(g.ck x hx).1,(g.ck x hx).2.1,cln k hk _ _ _ _ _ g.lb.1 (g.ck x hx).2.2⟩,fun m hm=>?_⟩
  ·rw[<- hsv v hv,h5] at q
   have:=g.lb.1
   have q':(w.seat k).k.ep=e:=q
   omega
  ·rw[<- hsv v hv];exact lvn k hk _ _ _ g.lb.1 g.til
  ·rw[<- hsv v hv]
   refine lvn k hk _ _ _ (f.lb y hy (.inr (.inl y7))).1 ?_
   show (w.seat k).k.asked+(w.seat k).k.vol<=_
   have:=g.ask
   rw[g.vol]
   omega
  ·have hm':Pend w L k m:=⟨hm.mem,hm.k5,hm.l,hm.c,hm.n,hm.o,hm.cm⟩
   exact cln k hk _ _ _ _ _ (f.lb m hm'.mem (.inl hm'.k5)).1 (g.cp m hm')
def DeadK(c:K)(t:Int)(L:List M)(e ss:Int):Prop:=(c.ep=e->c.ses=ss->c.til<=t)/\∀ g∈L,g.k=7->g.c=c.id->g.n=c.renewal->g.e=e->g.s=ss->c.asked+c.vol<=t
structure PendK(q:K)(L:List M)(m:M):Prop where
 mem:m∈L
 k5:m.k=5
 l:m.l=true
 c:m.c=q.id
 n:m.n=q.num
 o:q.zy2=true
 cm:q.coming<=m.v
theorem zd4{d t:Int}(h0:0<=d)(h1:d<1000)(ht:0<=t):0<=short d t:=by
 unfold short
 exact Int.ediv_nonneg (Int.mul_nonneg ht (by omega)) (by omega)
def NoClK(c:K)(L:List M)(o:Int):Prop:=(∀ x∈c.kept,x.o≠o)/\(c.cob=o->∀ m,¬ PendK c L m)
structure KTurn(w:Wd)(L L':List M)(k:Nat)(c:K):Prop where
 new:∀ m∈L',m∈L\/m.k=1\/m.k=2\/(m.k=3/\m.c=c.id/\m.n<=c.renewal)\/(m.k=4/\m.c=c.id/\0<=m.o/\m.o<8/\m.e<=(logL w.rs).ep/\(m.e=(logL w.rs).ep->m.v<=(logL w.rs).vv m.o.toNat+1)/\∀ s,w.sv=some s->m.e=s.epoch->m.v=s.vv m.o.toNat+1->s.zzf m.o.toNat≠[])
 cid:zy8 c.id=k
 rb:∀ m∈L,m.k=3\/m.k=7\/m.k=8->zy8 m.c=k->m.c<=c.id/\(m.c=c.id->m.n<=c.renewal)
 vol:c.vol=short w.td w.tv
 obj:c.obj=short w.td w.to
 ask:c.asked<=(w.seat k).clock
 til:c.til<=(w.seat k).clock+short w.td w.tv
 snt:c.sent<=(w.seat k).clock
 lb:c.ep<=(logL w.rs).ep/\∀ s,w.sv=some s->c.ep=s.epoch->c.ses<=s.ses k
 dead:∀ e ss,Dead w L k e ss->DeadK c (w.seat k).clock L e ss
 vk:∀ s,w.sv=some s->Lv w s k c.ep c.ses c.til
 vg:∀ s,w.sv=some s->∀ g∈L,g.k=7->g.c=c.id->g.n=c.renewal->Lv w s k g.e g.s (c.asked+c.vol)
 ck:∀ x∈c.kept,0<=x.o/\x.o<8/\Cl w L k x.o.toNat x.v x.u c.ep c.ses
 cp:∀ m,PendK c L m->Cl w L k c.cob.toNat m.v (c.sent+c.obj) m.e m.s
 ac:∀ s,w.sv=some s->∀ m∈L',m.k=4->zy8 m.c=k->m.e=s.epoch->m.v=s.vv m.o.toNat+1->NoClK c L m.o
theorem Fr.turned{w w':Wd}{H H':List Hc}{L L':List M}(f:Fr w H L){k:Nat}{c:K}(t:KTurn w L L' k c)
  (e1:w'.td=w.td) (e2:w'.tv=w.tv) (e3:w'.to=w.to) (e4:w'.clock=w.clock) (e5:w'.n=w.n) (e6:w'.rs=w.rs) (e7:w'.sv=w.sv) (e8:∀ j,j≠k->w'.seat j=w.seat j) (e9:(w'.seat k).k=c) (e10:(w'.seat k).clock=(w.seat k).clock)
  (hfr:∀ (i:Nat) e g,w'.events[i]?=some e->H'[i]?=some g->e.kind=1->e.ended≠0->g.lo<=e.ver):Fr w' H' L':=by
 have pk:∀ m,Pend w' L k m->PendK c L m:=fun m hm=>⟨hm.mem,hm.k5,hm.l,by have:=hm.c;rw[e9] at this;exact this,by have:=hm.n;rw[e9] at this;exact this,by have:=hm.o;rw[e9] at this;exact this,by have:=hm.cm;rw[e9] at this;exact this⟩
 refine f.turn e1 e2 e3 e4 e5 e6 e7 e8 e9 e10 hfr t.new t.cid t.rb t.vol t.obj t.ask t.til t.snt t.lb (fun e ss q=>?_) t.vk t.vg t.ck (fun m hm=>t.cp m (pk m hm)) (fun s hs m hm h1 h2 h3 h4=>?_)
 ·have:=t.dead e ss q
  unfold Dead
  rw[e9,e10]
  exact this
 ·have:=t.ac s hs m hm h1 h2 h3 h4
  unfold NoCl
  rw[e9]
  exact⟨this.1,fun ec x hx=>this.2 ec x (pk x hx)⟩
theorem KTurn.base{w:Wd}{H:List Hc}{L L':List M}{B:Nat}(f:Fr w H L)(h:Inv w H L B){k:Nat}(hk:k<w.n){c:K}(q1:c.id=(w.seat k).k.id)(q2:c.renewal=(w.seat k).k.renewal)(q3:c.asked=(w.seat k).k.asked)(q4:c.vol=(w.seat k).k.vol)(q5:c.obj=(w.seat k).k.obj)(q6:c.ep=(w.seat k).k.ep)(q7:c.ses=(w.seat k).k.ses)(q8:c.til=(w.seat k).k.til)(q9:c.sent=(w.seat k).k.sent)
  (q10:c.num=(w.seat k).k.num) (q11:c.cob=(w.seat k).k.cob) (q12:(w.seat k).k.coming<=c.coming) (q13:c.zy2=true->(w.seat k).k.zy2=true)
  (new:∀ m∈L',m∈L\/m.k=1\/m.k=2\/(m.k=3/\m.c=c.id/\m.n<=c.renewal)\/(m.k=4/\m.c=c.id/\0<=m.o/\m.o<8/\m.e<=(logL w.rs).ep/\(m.e=(logL w.rs).ep->m.v<=(logL w.rs).vv m.o.toNat+1)/\∀ s,w.sv=some s->m.e=s.epoch->m.v=s.vv m.o.toNat+1->s.zzf m.o.toNat≠[]))
  (ck:∀ x∈c.kept,x∈(w.seat k).k.kept\/∃ m,Pend w L k m/\m.e=c.ep/\m.s=c.ses/\x.o=c.cob/\x.v=m.v/\x.u=c.sent+c.obj/\0<=c.cob/\c.cob<8)
  (ac:∀ s,w.sv=some s->∀ m∈L',m∉L->m.k=4->zy8 m.c=k->m.e=s.epoch->m.v=s.vv m.o.toNat+1->NoClK c L m.o):KTurn w L L' k c:=by
 have g:=f.st k hk
 have pk:∀ m,PendK c L m->Pend w L k m:=fun m hm=>⟨hm.mem,hm.k5,hm.l,hm.c.trans q1,hm.n.trans q10,q13 hm.o,Int.le_trans q12 hm.cm⟩
 refine⟨new,by rw[q1];exact zbi (h.st k hk) (by have:=h.n4;omega),fun m hm h1 h2=>by rw[q1,q2];exact f.rb m hm h1 k hk h2,by rw[q4];exact g.vol,by rw[q5];exact g.obj,by rw[q3];exact g.ask,by rw[q8];exact g.til,by rw[q9];exact g.snt,by rw[q6,q7];exact g.lb,fun e ss q=>?_,fun s hs=>by rw[q6,q7,q8];exact g.vk s hs,fun s hs y hy y7 y1 y2=>by rw[q3,q4];exact g.vg s hs y hy y7 (y1.trans q1) (y2.trans q2),fun x hx=>?_,fun m hm=>by rw[q11,q9,q5];exact g.cp m (pk m hm),fun s hs m hm h1 h2 h3 h4=>?_⟩
 ·unfold DeadK
  rw[q1,q2,q3,q4,q6,q7,q8]
  exact q
 ·rcases ck x hx with p|⟨m,p1,p2,p3,p4,p5,p6,p7,p8⟩
  ·rw[q6,q7];exact g.ck x p
  ·rw[p4,p5,p6,<- p2,<- p3,q11,q9,q5]
   rw[q11] at p7 p8
   exact⟨p7,p8,g.cp m p1⟩
 ·by_cases hmL:m∈L
  ·have hkn:zy8 m.c<w.n:=by omega
   have:=(f.ac s hs m hmL h1 h3 h4).2 hkn
   rw[h2] at this
   refine⟨fun x hx ex=>?_,fun ec x hx=>this.2 (by rw[<- q11];exact ec) x (pk x hx)⟩
   rcases ck x hx with p|⟨m',p1,_,_,p4,_⟩
   ·exact this.1 x p ex
   ·exact this.2 (by rw[<- q11,<- p4];exact ex) m' p1
  ·exact ac s hs m hm hmL h1 h2 h3 h4
theorem zq2{o:Int}{l:List E}{x:E}(h:x∈era o l):x.o≠o:=by
 have:=(List.mem_filter.1 h).2
 simpa[Cache.oth] using this
theorem KTurn.hear{w:Wd}{H:List Hc}{L:List M}{B:Nat}(f:Fr w H L)(h:Inv w H L B){k:Nat}(hk:k<w.n){m:M}(hm:m∈L):KTurn w L (L++((w.seat k).k.hear m).2) k ((w.seat k).k.hear m).1:=by
 have g:=f.st k hk
 have hs:=h.st k hk
 have nil:∀ x∈L++([]:List M),x∈L:=fun x hx=>by simpa using hx
 have stay:∀ {c:K},c=(w.seat k).k->KTurn w L (L++[]) k c:=fun {c} e=>by
  subst e
  exact .base f h hk rfl rfl rfl rfl rfl rfl rfl rfl rfl rfl rfl (Int.le_refl _) (fun q=>q) (fun x hx=>.inl (nil x hx)) (fun x hx=>.inl hx) (fun s _ x hx hn=>absurd (nil x hx) hn)
 unfold K.hear
 split
 ·rename_i hk9
  have hib:=f.ib m hm (.inl hk9)
  have hnc:NoClK ((w.seat k).k.forget m) L m.o\/¬ (m.e=(logL w.rs).ep/\m.v=(logL w.rs).vv m.o.toNat+1):=by
   by_cases hv:m.e=(logL w.rs).ep/\m.v=(logL w.rs).vv m.o.toNat+1
   ·left
    refine⟨fun x hx=>?_,fun ec x hx=>?_⟩
    ·have:x∈era m.o (w.seat k).k.kept:=by
      unfold K.forget at hx
      split at hx<;>exact hx
     exact zq2 this
    ·have hop:(w.seat k).k.zy2=true:=by
      have:=hx.o
      unfold K.forget at this
      split at this<;>exact this
     have hco:(w.seat k).k.cob=m.o:=by
      unfold K.forget at ec
      split at ec<;>exact ec
     have hcm:=hx.cm
     have hc':m.v<=((w.seat k).k.forget m).coming:=by
      unfold K.forget
      rw[if_pos ⟨hop,hco⟩]
      exact zfc _ _
     have hxc:x.c=(w.seat k).k.id:=by
      have:=hx.c
      unfold K.forget at this
      split at this<;>exact this
     have hxn:x.n=(w.seat k).k.num:=by
      have:=hx.n
      unfold K.forget at this
      split at this<;>exact this
     obtain⟨⟨y,hy,y1,y2,y3,y4,_⟩,hval⟩:=(h.msg x hx.mem).va hx.k5
     have hpc:=zcb h hk hop hy (y1.trans hxc) (y2.trans hxn)
     have hle:=(hval.le h.log).2
     rw[show x.o=m.o by omega] at hle
     omega
   ·exact .inr hv
  have hkn:(w.seat k).k.ackM m=⟨4,(w.seat k).k.id,0,m.e,0,m.o,m.v,false,⟨#[]⟩⟩:=rfl
  have hbase:∀ (c:K),c=(w.seat k).k.forget m->KTurn w L (L++[(w.seat k).k.ackM m]) k c:=fun c hc=>by
   have hc':c.id=(w.seat k).k.id/\c.renewal=(w.seat k).k.renewal/\c.asked=(w.seat k).k.asked/\c.vol=(w.seat k).k.vol/\c.obj=(w.seat k).k.obj/\c.ep=(w.seat k).k.ep/\c.ses=(w.seat k).k.ses/\c.til=(w.seat k).k.til/\c.sent=(w.seat k).k.sent/\c.num=(w.seat k).k.num/\c.cob=(w.seat k).k.cob/\(w.seat k).k.coming<=c.coming/\(c.zy2=true->(w.seat k).k.zy2=true)/\c.kept=era m.o (w.seat k).k.kept:=by
    rw[hc]
    unfold K.forget
    split
    ·exact⟨rfl,rfl,rfl,rfl,rfl,rfl,rfl,rfl,rfl,rfl,rfl,zd2 _ _,fun q=>q,rfl⟩
    ·exact⟨rfl,rfl,rfl,rfl,rfl,rfl,rfl,rfl,rfl,rfl,rfl,Int.le_refl _,fun q=>q,rfl⟩
   obtain⟨c1,c2,c3,c4,c5,c6,c7,c8,c9,c10,c11,c12,c13,c14⟩:=hc'
   refine .base f h hk c1 c2 c3 c4 c5 c6 c7 c8 c9 c10 c11 c12 c13 (fun x hx=>(zay hx).imp id fun q=>?_) (fun x hx=>.inl (by rw[c14] at hx;exact zcy hx)) (fun s hsv x hx hn _ _ he hv=>?_)
   ·subst q
    refine .inr (.inr (.inr ⟨rfl,c1.symm,hib.1,hib.2.1,hib.2.2.1,hib.2.2.2,fun s hsv he hv=>f.iv s hsv m hm hk9 he hv⟩))
   ·rcases zay hx with q|q
    ·exact absurd q hn
    ·subst q
     obtain⟨hi,hrs⟩:=h.sv s hsv
     have e1:s.epoch=(logL w.rs).ep:=by rw[<- hrs];exact congrArg L4.ep hi.l4
     have e2:s.vv=(logL w.rs).vv:=by rw[<- hrs];exact congrArg L4.vv hi.l4
     rw[hc]
     rcases hnc with q|q
     ·exact q
     ·exact absurd ⟨he.trans e1,by rw[<- e2];exact hv⟩ q
  exact hbase _ rfl
 ·split
  ·exact stay rfl
  ·rename_i hid
   have hid':m.c=(w.seat k).k.id:=by omega
   split
   ·rename_i hg
    unfold K.granted
    split
    ·rename_i hl
     have hlv:∀ s,w.sv=some s->Lv w s k (w.seat k).k.ep (w.seat k).k.ses ((w.seat k).k.asked+(w.seat k).k.vol):=fun s hsv=>by
      have:=g.vg s hsv m hm hg.1 hid' hg.2
      rw[hl.1,hl.2] at this
      exact this
     refine⟨fun x hx=>.inl (nil x hx),zbi hs (by have:=h.n4;omega),fun x hx h1 h2=>f.rb x hx h1 k hk h2,g.vol,g.obj,g.ask,by show (w.seat k).k.asked+(w.seat k).k.vol<=_;have:=g.ask;rw[g.vol];omega,g.snt,g.lb,fun e ss q=>⟨fun a1 a2=>q.2 m hm hg.1 hid' hg.2 (hl.1.trans a1) (hl.2.trans a2),q.2⟩,hlv,g.vg,g.ck,fun x hx=>g.cp x ⟨hx.mem,hx.k5,hx.l,hx.c,hx.n,hx.o,hx.cm⟩,fun s hsv x hx h1 h2 h3 h4=>?_⟩
     have:=(f.ac s hsv x (nil x hx) h1 h3 h4).2 (by omega)
     rw[h2] at this
     exact⟨this.1,fun ec y hy=>this.2 ec y ⟨hy.mem,hy.k5,hy.l,hy.c,hy.n,hy.o,hy.cm⟩⟩
    ·exact stay rfl
   ·split
    ·rename_i hg
     unfold K.flush
     split
     ·exact stay rfl
     ·have hlb:=f.lb m hm (.inr (.inr hg.1))
      have hseat:zy8 m.c=k:=by rw[hid'];exact zbi hs (by have:=h.n4;omega)
      refine⟨fun x hx=>.inl (nil x hx),zbi hs (by have:=h.n4;omega),fun x hx h1 h2=>f.rb x hx h1 k hk h2,g.vol,g.obj,g.ask,?_,g.snt,⟨hlb.1,fun s hsv e=>by have:=hlb.2 s hsv e;rw[hseat] at this;exact this⟩,fun e ss q=>⟨fun _ _=>g.t0,q.2⟩,fun s _=>.inl g.t0,g.vg,fun x hx=>(by cases hx),fun x hx=>g.cp x ⟨hx.mem,hx.k5,hx.l,hx.c,hx.n,hx.o,hx.cm⟩,fun s hsv x hx h1 h2 h3 h4=>?_⟩
      ·show (0:Int)<=_
       have h1:=g.t0
       have h2:=zd4 f.d0 f.d1 f.v0
       omega
      ·have:=(f.ac s hsv x (nil x hx) h1 h3 h4).2 (by omega)
       rw[h2] at this
       exact⟨fun y hy=>(by cases hy),fun ec y hy=>this.2 ec y ⟨hy.mem,hy.k5,hy.l,hy.c,hy.n,hy.o,hy.cm⟩⟩
    ·split
     ·rename_i hw
      obtain⟨hk5,hw⟩:=hw
      unfold K.zzf at hw
      simp only[Bool.and_eq_true,decide_eq_true_eq] at hw
      obtain⟨⟨w1,w2⟩,w3⟩:=hw
      obtain⟨⟨y,hy,y1,y2,y3,y4,_⟩,hval⟩:=(h.msg m hm).va hk5
      have hpc:=zcb h hk w1 hy (y1.trans hid') (by omega)
      unfold K.read
      split
      ·exact stay rfl
      ·split
       ·rename_i hkp
        obtain⟨p1,p2,p3,p4⟩:=hkp
        refine .base f h hk rfl rfl rfl rfl rfl rfl rfl rfl rfl rfl rfl (Int.le_refl _) (fun q=>?_) (fun x hx=>.inl (nil x hx)) (fun x hx=>?_) (fun s _ x hx hn=>absurd (nil x hx) hn)
        ·rw[K.isOpen_iff] at q;exact absurd q.2 (by show ¬ true=false;decide)
        ·rcases zdz hx with q|q
         ·right
          rw[q]
          exact⟨m,⟨hm,hk5,p1,hid',by omega,w1,p2⟩,p3.symm,p4.symm,rfl,rfl,rfl,by show 0<=(w.seat k).k.cob;omega,by show (w.seat k).k.cob<8;omega⟩
         ·exact .inl q
       ·refine .base f h hk rfl rfl rfl rfl rfl rfl rfl rfl rfl rfl rfl (Int.le_refl _) (fun q=>?_) (fun x hx=>.inl (nil x hx)) (fun x hx=>.inl hx) (fun s _ x hx hn=>absurd (nil x hx) hn)
        rw[K.isOpen_iff] at q;exact absurd q.2 (by show ¬ true=false;decide)
     ·split
      ·refine .base f h hk rfl rfl rfl rfl rfl rfl rfl rfl rfl rfl rfl (Int.le_refl _) (fun q=>?_) (fun x hx=>.inl (nil x hx)) (fun x hx=>.inl hx) (fun s _ x hx hn=>absurd (nil x hx) hn)
       rw[K.isOpen_iff] at q;exact absurd q.2 (by show ¬ true=false;decide)
      ·exact stay rfl
end Wld
end
end Go.Proofs.YtbebfliimjjohabGreatDoor
