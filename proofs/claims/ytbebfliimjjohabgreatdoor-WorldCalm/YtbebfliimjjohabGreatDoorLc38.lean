/- Parts of the proof. -/
import Derived.Test.YtbebfliimjjohabGreatDoorLc33
import Derived.Test.YtbebfliimjjohabGreatDoorLc36
set_option maxRecDepth 100000
set_option maxHeartbeats 8000000
namespace Go.Proofs.YtbebfliimjjohabGreatDoor
section
namespace Wld
open Go.RowKit Go.Maps
open Lease (upd zae zad hol dels mx kk isH ze5)
open Wal (R mayB timeB)
open Num (M okB)
theorem zwh:∀ (c d:Fin 4) (o p:Fin 8),keyBytes [.int .i64 (c.val:Int),.int .i64 (o.val:Int)]=keyBytes [.int .i64 (d.val:Int),.int .i64 (p.val:Int)]->c=d/\o=p:=by decide +kernel
theorem zd3{c d o p:Nat}(hc:c<4)(hd:d<4)(ho:o<8)(hp:p<8)(h:kk c o=kk d p):c=d/\o=p:=by
 have h1:keyBytes [.int .i64 (c:Nat),.int .i64 (o:Nat)]=keyBytes [.int .i64 (d:Nat),.int .i64 (p:Nat)]:=Lit.string.inj h
 have h2:=zwh ⟨c,hc⟩ ⟨d,hd⟩ ⟨o,ho⟩ ⟨p,hp⟩ h1
 exact⟨Fin.mk.inj h2.1,Fin.mk.inj h2.2⟩
structure DOk(D:Lease.Dat):Prop where
 tidy:Tidy D
 num:∀ c o:Int,D.atKey (kk c o) (Lease.num 0)=Lease.num (lentB D c o)
theorem DOk.empty:DOk (.map []):=⟨tidy_empty,fun _ _=>rfl⟩
theorem ziq{D:Lease.Dat}{c o x:Int}(h:D.atKey (kk c o) (Lease.num 0)=Lease.num x):lentB D c o=x:=by unfold lentB;rw[h]
theorem zk5{D:Lease.Dat}(h:DOk D)(c o x:Int):lentB (D.put (kk c o) (Lease.num x)) c o=x:=ziq (atKey_put_same h.tidy.isMap (ze5 c o) _ _)
theorem zel{D:Lease.Dat}{c o c' o' x:Int}(hn:kk c' o'≠kk c o):lentB (D.put (kk c o) (Lease.num x)) c' o'=lentB D c' o':=by unfold lentB;rw[atKey_put_other hn]
theorem DOk.put{D:Lease.Dat}(h:DOk D)(c o x:Int):DOk (D.put (kk c o) (Lease.num x)):=by
 refine⟨h.tidy.put (ze5 c o) _,fun c' o'=>?_⟩
 by_cases e:kk c' o'=kk c o
 ·have:(D.put (kk c o) (Lease.num x)).atKey (kk c' o') (Lease.num 0)=Lease.num x:=by rw[e];exact atKey_put_same h.tidy.isMap (ze5 c o) _ _
  rw[this,ziq this]
 ·rw[atKey_put_other e,zel e];exact h.num c' o'
theorem zct{D:Lease.Dat}{k:Lit}{c' o':Int}(hn:kk c' o'≠k):lentB (D.del k) c' o'=lentB D c' o':=by unfold lentB;rw[atKey_del_other hn]
theorem DOk.del{D:Lease.Dat}(h:DOk D)(k:Lit):DOk (D.del k):=by
 refine⟨h.tidy.del k,fun c' o'=>?_⟩
 by_cases e:kk c' o'=k
 ·have:(D.del k).atKey (kk c' o') (Lease.num 0)=Lease.num 0:=by rw[e];exact atKey_del_same _
  rw[this,ziq this]
 ·rw[atKey_del_other e,zct e];exact h.num c' o'
theorem DOk.dels{D:Lease.Dat}(h:DOk D)(c:Int):∀ n,DOk (dels D c n)
 | 0=>h
 | n+1=>(DOk.dels h c n).del _
theorem zx4{D:Lease.Dat}(h:DOk D){o T:Int}{c:Nat}:isH D o T c=true↔has D (kk c o)=true/\T<lentB D c o:=by
 rw[Lease.zrv (h.num c o)]
 simp
theorem zjk{D:Lease.Dat}{c' o':Int}{x:Int}:∀ n,(∀ i:Nat,i<n->kk c' o'≠kk x i)->has (dels D x n) (kk c' o')=has D (kk c' o')/\lentB (dels D x n) c' o'=lentB D c' o'
 | 0,_=>⟨rfl,rfl⟩
 | n+1,h=>by
  obtain⟨h1,h2⟩:=zjk (D:=D) n fun i hi=>h i (by omega)
  have hn:=h n (by omega)
  exact⟨(has_del_other hn).trans h1,(zct hn).trans h2⟩
def Qr(d V T t y x:Int):Prop:=(T-y+V)*(1000-d)<=(t-x+short d V)*(1000+d)
theorem ztt{d V:Int}(h0:0<=d):short d V*(1000+d)<=V*(1000-d):=by
 unfold short
 exact Int.ediv_mul_le _ (by omega)
theorem Qr.over{d V T t y x:Int}(h:Qr d V T t y x)(h0:0<=d)(h1:d<1000)(hy:y<=T):x<=t:=by
 unfold Qr at h
 have h2:=ztt (d:=d) (V:=V) h0
 have h3:V*(1000-d)<=(T-y+V)*(1000-d):=Int.mul_le_mul_of_nonneg_right (by omega) (by omega)
 have h4:(t-x+short d V)*(1000+d)=(t-x)*(1000+d)+short d V*(1000+d):=Int.add_mul _ _ _
 have h5:0<=(t-x)*(1000+d):=by omega
 have h6:0<=t-x:=Int.nonneg_of_mul_nonneg_left h5 (by omega)
 omega
theorem Qr.time{d V T t y x a b:Int}(h:Qr d V T t y x)(hab:a*(1000-d)<=b*(1000+d)):Qr d V (T+a) (t+b) y x:=by
 unfold Qr at *
 have e1:(T+a-y+V)*(1000-d)=(T-y+V)*(1000-d)+a*(1000-d):=by rw[<- Int.add_mul];congr 1;omega
 have e2:(t+b-x+short d V)*(1000+d)=(t-x+short d V)*(1000+d)+b*(1000+d):=by rw[<- Int.add_mul];congr 1;omega
 omega
theorem Qr.new{d V T t y x:Int}(h0:0<=d)(h1:d<1000)(hy:T+V<=y)(hx:x<=t+short d V):Qr d V T t y x:=by
 unfold Qr
 have h3:(T-y+V)*(1000-d)<=0:=Int.mul_nonpos_of_nonpos_of_nonneg (by omega) (by omega)
 have h4:0<=(t-x+short d V)*(1000+d):=Int.mul_nonneg (by omega) (by omega)
 omega
theorem Qr.more{d V T t y y' x:Int}(h:Qr d V T t y x)(h1:d<1000)(hy:y<=y'):Qr d V T t y' x:=by
 unfold Qr at *
 have h3:(T-y'+V)*(1000-d)<=(T-y+V)*(1000-d):=Int.mul_le_mul_of_nonneg_right (by omega) (by omega)
 omega
end Wld
end
section
namespace Wld
open Go.RowKit Go.Maps
open Lease (upd zae zad hol dels mx kk isH)
open Cache (E era putL)
open Wal (R mayB timeB)
open Num (M okB)
def Dead(w:Wd)(L:List M)(k:Nat)(e ss:Int):Prop:=
 ((w.seat k).k.ep=e->(w.seat k).k.ses=ss->(w.seat k).k.til<=(w.seat k).clock) /\
 ∀ g∈L,g.k=7->g.c=(w.seat k).k.id->g.n=(w.seat k).k.renewal->g.e=e->g.s=ss->(w.seat k).k.asked+(w.seat k).k.vol<=(w.seat k).clock
def Lv(w:Wd)(s:Sv)(k:Nat)(e ss x:Int):Prop:=
 x<=(w.seat k).clock\/(e=s.epoch/\ss=s.ses k/\Qr w.td w.tv w.clock (w.seat k).clock (s.vol k) x)\/(e<s.epoch/\Qr w.td w.tv w.clock (w.seat k).clock s.ready x)
def Cl(w:Wd)(L:List M)(k o:Nat)(v u e ss:Int):Prop:=
 u<=(w.seat k).clock\/(Dead w L k e ss/\∀ s,w.sv=some s->¬ (e=s.epoch/\ss=s.ses k)) \/
 (v=(logL w.rs).vv o/\∀ s,w.sv=some s->e=s.epoch->ss=s.ses k->has s.D (kk k o)=true/\Qr w.td w.to w.clock (w.seat k).clock (lentB s.D k o) u)
structure Pend(w:Wd)(L:List M)(k:Nat)(m:M):Prop where
 mem:m∈L
 k5:m.k=5
 l:m.l=true
 c:m.c=(w.seat k).k.id
 n:m.n=(w.seat k).k.num
 o:(w.seat k).k.zy2=true
 cm:(w.seat k).k.coming<=m.v
def NoCl(w:Wd)(L:List M)(k:Nat)(o:Int):Prop:=(∀ x∈(w.seat k).k.kept,x.o≠o)/\((w.seat k).k.cob=o->∀ m,¬ Pend w L k m)
structure FrK(w:Wd)(L:List M)(k:Nat):Prop where
 t0:0<=(w.seat k).clock
 vol:(w.seat k).k.vol=short w.td w.tv
 obj:(w.seat k).k.obj=short w.td w.to
 ask:(w.seat k).k.asked<=(w.seat k).clock
 til:(w.seat k).k.til<=(w.seat k).clock+short w.td w.tv
 snt:(w.seat k).k.sent<=(w.seat k).clock
 lb:(w.seat k).k.ep<=(logL w.rs).ep/\∀ s,w.sv=some s->(w.seat k).k.ep=s.epoch->(w.seat k).k.ses<=s.ses k
 vk:∀ s,w.sv=some s->Lv w s k (w.seat k).k.ep (w.seat k).k.ses (w.seat k).k.til
 vg:∀ s,w.sv=some s->∀ g∈L,g.k=7->g.c=(w.seat k).k.id->g.n=(w.seat k).k.renewal->Lv w s k g.e g.s ((w.seat k).k.asked+(w.seat k).k.vol)
 ck:∀ x∈(w.seat k).k.kept,0<=x.o/\x.o<8/\Cl w L k x.o.toNat x.v x.u (w.seat k).k.ep (w.seat k).k.ses
 cp:∀ m,Pend w L k m->Cl w L k (w.seat k).k.cob.toNat m.v ((w.seat k).k.sent+(w.seat k).k.obj) m.e m.s
structure Fr(w:Wd)(H:List Hc)(L:List M):Prop where
 d0:0<=w.td
 d1:w.td<1000
 v0:0<=w.tv
 sv:∀ s,w.sv=some s->s.tv=w.tv/\s.to=w.to/\DOk s.D
 ep:1<=(logL w.rs).ep
 lb:∀ m∈L,m.k=5\/m.k=7\/m.k=8->m.e<=(logL w.rs).ep/\∀ s,w.sv=some s->m.e=s.epoch->m.s<=s.ses (zy8 m.c:Nat)
 ib:∀ m∈L,m.k=9\/m.k=4->0<=m.o/\m.o<8/\m.e<=(logL w.rs).ep/\(m.e=(logL w.rs).ep->m.v<=(logL w.rs).vv m.o.toNat+1)
 rb:∀ m∈L,m.k=3\/m.k=7\/m.k=8->∀ k,k<w.n->zy8 m.c=k->m.c<=(w.seat k).k.id/\(m.c=(w.seat k).k.id->m.n<=(w.seat k).k.renewal)
 iv:∀ s,w.sv=some s->∀ m∈L,m.k=9->m.e=s.epoch->m.v=s.vv m.o.toNat+1->s.zzf m.o.toNat≠[]
 ac:∀ s,w.sv=some s->∀ m∈L,m.k=4->m.e=s.epoch->m.v=s.vv m.o.toNat+1->s.zzf m.o.toNat≠[]/\(zy8 m.c<w.n->NoCl w L (zy8 m.c) m.o)
 st:∀ k,k<w.n->FrK w L k
 fr:∀ (i:Nat) e h,w.events[i]?=some e->H[i]?=some h->e.kind=1->e.ended≠0->h.lo<=e.ver
structure NewOk(L:List M)(s:Sv)(m:M):Prop where
 k34:m.k≠3/\m.k≠4
 lb:m.k=5\/m.k=7\/m.k=8->m.e=s.epoch/\m.s=s.ses (zy8 m.c:Nat)
 ib:m.k=9->0<=m.o/\m.o<8/\m.e=s.epoch/\m.v=s.vv m.o.toNat+1/\s.zzf m.o.toNat≠[]
 rb:m.k=7\/m.k=8->∃ r∈L,r.k=3/\r.c=m.c/\r.n=m.n
theorem Fr.serve{w:Wd}{H:List Hc}{L:List M}{B:Nat}(f:Fr w H L)(h:Inv w H L B){s s':Sv}(hs:w.sv=some s){L':List M}(h':SvInv H s')
  (a1:s'.tv=s.tv) (a2:s'.to=s.to) (a3:DOk s'.D) (a4:s'.epoch=s.epoch) (avv:∀ o,s.vv o<=s'.vv o) (ases:∀ k:Nat,s.ses k<=s'.ses k)
  (new:∀ m∈L',m∈L\/NewOk L s' m)
  (wt:∀ o:Nat,s'.vv o=s.vv o->s.zzf o≠[]->s'.zzf o≠[])
  (pn:∀ k,k<w.n->∀ m,Pend w L' k m->Pend w L k m\/s.zzf (w.seat k).k.cob.toNat = [])
  (vk:∀ k,k<w.n->Lv (w.served s') s' k (w.seat k).k.ep (w.seat k).k.ses (w.seat k).k.til)
  (vg:∀ k,k<w.n->∀ g∈L',g.k=7->g.c=(w.seat k).k.id->g.n=(w.seat k).k.renewal->Lv (w.served s') s' k g.e g.s ((w.seat k).k.asked+(w.seat k).k.vol))
  (ck:∀ k,k<w.n->∀ x∈(w.seat k).k.kept,Cl (w.served s') L' k x.o.toNat x.v x.u (w.seat k).k.ep (w.seat k).k.ses)
  (cp:∀ k,k<w.n->∀ m,Pend w L' k m->Cl (w.served s') L' k (w.seat k).k.cob.toNat m.v ((w.seat k).k.sent+(w.seat k).k.obj) m.e m.s):Fr (w.served s') H L':=by
 obtain⟨hi,hrs⟩:=h.sv s hs
 have eE:(logL s'.rs).ep=(logL w.rs).ep:=by
  have e1:s'.epoch=(logL s'.rs).ep:=congrArg L4.ep h'.l4
  have e2:s.epoch=(logL s.rs).ep:=congrArg L4.ep hi.l4
  rw[<- e1,a4,e2,hrs]
 have eE2:s'.epoch=(logL w.rs).ep:=(congrArg L4.ep h'.l4).trans eE
 have eV:(logL s'.rs).vv=s'.vv:=(congrArg L4.vv h'.l4).symm
 have eV0:(logL w.rs).vv=s.vv:=by rw[<- hrs];exact(congrArg L4.vv hi.l4).symm
 have hsv:∀ v,(w.served s').sv=some v->s'=v:=fun v hv=>Option.some.inj hv
 refine⟨f.d0,f.d1,f.v0,fun v hv=>by rw[<- hsv v hv];exact⟨a1.trans (f.sv s hs).1,a2.trans (f.sv s hs).2.1,a3⟩,by show 1<=(logL s'.rs).ep;rw[eE];exact f.ep,?_,?_,?_,?_,?_,?_,f.fr⟩
 ·intro m hm hk
  show m.e<=(logL s'.rs).ep/\_
  rw[eE]
  rcases new m hm with q|q
  ·obtain⟨q1,q2⟩:=f.lb m q hk
   refine⟨q1,fun v hv e=>?_⟩
   rw[<- hsv v hv] at e ⊢
   exact Int.le_trans (q2 s hs (e.trans a4)) (ases _)
  ·obtain⟨q1,q2⟩:=q.lb hk
   exact⟨by rw[q1,eE2];exact Int.le_refl _,fun v hv _=>by rw[<- hsv v hv,q2];exact Int.le_refl _⟩
 ·intro m hm hk
  show 0<=m.o/\m.o<8/\m.e<=(logL s'.rs).ep/\(m.e=(logL s'.rs).ep->m.v<=(logL s'.rs).vv m.o.toNat+1)
  rw[eE,eV]
  rcases new m hm with q|q
  ·obtain⟨q1,q2,q3,q4⟩:=f.ib m q hk
   refine⟨q1,q2,q3,fun e=>?_⟩
   have:=q4 e
   rw[eV0] at this
   have:=avv m.o.toNat
   omega
  ·rcases hk with hk|hk
   ·obtain⟨q1,q2,q3,q4,_⟩:=q.ib hk
    exact⟨q1,q2,by rw[q3,eE2];exact Int.le_refl _,fun _=>by omega⟩
   ·exact absurd hk q.k34.2
 ·intro m hm hk k hk' e
  rcases new m hm with q|q
  ·exact f.rb m q hk k hk' e
  ·rcases hk with hk|hk
   ·exact absurd hk q.k34.1
   ·obtain⟨r,hr,r1,r2,r3⟩:=q.rb hk
    have:=f.rb r hr (.inl r1) k hk' (by rw[r2];exact e)
    rw[r2,r3] at this
    exact this
 ·intro v hv m hm hk e1 e2
  rw[<- hsv v hv] at e1 e2 ⊢
  rcases new m hm with q|q
  ·have q4:=(f.ib m q (.inl hk)).2.2.2 (by rw[e1,eE2])
   rw[eV0] at q4
   have q5:=avv m.o.toNat
   exact wt _ (by omega) (f.iv s hs m q hk (e1.trans a4) (by omega))
  ·exact(q.ib hk).2.2.2.2
 ·intro v hv m hm hk e1 e2
  rw[<- hsv v hv] at e1 e2 ⊢
  rcases new m hm with q|q
  ·have q4:=(f.ib m q (.inr hk)).2.2.2 (by rw[e1,eE2])
   rw[eV0] at q4
   have q5:=avv m.o.toNat
   obtain⟨p1,p2⟩:=f.ac s hs m q hk (e1.trans a4) (by omega)
   refine⟨wt _ (by omega) p1,fun hn=>?_⟩
   obtain⟨p3,p4⟩:=p2 hn
   refine⟨p3,fun ec x hx=>?_⟩
   have hx':Pend w L' (zy8 m.c) x:=⟨hx.mem,hx.k5,hx.l,hx.c,hx.n,hx.o,hx.cm⟩
   rcases pn _ hn x hx' with y|y
   ·exact p4 ec x y
   ·exact p1 (by
     have ec':(w.seat (zy8 m.c)).k.cob=m.o:=ec
     rw[ec'] at y;exact y)
  ·exact absurd hk q.k34.2
 ·intro k hk
  have g:=f.st k hk
  exact⟨g.t0,g.vol,g.obj,g.ask,g.til,g.snt,⟨by show _<=(logL s'.rs).ep;rw[eE];exact g.lb.1,fun v hv e=>by
   rw[<- hsv v hv] at e ⊢
   exact Int.le_trans (g.lb.2 s hs (e.trans a4)) (ases k)⟩,fun v hv=>by rw[<- hsv v hv];exact vk k hk,fun v hv=>by rw[<- hsv v hv];exact vg k hk,fun x hx=>⟨(g.ck x hx).1,(g.ck x hx).2.1,ck k hk x hx⟩,fun m hm=>cp k hk m ⟨hm.mem,hm.k5,hm.l,hm.c,hm.n,hm.o,hm.cm⟩⟩
theorem Dead.grow{w w':Wd}{L L':List M}{k:Nat}{e ss:Int}(h:Dead w L k e ss)(h1:w'.seat=w.seat)(hL:∀ g∈L',g.k=7->g.c=(w.seat k).k.id->g.e=e->g.s=ss->g∈L):Dead w' L' k e ss:=by
 unfold Dead at *
 rw[h1]
 exact⟨h.1,fun g hg g7 g1 g2 g3 g4=>h.2 g (hL g hg g7 g1 g3 g4) g7 g1 g2 g3 g4⟩
theorem Cl.step{w:Wd}{L L':List M}{k o:Nat}{v u e ss:Int}{s s':Sv}(hs:w.sv=some s)(h:Cl w L k o v u e ss)(a4:s'.epoch=s.epoch)(er:(logL s'.rs).vv o=(logL w.rs).vv o)
  (hL:∀ g∈L',g.k=7->g.c=(w.seat k).k.id->g∈L\/(g.e=s.epoch/\g.s=s.ses k)) (hb:e=s.epoch->ss<=s.ses k) (hses:s'.ses k=s.ses k\/s.ses k<s'.ses k)
  (hD:s'.ses k=s.ses k->e=s.epoch->ss=s.ses k->¬ u<=(w.seat k).clock->has s.D (kk k o)=true->Qr w.td w.to w.clock (w.seat k).clock (lentB s.D k o) u->has s'.D (kk k o)=true/\Qr w.td w.to w.clock (w.seat k).clock (lentB s'.D k o) u):Cl (w.served s') L' k o v u e ss:=by
 by_cases hu:u<=(w.seat k).clock
 ·exact .inl hu
 ·rcases h with h|⟨h1,h2⟩|⟨h1,h2⟩
  ·exact .inl h
  ·have h3:=h2 s hs
   refine .inr (.inl ⟨h1.grow rfl fun g hg g7 gc g1 g2=>?_,fun x hx=>?_⟩)
   ·rcases hL g hg g7 gc with q|q
    ·exact q
    ·exact absurd ⟨by rw[<- g1];exact q.1,by rw[<- g2];exact q.2⟩ h3
   ·have ex:s'=x:=Option.some.inj hx
    rw[<- ex,a4]
    rintro⟨q1,q2⟩
    have:=hb q1
    rcases hses with q|q
    ·exact h3 ⟨q1,q2.trans q⟩
    ·omega
  ·refine .inr (.inr ⟨h1.trans er.symm,fun x hx e1 e2=>?_⟩)
   have ex:s'=x:=Option.some.inj hx
   rw[<- ex,a4] at e1
   rw[<- ex] at e2 ⊢
   have:=hb e1
   rcases hses with q|q
   ·obtain⟨p1,p2⟩:=h2 s hs e1 (e2.trans q)
    exact hD q e1 (e2.trans q) hu p1 p2
   ·omega
theorem Lv.step{w:Wd}{k:Nat}{e ss x:Int}{s s':Sv}(f0:0<=w.td)(f1:w.td<1000)(h:Lv w s k e ss x)(a4:s'.epoch=s.epoch)(a5:s'.ready=s.ready)(hv:(s'.ses k=s.ses k/\s.vol k<=s'.vol k)\/s.vol k<=w.clock):Lv (w.served s') s' k e ss x:=by
 rcases h with h|⟨h1,h2,h3⟩|⟨h1,h2⟩
 ·exact .inl h
 ·rcases hv with ⟨q1,q2⟩|q
  ·exact .inr (.inl ⟨h1.trans a4.symm,h2.trans q1.symm,h3.more f1 q2⟩)
  ·exact .inl (h3.over f0 f1 q)
 ·exact .inr (.inr ⟨by rw[a4];exact h1,by rw[a5];exact h2⟩)
end Wld
end
end Go.Proofs.YtbebfliimjjohabGreatDoor
