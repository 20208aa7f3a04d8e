/- Parts of the proof. -/
import Derived.Test.YtbebfliimjjohabGreatDoorLc50
import Derived.Test.YtbebfliimjjohabGreatDoorLc42
import Derived.Test.YtbebfliimjjohabGreatDoorLc48
set_option maxRecDepth 100000
set_option maxHeartbeats 8000000
namespace Go.Proofs.YtbebfliimjjohabGreatDoor
section
namespace Wld
open Go.Maps
open Lease (I64 upd zae zad mx hol isH kk dels)
open Cache (E era putL)
open Wal (R timeB)
open Num (M okB)
theorem Qu.calm{s0:Sv}{w:Wd}{H:List Hc}{b:Nat}{cb:Int}{C:Nat}(h:Qu s0 w H b cb C)(hH:H.length+b<=110)(r:Nat):∀ {D:Nat} {x:Int},D=C+1500*r->x=cb+r->D<=100000000->x<549755813888->Qu s0 (w.calm r) H b x D/\(w.calm r).n=w.n/\(∀ j,((w.calm r).seat j).k.vol=(w.seat j).k.vol)/\(∀ c,c<w.n->∀ y,Dk s0 w c y->Dk s0 (w.calm r) c (y-r))/\((∀ c,c<w.n->Kn s0 w c)->∀ c,c<w.n->Kn s0 (w.calm r) c):=by
 induction r with
 | zero=>
  intro D x hD hx _ _
  obtain rfl:D=C:=by omega
  obtain rfl:x=cb:=by omega
  exact⟨h,rfl,fun _=>rfl,fun c _ y q=>by rw[show y-((0:Nat):Int)=y by omega];exact q,fun q=>q⟩
 | succ r ih=>
  intro D x hD hx hC hcb
  obtain⟨h1,n1,v1,d1,k1⟩:=ih (D:=D-1500) (x:=x-1) (by omega) (by omega) (by omega) (by omega)
  obtain⟨h2,n2,_,_,v2,d2,k2,_⟩:=h1.calm1 hH (by omega) (by omega)
  have e:w.calm (r+1)=(w.calm r).calm1:=rfl
  rw[e]
  rw[show x-1+1=x by omega,show D-1500+1500=D by omega] at h2
  refine⟨h2,n2.trans n1,fun j=>(v2 j).trans (v1 j),fun c hc y q=>?_,fun q c hc=>k2 c (by omega) (.inl (k1 q c hc))⟩
  have:=d2 c (by omega) _ (d1 c hc y q)
  rwa [show y-(r:Int)-1=y-((r+1:Nat):Int) by omega] at this
theorem Du.mono{w:Wd}{c:Nat}{r x:Int}(h:Du w c r)(hr:r<=x):Du w c x:=h.imp id fun q=>by omega
theorem Dk.mono{s0:Sv}{w:Wd}{c:Nat}{r x:Int}(h:Dk s0 w c r)(hr:r<=x):Dk s0 w c x:=h.imp id fun q=>by omega
theorem Wk.due{w:Wd}{H:List Hc}{b:Nat}{cb:Int}{C:Nat}(h:Wk w H b cb C){c:Nat}(hc:c<w.n):(w.seat c).k.asked+(w.seat c).k.vol<=(w.seat c).clock+w.tv/\(w.seat c).k.vol=short w.td w.tv/\(w.seat c).k.obj=short w.td w.to:=by
 obtain⟨L,s⟩:=h.s2
 have f:=(s.fr trivial).st c hc
 have:=(zbw h.wb.td0 h.wb.td1 h.wb.tv0 h.wb.tv1).2
 have h1:=f.ask
 have h2:=f.vol
 exact⟨by omega,h2,f.obj⟩
theorem settle{w:Wd}{H:List Hc}{b:Nat}{cb:Int}{C:Nat}(h:Fm w H b cb C)(hH:H.length+b<=110){V:Nat}(hV:w.tv=(V:Int))(hC:C+1500*(V+2)<=100000000)(hcb:cb+(V+2:Nat)<549755813888) :
  ∃ s0,Qu s0 (w.calm (V+2)) H b (cb+(V+2:Nat)) (C+1500*(V+2)):=by
 obtain⟨h1,r1⟩:=h.calm hH V (D:=C+1500*V) (x:=cb+V) rfl rfl (by omega) (by omega)
 have hrd:Rdy (w.calm V):=fun s hs=>by
  have:=r1.ry w.tv (fun s hs=>(h.wk.xt.ex.rdy s hs).1) s hs
  omega
 obtain⟨h2,r2,d2,s2⟩:=h1.calm1 hH (by omega) (by omega)
 have hn1:=r1.n
 have hcl2:∀ c,c<(w.calm V).n->Clean (w.calm V).calm1 c:=fun c hc=>d2 c hc ((r1.du c (by omega) w.tv (.inr (h.wk.due (by omega)).1)).mono (by omega))
 have hn2:=r2.n
 obtain⟨h3,r3,d3,s3⟩:=h2.calm1 hH (by omega) (by omega)
 have hn3:=r3.n
 have e:w.calm (V+2)=(w.calm V).calm1.calm1:=rfl
 rw[e]
 have hcl3:∀ c,c<(w.calm V).calm1.calm1.n->Clean (w.calm V).calm1.calm1 c:=fun c hc=>r3.cl c (by omega) (hcl2 c (by omega))
 have hrd3:Rdy (w.calm V).calm1.calm1:=r3.rd (r2.rd hrd)
 obtain⟨s,hs,_⟩:=h3.wk.up
 rw[show cb+(V+2:Nat)=cb+V+1+1 by omega]
 exact⟨s,h3.mono (by omega),hcl3,hrd3,fun c hc=>s3 (fun x hx=>hcl2 x (by omega)) (r2.rd hrd) c (by omega),s,hs,rfl,rfl,rfl,rfl,h3.empty hcl3 hrd3 hs⟩
theorem known{s0:Sv}{w:Wd}{H:List Hc}{b:Nat}{cb:Int}{C:Nat}(h:Qu s0 w H b cb C)(hH:H.length+b<=110){V:Nat}(hV:w.tv=(V:Int))(hC:C+1500*(V+7)<=100000000)(hcb:cb+(V+7:Nat)<549755813888) :
  Qu s0 (w.calm (V+7)) H b (cb+(V+7:Nat)) (C+1500*(V+7))/\∀ c,c<w.n->Kn s0 (w.calm (V+7)) c/\(3<=(w.seat c).k.vol->((w.calm (V+7)).seat c).clock+2<=((w.calm (V+7)).seat c).k.til):=by
 obtain⟨h1,n1,v1,d1,_⟩:=h.calm hH V (D:=C+1500*V) (x:=cb+V) rfl rfl (by omega) (by omega)
 obtain⟨h2,n2,_,_,v2,_,k2,_⟩:=h1.calm1 hH (by omega) (by omega)
 have hk2:∀ c,c<(w.calm V).calm1.n->Kn s0 (w.calm V).calm1 c:=fun c hc=>k2 c (by omega) ((d1 c (by omega) w.tv (.inr (h.fm.wk.due (by omega)).1)).mono (by omega))
 obtain⟨h3,n3,v3,_,k3⟩:=h2.calm hH 5 (D:=C+1500*V+1500+7500) (x:=cb+V+1+5) (by omega) (by omega) (by omega) (by omega)
 have hk3:=k3 hk2
 obtain⟨h4,n4,_,_,v4,_,k4,t4⟩:=h3.calm1 hH (by omega) (by omega)
 have e:w.calm (V+7)=((w.calm V).calm1.calm 5).calm1:=rfl
 rw[e]
 rw[show cb+(V:Int)+1+5+1=cb+(V+7:Nat) by omega,show C+1500*V+1500+7500+1500=C+1500*(V+7) by omega] at h4
 refine⟨h4,fun c hc=>⟨k4 c (by omega) (.inl (hk3 c (by omega))),fun q=>t4 c (by omega) (hk3 c (by omega)) ?_⟩⟩
 rw[v3,v2,v1]
 exact q
theorem zrl{td t u:Int}(h0:0<=td)(h1:td<=500)(ht:t<=u):short td t<=short td u:=Int.ediv_le_ediv (by omega) (Int.mul_le_mul_of_nonneg_right ht (by omega))
structure Ended(s w:Wd):Prop where
 up:∃ v,w.sv=some v
 n:w.n=s.n
 over:∀ (i:Nat) e,w.events[i]?=some e->e.ended=0->∀ k:Nat,k<w.n->e.client=(k:Int)->e.life≠(w.seat k).life
 life:Lif s w
 shut:∀ c,c<w.n->Shut w c
 again:4<=short w.td w.tv->∀ k,k<w.n->∀ a:Int,0<=a->a<8->Rr2 (w.read k a).calm1 k a w.events.length
theorem ended{s:Wd}{H:List Hc}{L:List M}{b C:Nat}{cb:Int}(h:Safe2 True s H L b cb)(hwb:WdB s C)(hH:H.length+b<=100)(hC:C<=90000000)(hcb:0<=cb/\cb<=1000000)(hn:1<=s.n){V:Nat}(hV:s.tv=(V:Int))(hV1:V<=100)(hto:s.tv<=s.to) :
  Ended s ((s.zy3 1000 (-1)).calm (2*V+10)):=by
 have ht:Tm s ((s.zy3 1000 (-1)).calm (2*V+10)):=(zb2 s 1000 (-1)).trans (zci _ _)
 obtain⟨B,hi,hB⟩:=h.inv.inv
 have hroom:=hi.room
 have hB1:H.length+B<200:=by omega
 have hn1:(s.zy3 1000 (-1)).n=s.n:=(zbt s 1000 (-1)).n
 have hrs:(s.zy3 1000 (-1)).rs.length<200:=by
  unfold Wd.zy3
  split
  ·show s.rs.length<200;omega
  ·rename_i v hv
   show v.rs.length<200
   rw[(hi.sv v hv).2]
   omega
 have s1:=(h.zy3 1000 (-1)).restart (by omega)
 have hwb1:WdB (s.zy3 1000 (-1)).restart (C+1):=(hwb.zy3 (by omega) (-1)).restart hrs
 have hwk:Wk (s.zy3 1000 (-1)).restart H (b+1) cb (C+1):=⟨⟨L,s1⟩,Up.failed hi hB1 h.inv.up,hwb1⟩
 obtain⟨f1,_⟩:=hwk.calm1 (by omega) (by omega) (by omega) (by omega)
 have e0:(s.zy3 1000 (-1)).calm1=(s.zy3 1000 (-1)).calm 1:=rfl
 have hu:(s.zy3 1000 (-1)).calm1.tv=(V:Int):=((ziu _).tv.trans (zb2 s 1000 (-1)).tv).trans hV
 obtain⟨s0,q1⟩:=settle f1 (by omega) hu (by omega) (by omega)
 have hu2:((s.zy3 1000 (-1)).calm1.calm (V+2)).tv=(V:Int):=(zci _ _).tv.trans hu
 obtain⟨q2,kn⟩:=known q1 (by omega) hu2 (by omega) (by omega)
 have e:(s.zy3 1000 (-1)).calm (2*V+10)=((s.zy3 1000 (-1)).calm1.calm (V+2)).calm (V+7):=by
  rw[<- zi0,e0,<- zi0]
  congr 1
  omega
 rw[e] at ht ⊢
 have hnn:(((s.zy3 1000 (-1)).calm1.calm (V+2)).calm (V+7)).n=s.n:=ht.n
 have hnn1:((s.zy3 1000 (-1)).calm1.calm (V+2)).n=s.n:=by rw[calm_n,calm1_n,hn1]
 obtain⟨L2,sx⟩:=q2.fm.wk.s2
 obtain⟨B2,i2,_⟩:=sx.inv.inv
 refine⟨q2.sv.imp fun v hv=>hv.1,hnn,fun i x hx hz k hk hc hl=>?_,?_,q2.sh,fun hs4 k hk a ha0 ha8=>?_⟩
 ·have:=q2.fm.wk.xt.eo i x hx hz k hk hc hl
  have:=zhh (i2.st k hk) (q2.sh k hk)
  omega
 ·rw[<- e]
  exact(zbt s 1000 (-1)).lif.trans (zd8 _ _)
 ·obtain⟨kn1,kn2⟩:=kn k (by omega)
  have hd:=q1.fm.wk.due (c:=k) (by omega)
  have hd2:=q2.fm.wk.due (c:=k) hk
  have hm:=zrl (t:=s.tv) (u:=s.to) hwb.td0 hwb.td1 hto
  have e3:((s.zy3 1000 (-1)).calm1.calm (V+2)).td=(((s.zy3 1000 (-1)).calm1.calm (V+2)).calm (V+7)).td:=by rw[(zci _ (V+7)).td]
  have e4:((s.zy3 1000 (-1)).calm1.calm (V+2)).tv=(((s.zy3 1000 (-1)).calm1.calm (V+2)).calm (V+7)).tv:=by rw[(zci _ (V+7)).tv]
  refine(zrk q2 (by omega) (by omega) (by omega) hk ha0 ha8 kn1 (kn2 (by rw[hd.2.1,e3,e4];omega)) ?_).1
  rw[hd2.2.2,ht.td,ht.ob]
  rw[ht.td,ht.tv] at hs4
  omega
end Wld
end
section
namespace Wld
open Go.RowKit Go.Maps
open Lease (Ob I64 upd TabIs hol dels objB HasI zaj zaw mx)
open Cache (tp zab zac)
open Num (M okB strOf ints)
open Clock (zal)
open Wal (R WalIs zzb Oq Fw rcells)
open Net (NetIs Only pcells)
theorem WdIs.apartI{w w':World}{A:Wa}{s:Wd}(h:WdIs w A s){T:Nat}(hT:isC w T 3)(hs:w.heap.size<=w'.heap.size)(o:∀ y,y≠T->w'.heap[y]?=w.heap[y]?):WdIs w' A s/\∀ k,wfoot w' A s k->wfoot w A s k:=by
 have hQ:=o A.Q (h.core.typ.ne hT (by decide))
 have eQ:∀ i,w'.cell? ⟨A.Q,i,none⟩=w.cell? ⟨A.Q,i,none⟩:=fun i=>World.cell?_of_block hQ
 have fQ:∀ i,w'.frozen? ⟨A.Q,i,none⟩=w.frozen? ⟨A.Q,i,none⟩:=fun i=>World.frozen?_of_block hQ
 have hG:=o A.G (h.gt.ne hT (by decide))
 have hN:NetIs w' (A.Q+1) A.Q (s.net.map encN):=NetIs.kept h.net hs (eQ _) (eQ _) fQ fun v g hv hg=>by
  obtain⟨v',hv',hr⟩:=h.net.row
  rw[hv] at hv'
  injection hv' with hv'
  subst hv'
  exact o g ((zah hr hg).2.ne hT (by decide))
 have hD:zzb w' A.Q s.rs s.fails s.left:=zzb.cells h.disk (fun i _ _=>eQ i) fQ
 have hfoot:∀ v,s.sv=some v->∀ y,foot w A.a y->y≠A.a.q->w'.heap[y]?=w.heap[y]?:=fun v hv y hy hyq=>o y fun e=>by
  have u:=h.up v hv
  rw[e] at hy hyq
  exact u.sv.notFoot hT hyq (by decide) hy
 refine⟨⟨h.core.cells (h.core.typ.same hQ) (fun i _ _=>eQ i) fQ,hD,hN,h.evs.imp fun v hv=>⟨(eQ _).trans hv.1,zab hv.2 fun g hg=>o g ((zah hv.2 hg).2.ne hT (by decide))⟩,h.gt.same hG,fun i=>(World.frozen?_of_block (a:=⟨A.G,i,none⟩) hG).trans (h.gf i),fun i hi=>(h.seats i hi).same hG,fun i hi=>(h.cli i hi).blocks (o _ ((h.cli i hi).isC.ne hT (by decide))) (o _ ((h.cli i hi).isM.ne hT)),h.ap,fun v hv=>?_,h.n1,h.n4⟩,fun k f=>?_⟩
 ·have u:=h.up v hv
  exact⟨u.sv.feet hs (by rw[u.q,u.rs,u.fails,u.left];exact hD) (hfoot v hv),u.q,u.rs,u.fails,u.left,u.ne,u.to,u.tv⟩
 ·rcases f with f|f|⟨v,f1,f2⟩|⟨i,hi,f⟩|⟨i,hi,f⟩|⟨f1,f2⟩
  ·exact .Q f
  ·exact .G f
  ·exact .ev v ((eQ _).symm.trans f1) f2
  ·exact .c i hi f
  ·exact .m i hi f
  ·obtain⟨v,hv⟩:=Option.isSome_iff_exists.1 f1
   have u:=h.up v hv
   have hl:=u.sv.lts
   exact .sv f1 ((za4 (hfoot v hv _ (.inr (.inr (.inr (.inl rfl)))) (by omega)) (hfoot v hv _ (.inr (.inr (.inl rfl))) (by omega)) k).1 f2)
structure Ta(w wr:World)(T:Nat)(A:Wa)(s:Wd)(wn:Nat):Prop where
 t:zze wr T A s wn false
 b:Below w.heap.size w wr
 l:Low w.heap.size wr A s
 T0:w.heap.size<=T
theorem At.ta{w wr:World}{T:Nat}{j:Nat}{A:Wa}{s:Wd}{wn:Nat}(h:At w wr T false j A s wn):Ta w wr T A s wn:=⟨h.t,h.b,h.l,h.T0⟩
theorem Ta.moved{w wr w':World}{T:Nat}{A A':Wa}{s s':Wd}{wn:Nat}(h:Ta w wr T A s wn)(d:WdIs w' A' s')(f:Fz A s wr A' s' w')(t:Tm s s'):Ta w w' T A' s' wn:=
 ⟨h.t.moved d f t,h.b.trans (f.below h.l h.t.wd.lt),h.l.step f h.b.size,h.T0⟩
theorem Ta.below{w wr wr':World}{T:Nat}{A:Wa}{s:Wd}{wn:Nat}(h:Ta w wr T A s wn)(hb:Below wr.heap.size wr wr'):Ta w wr' T A s wn:=
 ⟨h.t.below hb,h.b.trans (hb.mono h.b.size),h.l.step (h.t.wd.below hb).2 h.b.size,h.T0⟩
theorem Ta.stored{w wr:World}{T:Nat}{A:Wa}{s:Wd}{wn:Nat}(h:Ta w wr T A s wn){X:Nat}(hX:isC wr X 3)(hw:w.heap.size<=X)(i:Nat)(v:Value):Ta w (wr.setCell ⟨X,i,none⟩ v) T A s wn:=by
 have o:∀ y,y≠X->(wr.setCell ⟨X,i,none⟩ v).heap[y]?=wr.heap[y]?:=fun y hy=>Below.heap_setCell wr ⟨X,i,none⟩ _ y hy
 obtain⟨k1,k2⟩:=h.t.wd.apartI hX (by simp) o
 have hTX:T≠X:=h.t.typ.ne hX (by decide)
 have eT:=o T hTX
 have e:∀ i',(wr.setCell ⟨X,i,none⟩ v).cell? ⟨T,i',none⟩=wr.cell? ⟨T,i',none⟩:=fun i'=>World.cell?_of_block eT
 exact⟨⟨h.t.typ.same eT,fun i'=>(World.frozen?_of_block (a:=⟨T,i',none⟩) eT).trans (h.t.fro i'),(e 0).trans h.t.c0,(e 1).trans h.t.c1,(e 2).trans h.t.c2,(e 3).trans h.t.c3,(e 4).trans h.t.c4,(e 5).trans h.t.c5,(e 6).trans h.t.c6,k1⟩,Below.setCell h.b (show w.heap.size<=(⟨X,i,none⟩:Addr).block from hw) _,fun k hk=>h.l k (k2 k hk),h.T0⟩
structure Lvs(wr:World)(X n:Nat)(s:Wd):Prop where
 c:isC wr X 3
 v:∀ k,k<n->wr.cell? ⟨X,k,none⟩=some (.int .i64 (s.seat k).life)
 f:∀ i,wr.frozen? ⟨X,i,none⟩=false
theorem Lvs.kept{wr w':World}{X n:Nat}{s s':Wd}(h:Lvs wr X n s)(k:KpI wr w')(hl:Lif s s'):Lvs w' X n s':=by
 have e:=k X h.c
 exact⟨h.c.same e,fun i hi=>(World.cell?_of_block (a:=⟨X,i,none⟩) e).trans ((h.v i hi).trans (by rw[hl i])),fun i=>(World.frozen?_of_block (a:=⟨X,i,none⟩) e).trans (h.f i)⟩
theorem Lvs.turn{wr:World}{X n:Nat}{s s':Wd}(h:Lvs wr X n s){k:Nat}(hk:k<n)(hl:Lfs (some k) s s'):Lvs (wr.setCell ⟨X,k,none⟩ (.int .i64 ((s.seat k).life+1))) X n s':=by
 refine⟨Wal.zai h.c,fun i hi=>?_,fun i=>by rw[World.frozen?_setCell];exact h.f i⟩
 rw[hl i]
 by_cases e:i=k
 ·subst e
  rw[World.cell?_setCell_same _ _ _ (h.v i hi),if_pos rfl]
 ·rw[World.cell?_setCell_other _ _ _ _ (by intro q;injection q with _ q;exact e q.symm),if_neg (by simp;omega),Int.add_zero]
  exact h.v i hi
theorem Lvs.made{w1:World}{n:Nat}{X:Nat}{s:Wd}{Z:List Value}(hZ:List.replicate n (Value.int .i64 0)=Z)(e:w1.heap[X]?=some (.cells Z.toArray 3 (0,0)))(hs:∀ k,k<n->(s.seat k).life=0):Lvs w1 X n s:=by
 refine⟨⟨_,_,e⟩,fun k hk=>?_,fun i=>by simp[World.frozen?,e]⟩
 rw[cell_of_row _ _ _ _ _ _ e,List.getElem?_toArray,<- hZ,List.getElem?_replicate,if_pos hk,hs k hk]
theorem zuj(n:Nat)(h1:1<=n)(h4:n<=4)(w:World){Z:List Value}(hZ:List.replicate n (Value.int .i64 0)=Z):(Instr.makeSlice 26 (.int .i64 n) (.int .i64 n)).run Tryz.prog w = .ok (.slice (some ⟨w.heap.size,0,none⟩) n n) (w.alloc (.cells Z.toArray 3)):=by
 rw[<- hZ]
 obtain rfl|rfl|rfl|rfl:n=1\/n=2\/n=3\/n=4:=by omega
 all_goals kernel_rfl
theorem zpg{a n r:Int}(h:Clock.pickV a n=r)(w:World)(h0:0<n)(h1:n<=1099511627776) :
  Calls Tryz.prog 10 #[.int .i64 a,.int .i64 n] w fun e w'=>e = .returned (.int .i64 r)/\w'=w:=by
 rw[<- h]
 exact Clock.zop a n w h0 h1
theorem zuk{xk:Int}{n k:Nat}(h:Clock.pickV xk n=(k:Int)):rbOf 10 xk n=some k:=by
 unfold rbOf
 rw[if_pos rfl,h]
 congr 1
theorem zul{xw xk:Int}{n:Nat}(h:xw≠10):rbOf xw xk n=Option.none:=by
 unfold rbOf
 rw[if_neg h]
theorem Lfs.lif{s s':Wd}(h:Lfs (Option.none) s s'):Lif s s':=fun k=>by
 have:=h k
 rw[if_neg (by simp)] at this
 omega
theorem Safe2.to{hon hon':Prop}{w:Wd}{H:List Hc}{L:List M}{b:Nat}{cb:Int}(h:Safe2 hon w H L b cb)(q:hon'->hon):Safe2 hon' w H L b cb:=⟨⟨h.inv,fun x=>h.fr (q x),h.ck⟩,fun x=>h.xt (q x)⟩
structure Fin2(s4 s5:Wd)(N:Nat)(x y:Ev):Prop where
 gx:s5.events[N]?=some x
 gy:s5.events[N+1]?=some y
 len:s5.events.length=N+2
 ok:x.hit=true\/(x.hit=false/\0<x.ended/\y.ended=y.began/\y.hit=true/\y.d=x.d/\y.ver=x.ver/\s5.net.length=s4.net.length)
theorem Rr2.fin{s4:Wd}{k:Nat}{a:Int}{N:Nat}(h:Rr2 s4 k a N):∃ x y,Fin2 s4 (s4.read k a) N x y:=by
 obtain⟨x,hx,hok⟩:=h.x
 have hev:=zno s4 k ((s4.seat k).k.reads a (s4.seat k).clock)
 have hev:(s4.read k a).events=s4.events++[s4.evB k ((s4.seat k).k.reads a (s4.seat k).clock)]:=hev
 refine⟨x,_,by rw[hev,List.getElem?_append_left (by rw[h.len];omega)];exact hx,by rw[hev,List.getElem?_append_right (by rw[h.len];omega),h.len,Nat.sub_self];rfl,by rw[hev,List.length_append,h.len];rfl,?_⟩
 cases hh:x.hit with
 | true=>exact .inl rfl
 | false=>
  right
  rcases hok with q|⟨q1,e,q2,q3,q4⟩
  ·rw[hh] at q;cases q
  ·have hc:(s4.seat k).k.reads a (s4.seat k).clock=({ ((s4.seat k).k.begin 1 a ⟨#[]⟩ 0 false false (s4.seat k).clock).looked a with hit:=true }:K).overWith e.d e.v:=by
    unfold K.reads
    rw[q2]
   have hov:((s4.seat k).k.reads a (s4.seat k).clock).over=true:=by rw[hc];rfl
   refine⟨rfl,q1,?_,?_,?_,?_,?_⟩
   ·show (if ((s4.seat k).k.reads a (s4.seat k).clock).over=true then s4.step+1 else 0)=s4.step+1
    rw[if_pos hov]
   ·show ((s4.seat k).k.reads a (s4.seat k).clock).hit=true
    rw[hc];rfl
   ·show ((s4.seat k).k.reads a (s4.seat k).clock).d=x.d
    rw[hc];exact q3
   ·show ((s4.seat k).k.reads a (s4.seat k).clock).ver=x.ver
    rw[hc];exact q4
   ·have e2:s4.read k a=(s4.opens k ((s4.seat k).k.reads a (s4.seat k).clock)).note k:=zgc _ _ _ hov
    rw[e2,(zck s4 k _).1]
theorem zlk{s:Wd}{k:Nat}{o:Int}(h:Shut s k)(h0:0<=o)(h8:o<8):(s.seat k).k.freeE o=0:=by
 unfold K.freeE
 have h':(s.seat k).k.zy2=false:=h
 rw[h',if_neg (by decide),if_pos (by unfold Lease.objB;exact Num.zau (by omega) (by omega))]
theorem Safe2.readOk{s:Wd}{H:List Hc}{L:List M}{b C:Nat}{cb:Int}(h:Safe2 True s H L b cb)(hwb:WdB s C)(hH:H.length+b<=100){k:Nat}(hk:k<s.n){a:Int}(h0:0<=a)(h8:a<8)(hs:Shut s k):CalmOk (s.read k a)/\WdB (s.read k a) (C+3)/\WdB (s.read k a).calm1 (C+18003)/\(s.read k a).n=s.n/\Tm s (s.read k a):=by
 obtain⟨g,L',_,k1⟩:=h.read hk h0 h8 hs
 have hok:=k1.toSafe.calmOk (by simp;omega)
 have hsb:=hwb.st k hk
 have hwb3:WdB (s.read k a) (C+3):=hwb.begin hk (KB.reads hsb.k (o:=a) (now:=(s.seat k).clock) h0 (by omega) hsb.c0 hsb.c1)
 have ht:Tm s (s.read k a):=zc3 s k _
 obtain⟨B,i,_⟩:=h.inv.inv
 exact⟨hok,hwb3,(hwb3.calmed (by rw[ht.n];exact i.n4) hok).mono (by omega),ht.n,ht⟩
theorem room1{C:Nat}(h:C<=10000000):C+3+18000*1<=800000000:=Nat.le_trans (Nat.add_le_add_right (Nat.add_le_add_right h 3) (18000*1)) (by decide)
theorem room2{C:Nat}(h:C<=10000000):C+18003<=10000000000:=Nat.le_trans (Nat.add_le_add_right h 18003) (by decide)
theorem room0{C:Nat}(h:C<=10000000):C<=10000000000:=Nat.le_trans h (by decide)
theorem room3{C N m:Nat}(h:C<=10000000)(hN:N<=C)(hm:m=N+2):m<=100000000:=by
 rw[hm]
 exact Nat.le_trans (Nat.add_le_add_right (Nat.le_trans hN h) 2) (by decide)
theorem room4{m:Nat}(h:m<=100000000):m<=100000000000:=Nat.le_trans h (by decide)
theorem ze7(w:World)(cx cy:List Value)(t:TypeId):(∀ i q,cx[i]?=some q->((w.alloc (.cells cx.toArray t)).alloc (.cells cy.toArray t)).drew.cell? ⟨w.heap.size,i,none⟩=some q)/\(∀ i q,cy[i]?=some q->((w.alloc (.cells cx.toArray t)).alloc (.cells cy.toArray t)).drew.cell? ⟨w.heap.size+1,i,none⟩=some q)/\Below w.heap.size w ((w.alloc (.cells cx.toArray t)).alloc (.cells cy.toArray t)).drew:=by
 have h1:(w.alloc (.cells cx.toArray t)).heap.size=w.heap.size+1:=by simp
 refine⟨fun i q hq=>?_,fun i q hq=>?_,(((Below.refl _ w).alloc (Nat.le_refl _) _).alloc (by omega) _).drew⟩
 ·show ((w.alloc (.cells cx.toArray t)).alloc (.cells cy.toArray t)).cell? ⟨w.heap.size,i,none⟩=some q
  rw[World.cell?_alloc_lt _ _ ⟨w.heap.size,i,none⟩ (by simp)]
  rw[cell_of_row _ _ _ _ _ _ (heap_alloc_new w (.cells cx.toArray t)),List.getElem?_toArray]
  exact hq
 ·show ((w.alloc (.cells cx.toArray t)).alloc (.cells cy.toArray t)).cell? ⟨w.heap.size+1,i,none⟩=some q
  rw[<- h1,cell_of_row _ _ _ _ _ _ (heap_alloc_new (w.alloc (.cells cx.toArray t)) (.cells cy.toArray t)),List.getElem?_toArray]
  exact hq
end Wld
end
end Go.Proofs.YtbebfliimjjohabGreatDoor
