/- Parts of the proof. -/
import Derived.Test.YtbebfliimjjohabGreatDoorLd23
import Derived.Test.YtbebfliimjjohabGreatDoorLd04
import Derived.Test.YtbebfliimjjohabGreatDoorLd05
import Derived.Test.YtbebfliimjjohabGreatDoorLd19
set_option maxRecDepth 100000
set_option maxHeartbeats 8000000
namespace Go.Proofs.YtbebfliimjjohabGreatDoor
section
namespace Wld
open Go.RowKit Go.Maps
open Lease (upd hol dels mx kk objB I64)
open Cache (E putL era)
open Wal (R mayB timeB)
open Num (M okB)
def SameT(s s':Sv):Prop:=s'.to=s.to∧s'.tv=s.tv
theorem SameT.refl(s:Sv):SameT s s:=⟨rfl,rfl⟩
theorem SameT.trans{a b c:Sv}(h:SameT a b)(k:SameT b c):SameT a c:=⟨k.1.trans h.1,k.2.trans h.2⟩
theorem Leased.terms{s s':Sv}(h:Leased s s'):SameT s s':=by
 obtain⟨D,v,z,rfl⟩:=h
 exact⟨rfl,rfl⟩
theorem add_terms(s:Sv)(r:R):SameT s (s.add r).1:=by
 unfold Sv.add
 split
 ·exact SameT.refl s
 ·split
  ·exact SameT.refl s
  ·split<;>exact⟨rfl,rfl⟩
theorem commit_terms(s:Sv)(m:M)(o:Nat):SameT s (s.commit m o).1:=by
 have h:=add_terms s (s.recd m o)
 unfold Sv.commit
 split
 ·exact h.trans ⟨(applied_terms _ _).1,(applied_terms _ _).2.1⟩
 ·exact h
theorem adv_terms(o:Nat)(now:Int):∀ (f:Nat) (s:Sv),SameT s (s.adv o now f).1
 | 0,s=>SameT.refl s
 | f+1,s=>by
  unfold Sv.adv
  split
  ·exact SameT.refl s
  ·have h1:=(awaited_leased s o now).terms
   split
   ·exact h1
   ·split
    ·exact h1
    ·rename_i m rest _
     have h2:=h1.trans (commit_terms (s.awaited o now).1 m o)
     split
     ·exact h2
     ·exact(h2.trans ⟨rfl,rfl⟩).trans (adv_terms o now f _)
theorem enq_terms(s:Sv)(m:M)(o:Nat):SameT s (s.enq m o).1:=by
 unfold Sv.enq
 split
 ·exact SameT.refl s
 ·split<;>exact⟨rfl,rfl⟩
theorem hear_terms(s:Sv)(m:M)(now:Int):SameT s (s.hear m now).1:=by
 unfold Sv.hear
 split
 ·exact SameT.refl s
 ·split
  ·unfold Sv.readS Sv.lent
   dsimp only
   split<;>exact⟨rfl,rfl⟩
  ·split
   ·unfold Sv.writeS
    split
    ·exact SameT.refl s
    ·split
     ·exact SameT.refl s
     ·split
      ·exact enq_terms s m _
      ·exact((enq_terms s m _).trans (adv_terms _ now _ _)).trans (awaited_leased _ _ now).terms
   ·split
    ·unfold Sv.renewS
     have h1:=(remind_leased s (seatN m.c:Nat) now 8).terms
     split
     ·exact h1
     ·split
      ·exact h1
      ·exact h1.trans ⟨rfl,rfl⟩
    ·split
     ·unfold Sv.release
      split
      ·exact SameT.trans ⟨rfl,rfl⟩ (adv_terms _ now _ _)
      ·exact SameT.refl s
     ·exact SameT.refl s
theorem tick_terms(s:Sv)(now:Int):∀ k,SameT s (s.tickN now k).1
 | 0=>SameT.refl s
 | k+1=>(tick_terms s now k).trans (adv_terms k now _ _)
theorem WdB.answer{w:Wd}{C:Nat}(h:WdB w C){r:Sv×List M}(hv:SvB r.1 (400*C))(h1:r.1.to=w.to)(h2:r.1.tv=w.tv):WdB (w.answer r) C:=(WdB.tells r.2 (h.served hv h1 h2)).fallen
theorem WdB.setK{w:Wd}{C:Nat}(h:WdB w C){i:Nat}{k:K}(hk:KB k C):WdB (w.setK i k) C:=
 ⟨h.to0,h.to1,h.tv0,h.tv1,h.td0,h.td1,h.c0,h.c1,fun j hj=>by
  show SB (updN w.seat i { w.seat i with k:=k } j) C w.events.length
  unfold updN
  split
  ·rename_i e
   subst e
   have q:=h.st j hj
   exact⟨hk,q.c0,q.c1,q.l0,q.l1,q.a0,q.a1⟩
  ·exact h.st j hj,h.s0,h.s1,h.ev,h.net,h.netl,h.sv,h.recs,h.len,h.left0,h.left1⟩
theorem WdB.note{w:Wd}{C:Nat}(h:WdB w C)(i:Nat):WdB (w.note i) C:=by
 unfold Wd.note
 split
 ·exact h
 ·refine⟨h.to0,h.to1,h.tv0,h.tv1,h.td0,h.td1,h.c0,h.c1,fun j hj=>?_,h.s0,h.s1,by simpa using h.ev,h.net,h.netl,h.sv,h.recs,h.len,h.left0,h.left1⟩
  show SB (updN w.seat i _ j) C (w.events.modify _ _).length
  rw[List.length_modify]
  unfold updN
  split
  ·rename_i e
   subst e
   have q:=h.st j hj
   refine⟨q.k,q.c0,q.c1,q.l0,q.l1,?_,?_⟩
   ·dsimp only
    split
    ·omega
    ·exact q.a0
   ·dsimp only
    split
    ·omega
    ·exact q.a1
  ·exact h.st j hj
theorem WdB.deliver{w:Wd}{C:Nat}(h:WdB w C)(k:Nat):WdB (w.deliver k) (C+1):=by
 unfold Wd.deliver
 split
 ·exact h.mono (by omega)
 ·rename_i p hp
  have hm:=h.net p (List.mem_of_getElem? hp)
  have h1:∀ D,C+1≤D→WdB { w with net:=w.net.eraseIdx k,step:=w.step+1 } D:=fun D hD=>by
   have h':=h.mono (Nat.le_trans (Nat.le_succ C) hD)
   refine⟨h'.to0,h'.to1,h'.tv0,h'.tv1,h'.td0,h'.td1,h'.c0,h'.c1,h'.st,by have:=h.s0;show 0≤w.step+1;omega,by have:=h.s1;show w.step+1≤_;omega,h'.ev,fun q hq=>h.net q (List.mem_of_mem_eraseIdx hq),by have:=h.netl;show (w.net.eraseIdx k).length≤200;rw[List.length_eraseIdx];split<;>omega,h'.sv,h'.recs,h'.len,h'.left0,h'.left1⟩
  unfold Wd.told
  split
  ·have h0:WdB { w with net:=w.net.eraseIdx k,step:=w.step } C:=⟨h.to0,h.to1,h.tv0,h.tv1,h.td0,h.td1,h.c0,h.c1,h.st,h.s0,h.s1,h.ev,fun q hq=>h.net q (List.mem_of_mem_eraseIdx hq),by have:=h.netl;show (w.net.eraseIdx k).length≤200;rw[List.length_eraseIdx];split<;>omega,h.sv,h.recs,h.len,h.left0,h.left1⟩
   unfold Wd.toldServer
   split
   ·exact h1 _ (Nat.le_refl _)
   ·rename_i s hs
    obtain⟨k1,k2,k3,_⟩:=h.sv s hs
    have ht:=hear_terms s p.2 w.clock
    exact(h1 _ (Nat.le_refl _)).answer (((k1.hear (okB_m hm).1 w.clock).1).mono (by omega)) (ht.1.trans k2) (ht.2.trans k3)
  ·split
   ·rename_i hh
    have hi:p.1.toNat<w.n:=by
     simp[Wd.has] at hh
     omega
    exact(WdB.send _ _ ((h1 _ (Nat.le_refl _)).setK ((h.st _ hi).k.hear p.2 ⟨(okB_m hm).2,(okB_m hm).1.2.2⟩).1)).note _
   ·exact h1 _ (Nat.le_refl _)
theorem WdB.lose{w:Wd}{C:Nat}(h:WdB w C)(k:Nat):WdB (w.lose k) C:=
 ⟨h.to0,h.to1,h.tv0,h.tv1,h.td0,h.td1,h.c0,h.c1,h.st,h.s0,h.s1,h.ev,fun q hq=>h.net q (List.mem_of_mem_eraseIdx hq),by have:=h.netl;show (w.net.eraseIdx k).length≤200;rw[List.length_eraseIdx];split<;>omega,h.sv,h.recs,h.len,h.left0,h.left1⟩
theorem WdB.twice{w:Wd}{C:Nat}(h:WdB w C)(k:Nat):WdB (w.twice k) C:=by
 unfold Wd.twice
 split
 ·exact h
 ·rename_i p hp
  split
  ·exact⟨h.to0,h.to1,h.tv0,h.tv1,h.td0,h.td1,h.c0,h.c1,h.st,h.s0,h.s1,h.ev,fun q hq=>by
    rcases List.mem_append.1 hq with a|a
    ·exact h.net q a
    ·rw[List.mem_singleton.1 a];exact h.net p (List.mem_of_getElem? hp),by simp;omega,h.sv,h.recs,h.len,h.left0,h.left1⟩
  ·exact h
theorem WdB.ask{w:Wd}{C:Nat}(h:WdB w C){i:Nat}(hi:i<w.n):WdB (w.ask i) (C+1):=
 WdB.send _ _ ((h.mono (Nat.le_succ C)).setK ((h.st i hi).k.again (h.st i hi).c0 (h.st i hi).c1).1)
theorem WdB.stepped{w:Wd}{C:Nat}(h:WdB w C):WdB { w with step:=w.step+1 } (C+1):=by
 have h':=h.mono (Nat.le_succ C)
 exact⟨h'.to0,h'.to1,h'.tv0,h'.tv1,h'.td0,h'.td1,h'.c0,h'.c1,h'.st,by have:=h.s0;show 0≤w.step+1;omega,by have:=h.s1;show w.step+1≤_;omega,h'.ev,h'.net,h'.netl,h'.sv,h'.recs,h'.len,h'.left0,h'.left1⟩
theorem WdB.again{w:Wd}{C:Nat}(h:WdB w C){i:Nat}(hi:i<w.n):WdB (w.again i) (C+2):=h.stepped.ask hi
theorem WdB.opens{w:Wd}{C:Nat}(h:WdB w C){i:Nat}{c:K}(hc:KB c (C+2)):WdB (w.opens i c) (C+2):=by
 have h':=h.mono (show C≤C+2 by omega)
 refine⟨h'.to0,h'.to1,h'.tv0,h'.tv1,h'.td0,h'.td1,h'.c0,h'.c1,fun j hj=>?_,by have:=h.s0;show 0≤w.step+1;omega,by have:=h.s1;show w.step+1≤_;omega,by have:=h.ev;show (w.events++[_]).length≤_;simp;omega,h'.net,h'.netl,h'.sv,h'.recs,h'.len,h'.left0,h'.left1⟩
 show SB (updN w.seat i _ j) (C+2) (w.events++[_]).length
 unfold updN
 split
 ·rename_i e
  subst e
  have q:=h'.st j hj
  exact⟨hc,q.c0,q.c1,q.l0,q.l1,by dsimp only;omega,by simp;omega⟩
 ·have q:=h'.st j hj
  exact q.mono (Nat.le_refl _) (by simp)
theorem WdB.begin{w:Wd}{C:Nat}(h:WdB w C){i:Nat}(hi:i<w.n){c:K}(hc:KB c (C+2)):WdB (w.begin i c) (C+3):=by
 have h1:=(h.opens (i:=i) hc).note i
 unfold Wd.begin Wd.asked
 split
 ·exact h1.mono (by omega)
 ·refine h1.ask ?_
  unfold Wd.note
  split<;>exact hi
theorem stop_le(x:Int):stop x≤549755813888:=by unfold stop;split<;>omega
theorem stop_ge{x:Int}(h:0≤x):0≤stop x:=by unfold stop;split<;>omega
theorem WdB.goes{w:Wd}{C:Nat}(h:WdB w C){b:Int}{f:Nat→Int}(hb:0≤b)(hf:∀ i,i<w.n→0≤f i):WdB (w.goes b f) (C+1):=by
 have h':=h.mono (Nat.le_succ C)
 have hg:WdB (w.gone b f) (C+1):=by
  refine⟨h'.to0,h'.to1,h'.tv0,h'.tv1,h'.td0,h'.td1,stop_ge (by have:=h.c0;omega),stop_le _,fun j hj=>?_,by have:=h.s0;show 0≤w.step+1;omega,by have:=h.s1;show w.step+1≤_;omega,h'.ev,h'.net,h'.netl,h'.sv,h'.recs,h'.len,h'.left0,h'.left1⟩
  have q:=h'.st j hj
  exact⟨q.k,stop_ge (by have:=q.c0;have:=hf j hj;omega),stop_le _,q.l0,q.l1,q.a0,q.a1⟩
 unfold Wd.goes Wd.ticked
 split
 ·exact hg
 ·rename_i s hs
  obtain⟨k1,k2,k3,_⟩:=h.sv s hs
  have ht:=tick_terms s (w.gone b f).clock 8
  exact hg.answer ((SvB.tick k1 _ 8).1.mono (by omega)) (ht.1.trans k2) (ht.2.trans k3)
theorem mx0(x:Int):0≤mx x 0:=by unfold Lease.mx;split<;>omega
theorem WdB.failing{w:Wd}{C:Nat}(h:WdB w C){x:Int}(hx:x≤9223372036854775807)(torn:Int):WdB (w.failing x torn) C:=by
 have hm:mx x 0≤9223372036854775807:=by unfold Lease.mx;split<;>omega
 unfold Wd.failing
 split
 ·rename_i hs
  exact⟨h.to0,h.to1,h.tv0,h.tv1,h.td0,h.td1,h.c0,h.c1,h.st,h.s0,h.s1,h.ev,h.net,h.netl,fun v hv=>(by rw[show ({ w with fails:=true,left:=mx x 0 }:Wd).sv=w.sv from rfl,hs] at hv;cases hv),h.recs,h.len,mx0 x,hm⟩
 ·rename_i s hs
  obtain⟨k1,k2,k3,_⟩:=h.sv s hs
  exact h.served ⟨k1.ses0,k1.ses,k1.n,k1.vv0,k1.vv1,k1.len,k1.wok,k1.wlen,mx0 x,hm,k1.recs,k1.ep0,k1.ep1,k1.vdl⟩ k2 k3
theorem WdB.crash{w:Wd}{C:Nat}(h:WdB w C):WdB w.crash (C+1):=by
 have h':=h.stepped
 exact⟨h'.to0,h'.to1,h'.tv0,h'.tv1,h'.td0,h'.td1,h'.c0,h'.c1,h'.st,h'.s0,h'.s1,h'.ev,h'.net,h'.netl,fun v hv=>by simp[Wd.crash] at hv,h'.recs,h'.len,h'.left0,h'.left1⟩
theorem opened_bounds(L:Int)(hL:0≤L):∀ (l:List R) (s:Sv),(∀ r∈l,0≤r.v∧r.v≤L∧0≤r.e∧r.e≤L∧r.d.size≤20)→(∀ o,0≤s.vv o∧s.vv o≤L∧(s.vd o).size≤20)→0≤s.epoch→s.epoch≤L→(∀ o,0≤(l.foldl Sv.applied s).vv o∧(l.foldl Sv.applied s).vv o≤L∧((l.foldl Sv.applied s).vd o).size≤20)∧0≤(l.foldl Sv.applied s).epoch∧(l.foldl Sv.applied s).epoch≤L
 | [],s,_,h1,h2,h3=>⟨h1,h2,h3⟩
 | r :: l,s,hl,h1,h2,h3=>by
  rw[List.foldl_cons]
  have hr:=hl r (by simp)
  refine opened_bounds L hL l _ (fun x hx=>hl x (by simp[hx])) ?_ ?_ ?_
  ·intro o
   unfold Sv.applied
   have key:0≤updN s.vv r.o.toNat r.v o∧updN s.vv r.o.toNat r.v o≤L∧(updN s.vd r.o.toNat r.d o).size≤20:=by
    have:=h1 o
    unfold updN
    split
    ·exact⟨hr.1,hr.2.1,hr.2.2.2.2⟩
    ·exact this
   split
   ·exact h1 o
   ·split<;>exact key
  ·unfold Sv.applied
   split
   ·exact hr.2.2.1
   ·split<;>exact h2
  ·unfold Sv.applied
   split
   ·exact hr.2.2.2.1
   ·split<;>exact h3
theorem SvB.new{to' tv td:Int}{rs:List R}{now:Int}(hr:∀ r∈rs,0≤r.v∧r.v≤rs.length∧0≤r.e∧r.e≤rs.length∧r.d.size≤20)(hl:rs.length<200):SvB (Sv.new to' tv td rs false 0 now) 0∧(Sv.new to' tv td rs false 0 now).to=to'∧(Sv.new to' tv td rs false 0 now).tv=tv∧0≤(Sv.opened to' tv td rs false 0).epoch∧(Sv.opened to' tv td rs false 0).epoch≤1000:=by
 obtain⟨h1,h2,h3⟩:=opened_bounds rs.length (by omega) rs (Sv.zero to' tv td rs false 0) hr (fun o=>⟨by simp[Sv.zero],by simp[Sv.zero],by simp[Sv.zero];decide⟩) (by simp[Sv.zero]) (by simp[Sv.zero])
 obtain⟨a1,a2,a3,a4,a5,a6,a7,a8,a9,a10,a11,a12,a13,a14⟩:=applied_all rs (Sv.zero to' tv td rs false 0)
 obtain⟨so,hso⟩:∃ so,rs.foldl Sv.applied (Sv.zero to' tv td rs false 0)=so:=⟨_,rfl⟩
 have e:Sv.opened to' tv td rs false 0=so:=hso
 rw[hso] at h1 h2 h3 a1 a2 a3 a4 a5 a6 a7 a8 a9 a10 a11 a12 a13 a14
 unfold Sv.new
 rw[e]
 have k1:(so.readied now).down=false:=a4
 have k2:(so.readied now).rs=rs:=a14
 have k3:(so.readied now).fails=false:=a5
 have hz:(so.readied now).add (epochR (so.readied now).epoch)=({ so.readied now with rs:=rs++[epochR (so.readied now).epoch],left:=(so.readied now).left },0):=by
  unfold Sv.add
  rw[if_neg (by rw[k1];decide),if_neg (by rw[k2];omega),if_neg (by rw[k3];simp),k2]
  simp[k3]
 rw[hz]
 have hep:(so.readied now).epoch=so.epoch+1:=rfl
 refine⟨⟨fun c=>?_,fun c=>?_,?_,fun o=>(h1 o).1,fun o=>?_,?_,fun o m hm=>?_,fun o=>?_,?_,?_,fun r hr'=>?_,?_,?_,fun o=>(h1 o).2.2⟩,a1,a2,h2,by omega⟩
 ·show 0≤so.ses c
  rw[a12];simp[Sv.zero]
 ·show so.ses c≤_
  rw[a12];simp[Sv.zero]
 ·show so.n≤_
  rw[a13];simp[Sv.zero]
 ·have:=(h1 o).2.1
  show so.vv o≤((rs++[_]).length:Int)
  simp
  omega
 ·show (rs++[_]).length≤200
  simp
  omega
 ·have hm':m∈so.waits o:=hm
  rw[a7] at hm'
  simp[Sv.zero] at hm'
 ·show (so.waits o).length≤10
  rw[a7]
  simp[Sv.zero]
 ·show 0≤so.left
  rw[a6];simp[Sv.zero]
 ·show so.left≤_
  rw[a6];simp[Sv.zero]
 ·have hr'':r∈rs++[epochR (so.readied now).epoch]:=hr'
  show 0≤r.v∧r.v≤((rs++[_]).length:Int)∧0≤r.e∧r.e≤((rs++[_]).length:Int)∧r.d.size≤20
  rcases List.mem_append.1 hr'' with q|q
  ·have:=hr r q
   simp
   omega
  ·rw[List.mem_singleton.1 q]
   show (0:Int)≤0∧(0:Int)≤_∧0≤(so.readied now).epoch∧(so.readied now).epoch≤_∧(⟨#[]⟩:ByteArray).size≤20
   rw[hep]
   refine⟨by omega,by simp;omega,by omega,by simp;omega,by decide⟩
 ·show 0≤(so.readied now).epoch
  omega
 ·show (so.readied now).epoch≤201
  omega
theorem WdB.start{w:Wd}{C:Nat}(h:WdB w C)(hl:w.rs.length<200):WdB w.start C:=by
 obtain⟨h1,h2,h3,_⟩:=SvB.new (to':=w.to) (tv:=w.tv) (td:=w.td) (now:=w.clock) h.recs hl
 exact h.served (h1.mono (by omega)) h2 h3
theorem short_bounds{td t:Int}(h0:0≤td)(h1:td≤500)(t0:0≤t)(_t1:t≤274877906944):0≤short td t∧short td t≤t:=by
 unfold short
 constructor
 ·exact Int.ediv_nonneg (Int.mul_nonneg t0 (by omega)) (by omega)
 ·apply Int.ediv_le_of_le_mul (by omega)
  apply Int.mul_le_mul_of_nonneg_left (by omega) t0
theorem WdB.enter{w:Wd}{C:Nat}(h:WdB w C)(i:Nat){life:Int}(h0:0≤life)(h1:life≤C):WdB (w.enter i life) C:=by
 refine⟨h.to0,h.to1,h.tv0,h.tv1,h.td0,h.td1,h.c0,h.c1,fun j hj=>?_,h.s0,h.s1,h.ev,h.net,h.netl,h.sv,h.recs,h.len,h.left0,h.left1⟩
 show SB (updN w.seat i _ j) C w.events.length
 unfold updN
 split
 ·rename_i e
  subst e
  have q:=h.st j hj
  obtain⟨b1,b2⟩:=short_bounds h.td0 h.td1 h.to0 h.to1
  obtain⟨b3,b4⟩:=short_bounds h.td0 h.td1 h.tv0 h.tv1
  have:=h.to1
  have:=h.tv1
  exact⟨⟨by simp[K.new],by simp[K.new],by simp[K.new],by simp[K.new],by simp[K.new],by simp[K.new],by simp[K.new],b1,by simp[K.new];omega,b3,by simp[K.new];omega,by simp[K.new],by simp[K.new],by simp[K.new],by simp[K.new],fun x hx=>(by simp[K.new] at hx),by simp[K.new];decide⟩,q.c0,q.c1,h0,h1,by dsimp only;omega,by dsimp only;omega⟩
 ·exact h.st j hj
theorem WdB.reborn{w:Wd}{C:Nat}(h:WdB w C){i:Nat}(hi:i<w.n):WdB (w.reborn i) (C+1):=by
 have q:=h.st i hi
 exact h.stepped.enter i (by have:=q.l0;omega) (by have:=q.l1;omega)
end Wld
end
section
namespace Wld
open Go.RowKit Go.Maps
open Lease (upd hol dels mx kk objB I64)
open Wal (R mayB timeB)
open Num (M okB)
def Small(l:List M):Prop:=∀ m∈l,m.d.size≤20
theorem Small.nil:Small []:=fun m hm=>by simp at hm
theorem Small.one{m:M}(h:m.d.size≤20):Small [m]:=fun x hx=>by rw[List.mem_singleton.1 hx];exact h
theorem Small.app{a b:List M}(h:Small a)(k:Small b):Small (a++b):=fun m hm=>(List.mem_append.1 hm).elim (h m) (k m)
theorem adv_small(o:Nat)(now:Int):∀ (f:Nat) (s:Sv),Small (s.adv o now f).2
 | 0,s=>Small.nil
 | f+1,s=>by
  unfold Sv.adv
  split
  ·exact Small.nil
  ·split
   ·exact Small.nil
   ·split
    ·exact Small.nil
    ·split
     ·exact Small.nil
     ·intro x hx
      rcases List.mem_cons.1 hx with q|q
      ·rw[q]
       show (⟨#[]⟩:ByteArray).size≤20
       decide
      ·exact adv_small o now f _ x q
theorem remind_small(s:Sv)(seat now:Int):∀ k,Small (s.remindN seat now k).2
 | 0=>Small.nil
 | k+1=>by
  refine(remind_small s seat now k).app ?_
  split
  ·exact Small.one (by show (⟨#[]⟩:ByteArray).size≤20;decide)
  ·exact Small.nil
theorem hear_small{s:Sv}{B:Nat}(h:SvB s B)(m:M)(now:Int):Small (s.hear m now).2:=by
 have he:(⟨#[]⟩:ByteArray).size≤20:=by decide
 unfold Sv.hear
 split
 ·exact Small.nil
 ·split
  ·exact Small.one (h.vdl _)
  ·split
   ·unfold Sv.writeS
    split
    ·exact Small.one he
    ·split
     ·exact Small.nil
     ·split
      ·exact Small.nil
      ·refine Small.app (adv_small _ now _ _) fun x hx=>?_
       obtain⟨c,_,rfl⟩:=List.mem_map.1 hx
       exact he
   ·split
    ·unfold Sv.renewS
     split
     ·exact remind_small s _ now 8
     ·split<;>exact Small.one he
    ·split
     ·unfold Sv.release
      split
      ·exact adv_small _ now _ _
      ·exact Small.nil
     ·exact Small.nil
theorem tick_small(s:Sv)(now:Int):∀ k,Small (s.tickN now k).2
 | 0=>Small.nil
 | k+1=>(tick_small s now k).app (adv_small k now _ _)
theorem khear_small(k:K)(m:M):Small (k.hear m).2:=by
 unfold K.hear
 split
 ·exact Small.one (by show (⟨#[]⟩:ByteArray).size≤20;decide)
 ·split
  ·exact Small.nil
  ·split
   ·exact Small.nil
   ·split
    ·exact Small.nil
    ·split
     ·exact Small.nil
     ·split<;>exact Small.nil
theorem again_small{k:K}{C:Nat}(h:KB k C)(now:Int):Small (k.againL now):=by
 have he:(⟨#[]⟩:ByteArray).size≤20:=by decide
 unfold K.againL
 refine Small.app ?_ ?_
 ·split
  ·exact Small.one he
  ·exact Small.nil
 ·split
  ·refine Small.one ?_
   unfold K.request
   split
   ·exact h.dd
   ·exact he
  ·exact Small.nil
end Wld
end
section
namespace Num
theorem body_inj:∀ (ns ms x y:List Int),ns.length=ms.length→ns.all numB=true→ms.all numB=true→body ns++x=body ms++y→ns=ms∧x=y
 | [],[],x,y,_,_,_,h=>⟨rfl,h⟩
 | [],_ :: _,_,_,h,_,_,_=>by cases h
 | _ :: _,[],_,_,h,_,_,_=>by cases h
 | a :: ns,b :: ms,x,y,hl,h1,h2,h=>by
  simp only[List.all_cons,Bool.and_eq_true] at h1 h2
  have e1:body (a :: ns)=nb a.toNat++body ns:=by simp[body]
  have e2:body (b :: ms)=nb b.toNat++body ms:=by simp[body]
  rw[e1,e2,List.append_assoc,List.append_assoc] at h
  obtain⟨h3,h4⟩:=nb_inj _ _ _ _ h
  obtain⟨h5,h6⟩:=body_inj ns ms x y (by simpa using hl) h1.2 h2.2 h4
  have ha:=of_inB_true h1.1
  have hb:=of_inB_true h2.1
  exact⟨by rw[h5,show a=b by omega],h6⟩
theorem ints_inj{a b:ByteArray}(h:ints a=ints b):a=b:=by rw[← strOf_ints a,← strOf_ints b,h]
theorem bytes_cut{m n:M}{t:List Int}(hm:okB m=true)(hn:okB n=true)(h:m.bytes++t=n.bytes):m=n∧t = []:=by
 simp only[okB,Bool.and_eq_true] at hm hn
 rw[m.bytes_eq,n.bytes_eq,List.append_assoc] at h
 obtain⟨h1,h2⟩:=body_inj m.nums n.nums _ _ rfl hm.2 hn.2 h
 simp only[M.tail,List.cons_append,List.nil_append,List.cons.injEq] at h2
 obtain⟨h3,h4,h5⟩:=h2
 have h6:=congrArg List.length h5
 rw[List.length_append,ints_length,ints_length] at h6
 have h7:t = []:=List.eq_nil_of_length_eq_zero (by omega)
 subst h7
 rw[List.append_nil] at h5
 have h8:=ints_inj h5
 have h9:m.l=n.l:=by
  revert h3
  unfold leaseN
  cases m.l<;>cases n.l<;>decide
 refine⟨?_,rfl⟩
 obtain⟨a0,a1,a2,a3,a4,a5,a6,a7,a8⟩:=m
 obtain⟨b0,b1,b2,b3,b4,b5,b6,b7,b8⟩:=n
 simp only[M.nums,List.cons.injEq,and_true] at h1
 obtain⟨rfl,rfl,rfl,rfl,rfl,rfl,rfl⟩:=h1
 have h9':a7=b7:=h9
 have h8':a8=b8:=h8
 rw[h9',h8']
theorem bytes_inj{m n:M}(hm:okB m=true)(hn:okB n=true)(h:m.bytes=n.bytes):m=n:=(bytes_cut (t:=[]) hm hn (by rw[List.append_nil];exact h)).1
end Num
end
section
namespace Wire
open Go.RowKit
open Num (okB M)
theorem has_sees{w:World}{B:Nat}{v:Value}{l:List Int}(h:Has w B v l)(hl:0<l.length)(hb:∀ x∈l,0≤x∧x<256):∃ g cap,v = .slice (some ⟨g,0,none⟩) l.length cap∧l.length≤cap∧cap≤9223372036854775807∧Sees w w.heap.size v l:=by
 have hlt:=h.row.lt
 have hc:=@World.ownsRow.cells w B 5 1 v l.length (l.map (Value.int .u8)) h
 rcases h.2 with ⟨_,h0⟩|⟨g,cap,cur,rfl,_,_,hn,hm,_⟩
 ·omega
 ·have hm':cap≤9223372036854775807:=hm
  refine⟨g,cap,rfl,hn,hm',_,cap,rfl,hn,hm',hb,fun _=>⟨g,0,rfl,(hlt g rfl).2,fun j hj=>?_⟩⟩
  have h1:=hc (g:=g) rfl j (.int .u8 (l.getD j 0)) (by rw[List.getElem?_map,List.getElem?_eq_getElem hj,List.getD_eq_getElem?_getD,List.getElem?_eq_getElem hj];rfl)
  have e:(⟨g,0,none⟩:Addr).add j=⟨g,0+j,none⟩:=by unfold Addr.add;split<;>simp_all
  rw[e] at h1
  exact h1
theorem bytes_len{m:M}(h:okB m=true):m.bytes.length≤64∧0<m.bytes.length:=by
 simp only[okB,Bool.and_eq_true,decide_eq_true_eq] at h
 have h1:=(Num.body_small _ h.2).1
 have h2:m.nums.length=7:=rfl
 rw[Num.M.bytes_eq,List.length_append]
 simp only[Num.M.tail,List.cons_append,List.nil_append,List.length_cons,Num.ints_length]
 omega
theorem dec_back(m:M)(hok:okB m=true)(B:Nat)(v:Value)(w:World)(h:Sees w B v m.bytes)(hB:B≤w.heap.size) :
  Calls Tryz.prog 64 #[v] w fun e w'=>e = .returned (.tuple #[M.agg m,.nilIface])∧Below w.heap.size w w':=by
 have hl:=bytes_len hok
 refine(dec_any B v m.bytes w h (by omega) hB).mono ?_
 rintro e w' ⟨m2,er,rfl,hb,⟨rfl,h2,h3⟩|⟨_,_,h3⟩⟩
 ·rw[Num.bytes_inj hok h2 h3]
  exact⟨rfl,hb⟩
 ·exact absurd rfl (h3 m hok)
end Wire
end
section
namespace Wld
open Go.RowKit Go.Maps
open Lease (Ob I64 upd TabIs hol dels objB HasI map_block map_ne)
open Cache (tp row_kept row_below)
open Wal (R WalIs DiskIs Oq Fw rcells)
open Num (M okB strOf)
open Net (NetIs Only pcells)
theorem up_any(A:Wa)(s:Wd)(w:World)(h:WdIs w A s):Calls Tryz.prog 14 #[tp A.Q] w fun e w'=>e = .returned (.bool s.sv.isSome)∧w'=w:=by
 have c:=h.core.srv
 cases hs:s.sv with
 | none=>
  rw[hs] at c
  unfold svP at c
  go_enter Tryz.func14,Tryz.ntmps14
  go_wp2
  go_ret
  exact⟨rfl,rfl⟩
 | some v=>
  rw[hs] at c
  unfold svP at c
  go_enter Tryz.func14,Tryz.ntmps14
  go_wp2
  go_ret
  exact⟨rfl,rfl⟩
theorem hasW_any(A:Wa)(s:Wd)(k:Int)(w:World)(h:WdIs w A s):Calls Tryz.prog 61 #[tp A.Q,.int .i64 k] w fun e w'=>e = .returned (.bool (s.has k))∧w'=w:=by
 have c:=h.core.sts
 have n4:=h.n4
 unfold Wd.has
 by_cases h0:0≤k
 ·by_cases h1:k<(s.n:Int)
  ·rw[decide_eq_true ⟨h0,h1⟩]
   go_enter Tryz.func61,Tryz.ntmps61
   go_wp2
   go_ret
   exact⟨rfl,rfl⟩
  ·rw[decide_eq_false (fun q=>h1 q.2)]
   have g1:decide (k<(s.n:Int))=false:=decide_eq_false h1
   go_enter Tryz.func61,Tryz.ntmps61
   go_wp2
   go_ret
   exact⟨rfl,rfl⟩
 ·rw[decide_eq_false (fun q=>h0 q.1)]
  have g1:decide (0≤k)=false:=decide_eq_false h0
  go_enter Tryz.func61,Tryz.ntmps61
  go_wp2
  go_ret
  exact⟨rfl,rfl⟩
theorem manyW_any(A:Wa)(s:Wd)(w:World)(h:WdIs w A s):Calls Tryz.prog 17 #[tp A.Q] w fun e w'=>e = .returned (.int .i64 s.net.length)∧w'=w:=by
 have hm:=Net.many_any (A.Q+1) A.Q (s.net.map encN) w h.net
 rw[List.length_map] at hm
 go_enter Tryz.func17,Tryz.ntmps17
 go_wp2_with (go_at_call 43;refine hm.mono ?_;rintro e w' ⟨rfl,rfl⟩)
 go_ret
 exact⟨rfl,rfl⟩
structure Sd(w wr:World)(A:Wa)(s:Wd)(t:Int)(l:List M)(B:Nat)(v:Value)(k:Nat):Prop where
 wd:WdIs wr A (s.send t (l.take k))
 fz:Fz A s w A (s.send t (l.take k)) wr
 row:HasM wr B v l
theorem send_take(s:Wd)(t:Int)(l:List M)(k:Nat)(h:k<l.length):s.send t (l.take (k+1))=(s.send t (l.take k)).put t l[k]:=by
 unfold Wd.send
 rw[List.take_succ_eq_append_getElem h,List.foldl_append]
 rfl
theorem sendW_any(A:Wa)(s:Wd)(t:Int)(l:List M)(B:Nat)(v:Value)(w:World)(h:WdIs w A s)(hl:HasM w B v l)(hll:l.length≤200)(hsm:Small l) :
  Calls Tryz.prog 124 #[tp A.Q,.int .i64 t,v] w fun e w'=>e = .returned (.tuple #[])∧WdIs w' A (s.send t l)∧Fz A s w A (s.send t l) w':=by
 obtain⟨av,cv,hav,hcv,hcn⟩:=Net.row_shape hl
 subst hav
 have HS0:Hid (Sd w w A s t l B (.slice av l.length cv) 0):=⟨h,Fz.refl _ _ _,hl⟩
 clear h hl hcv
 go_enter Tryz.func124,Tryz.ntmps124
 go_wp2_with fail
 go_loopw [12] (fun i wr=>∃ k:Nat,k≤l.length∧i = .int .i64 k∧Sd w wr A s t l B (.slice av l.length cv) k) (fun i _=>l.length-(intOf i).toNat)
 case atStart=>exact⟨0,by omega,rfl,HS0.out⟩
 case round=>
  obtain⟨k,hk,rfl,D⟩:=hrel
  by_cases hlt:k<l.length
  ·obtain⟨ao,c,hao,hg⟩:=D.row.at
   obtain⟨g,hge,hgB,hgs,hcell⟩:=hg (by omega)
   injection hao with hao _ hcc
   subst hao
   subst hcc
   subst hge
   have HT:Hid (s.send t (l.take (k+1))=(s.send t (l.take k)).put t l[k]):=send_take s t l k hlt
   have hsz:=hsm l[k] (List.getElem_mem hlt)
   have q0:=hcell k 0 hlt (by omega)
   have q1:=hcell k 1 hlt (by omega)
   have q2:=hcell k 2 hlt (by omega)
   have q3:=hcell k 3 hlt (by omega)
   have q4:=hcell k 4 hlt (by omega)
   have q5:=hcell k 5 hlt (by omega)
   have q6:=hcell k 6 hlt (by omega)
   have q7:=hcell k 7 hlt (by omega)
   have q8:=hcell k 8 hlt (by omega)
   obtain⟨m,hm⟩:∃ m,l[k]=m:=⟨_,rfl⟩
   rw[hm] at q0 q1 q2 q3 q4 q5 q6 q7 q8 hsz HT
   have q0':wr.cell? ⟨g,k*9,none⟩=some (.int .i64 m.k):=q0
   simp only[mcell,List.getElem?_cons_succ,List.getElem?_cons_zero] at q1 q2 q3 q4 q5 q6 q7 q8
   have hkI:(k:Int)<(l.length:Int):=by omega
   have hkI0:(0:Int)≤(k:Int):=by omega
   have HD:Hid (Sd w wr A s t l B (.slice (some ⟨g,0,none⟩) l.length cv) k):=D
   clear D hg hcell hm q0
   have hput:Hid ((s.send t (l.take k)).put t m=if okB m=true∧(s.send t (l.take k)).net.length<200 then { s.send t (l.take k) with net:=(s.send t (l.take k)).net++[(t,m)] } else s.send t (l.take k)):=rfl
   cases hok:okB m with
   | false=>
    have henc:=fun w=>Wire.enc_bad m w (by omega) hok
    unfold Wire.M.agg at henc
    have HP:Hid (s.send t (l.take (k+1))=s.send t (l.take k)):=by
     unfold Hid
     rw[HT.out,hput.out,hok,if_neg (by simp)]
    go_wp2_with fail
    generalize hW:wr.alloc (.cells #[.int .i64 m.k,.int .i64 m.c,.int .i64 m.n,.int .i64 m.e,.int .i64 m.s,.int .i64 m.o,.int .i64 m.v,.bool m.l,.string m.d] 129)=w2
    have hb2:Below wr.heap.size wr w2:=by rw[← hW];exact(Below.refl _ _).alloc (Nat.le_refl _) _
    clear hW
    refine(henc w2).mono ?_
    rintro e w3 ⟨rfl,hb3⟩
    have hb23:Below wr.heap.size wr w3:=hb2.trans (hb3.mono hb2.size)
    have HS3:Hid (Sd w w3 A s t l B (.slice (some ⟨g,0,none⟩) l.length cv) (k+1)):=by
     obtain⟨x1,x2⟩:=HD.out.wd.below hb23
     refine⟨by rw[HP.out];exact x1,by rw[HP.out];exact HD.out.fz.trans x2,HD.out.row.below hb23⟩
    clear henc HD hb2 hb3 hb23 q0' q1 q2 q3 q4 q5 q6 q7 q8
    go_wp2_with fail
    go_roundw
    case rel=>exact⟨k+1,by omega,by go_num,HS3.out⟩
    case measure=>simp[intOf];omega
   | true=>
    have henc:=fun w=>Wire.enc_ok m w (by omega) hok
    unfold Wire.M.agg at henc
    have HOK:Hid (okB m=true):=hok
    clear hok
    go_wp2_with fail
    generalize hW:wr.alloc (.cells #[.int .i64 m.k,.int .i64 m.c,.int .i64 m.n,.int .i64 m.e,.int .i64 m.s,.int .i64 m.o,.int .i64 m.v,.bool m.l,.string m.d] 129)=w2
    have hb2:Below wr.heap.size wr w2:=by rw[← hW];exact(Below.refl _ _).alloc (Nat.le_refl _) _
    clear hW
    refine(henc w2).mono ?_
    rintro e w3 ⟨vb,rfl,hH3,hb3⟩
    have hb23:Below wr.heap.size wr w3:=hb2.trans (hb3.mono hb2.size)
    obtain⟨x1,x2⟩:=HD.out.wd.below hb23
    have hr3:=HD.out.row.below hb23
    have hlen:=Wire.bytes_len HOK.out
    obtain⟨gb,cb,rfl,_,_,hsees⟩:=Wire.has_sees hH3 (by omega) (Num.bytes_byte HOK.out)
    have hsd:=Net.send_any (A.Q+1) A.Q w3.heap.size _ t (.slice (some ⟨gb,0,none⟩) m.bytes.length cb) m.bytes w3 x1.net hsees (Nat.le_refl _)
    have HX:Hid (WdIs w3 A (s.send t (l.take k))∧Fz A s w A (s.send t (l.take k)) w3∧HasM w3 B (.slice (some ⟨g,0,none⟩) l.length cv) l):=⟨x1,HD.out.fz.trans x2,hr3⟩
    clear henc HD hb2 hb3 hb23 q0' q1 q2 q3 q4 q5 q6 q7 q8 x1 x2 hr3 hH3 hsees
    go_wp2_with fail
    refine hsd.mono ?_
    rintro e w4 ⟨rfl,hN4,hO4⟩
    have HS4:Hid (Sd w w4 A s t l B (.slice (some ⟨g,0,none⟩) l.length cv) (k+1)):=by
     obtain⟨y1,y2,y3⟩:=HX.out
     have hmap:Net.put ((s.send t (l.take k)).net.map encN) (t,strOf m.bytes)=((s.send t (l.take k)).put t m).net.map encN:=by
      rw[hput.out]
      unfold Net.put
      rw[List.length_map]
      by_cases hq:(s.send t (l.take k)).net.length<200
      ·rw[if_pos hq,if_pos ⟨HOK.out,hq⟩,List.map_append]
       rfl
      ·rw[if_neg hq,if_neg (fun q=>hq q.2)]
     rw[hmap] at hN4
     obtain⟨z1,z2⟩:=y1.netted hN4 hO4
     have heq:({ s.send t (l.take k) with net:=((s.send t (l.take k)).put t m).net }:Wd)=(s.send t (l.take k)).put t m:=by
      rw[hput.out]
      split<;>rfl
     rw[heq] at z1 z2
     refine⟨by rw[HT.out];exact z1,by rw[HT.out];exact y2.trans z2,row_kept y3 fun q hq=>?_⟩
     obtain⟨_,hqt⟩:=row_isC y3 hq
     exact hO4.block q hqt.lt (hqt.ne y1.core.typ (by decide)) (.inr fun c f e=>hqt.ne ⟨c,f,e⟩ (by decide) rfl)
    clear hsd hN4 hO4 HX
    go_wp2_with fail
    go_roundw
    case rel=>exact⟨k+1,by omega,by go_num,HS4.out⟩
    case measure=>simp[intOf];omega
  ·obtain rfl:k=l.length:=by omega
   have HD:Hid (Sd w wr A s t l B (.slice av l.length cv) l.length):=D
   clear D
   go_wp2_with fail
   go_end0
   have:=HD.out.wd
   have h2:=HD.out.fz
   rw[List.take_length] at this h2
   exact⟨rfl,this,h2⟩
end Wld
end
section
namespace Gen
open Go
section
variable {P:Program} {ops:Array Oper} {Q:Exit→Act→World→Prop} {md:Region.Mode} {S:World→Prop}
theorem two{i j:Nat}{o o':Oper}{d d':Option Tmp}{op op':Op}{ty ty':TypeId}{ps ps':String}{af af':Array Edge}{fuel:Nat}{listed:Array Bool}{a:Act}{w:World}(hr:Region.ready md ops listed = [i,j])(ho:ops[i]?=some o)(hoe:o=⟨d,op,ty,ps,af,none⟩)(ho':ops[j]?=some o')(hoe':o'=⟨d',op',ty',ps',af',none⟩)
  (h:∀ K:Act→World→Prop,Shut (∀ a w,S w→(S w→anyM P md ops Q S fuel (listed.setIfInBounds i true) a w)→K a w)→Oper.wp P ⟨d,op,ty,ps,af,none⟩ a w K Q)
  (h':∀ K:Act→World→Prop,Shut (∀ a w,S w→(S w→anyM P md ops Q S fuel (listed.setIfInBounds j true) a w)→K a w)→Oper.wp P ⟨d',op',ty',ps',af',none⟩ a w K Q):anyM P md ops Q S (fuel+1) listed a w:=by
 subst hoe hoe'
 refine⟨fun h0=>(by rw[hr] at h0;cases h0),fun k hk=>?_⟩
 rw[hr] at hk
 rcases List.mem_cons.1 hk with rfl|hk
 ·unfold wpOp
  simp only[ho,Region.wanted,if_true]
  exact .inl (h _ (fun a w hS hW=>⟨fun _=>hS,hW hS⟩))
 ·obtain rfl:=List.mem_singleton.1 hk
  unfold wpOp
  simp only[ho',Region.wanted,if_true]
  exact .inl (h' _ (fun a w hS hW=>⟨fun _=>hS,hW hS⟩))
end
end Gen
end
end Go.Proofs.YtbebfliimjjohabGreatDoor
