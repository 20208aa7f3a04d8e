/- Parts of the proof. -/
import Derived.Test.YtbebfliimjjohabGreatDoorLd26
import Derived.Deep.LoopGhost
import Derived.Maps.RangeWalk
set_option maxRecDepth 100000
set_option maxHeartbeats 8000000
namespace Go.Proofs.YtbebfliimjjohabGreatDoor
section
namespace Wld
open Go.RowKit Go.Maps
open Lease (upd hol dels mx kk objB I64)
open Wal (R mayB timeB)
open Num (M okB)
def wt(m:M):Nat:=if m.k=3 then 17 else if m.k=2 then 12 else if m.k=1∨m.k=9 then 2 else 1
theorem wt_pos(m:M):1≤wt m:=by unfold wt;split<;>(try split)<;>(try split)<;>omega
theorem wt_le(m:M):wt m≤17:=by unfold wt;split<;>(try split)<;>(try split)<;>omega
def wts(l:List M):Nat:=(l.map wt).sum
theorem wts_nil:wts []=0:=rfl
theorem wts_cons(m:M)(l:List M):wts (m :: l)=wt m+wts l:=by simp[wts]
theorem wts_app(a b:List M):wts (a++b)=wts a+wts b:=by simp[wts]
def wnet(l:List (Int×M)):Nat:=wts (l.map (·.2))
theorem wnet_app(a b:List (Int×M)):wnet (a++b)=wnet a+wnet b:=by simp[wnet,wts_app]
def total(f:Nat→List M):Nat:=(f 0).length+(f 1).length+(f 2).length+(f 3).length+(f 4).length+(f 5).length+(f 6).length+(f 7).length
theorem total_upd(f:Nat→List M)(o:Nat)(ho:o<8)(l:List M):total (updN f o l)+(f o).length=total f+l.length:=by
 unfold total updN
 match o,ho with
 | 0,_=>simp;omega
 | 1,_=>simp;omega
 | 2,_=>simp;omega
 | 3,_=>simp;omega
 | 4,_=>simp;omega
 | 5,_=>simp;omega
 | 6,_=>simp;omega
 | 7,_=>simp;omega
def Wd.mu(w:Wd):Nat:=wnet w.net+2*(match w.sv with
 | none=>0
 | some v=>total v.waits)
theorem adv_other(o:Nat)(now:Int):∀ (f:Nat) (s:Sv) (x:Nat),x≠o→(s.adv o now f).1.waits x=s.waits x
 | 0,s,x,_=>rfl
 | f+1,s,x,hx=>by
  unfold Sv.adv
  obtain⟨e1,_⟩:=awaited_waits s o now
  split
  ·rfl
  ·split
   ·rw[e1]
   ·split
    ·rw[e1]
    ·rename_i m rest _
     obtain⟨k1,_⟩:=commit_keep (s.awaited o now).1 m o
     split
     ·rw[k1,e1]
     ·rw[adv_other o now f _ x hx]
      show updN _ o rest x=_
      rw[updN_other _ _ hx,k1,e1]
theorem adv_wts(o:Nat)(now:Int):∀ (f:Nat) (s:Sv),wts (s.adv o now f).2=(s.adv o now f).2.length
 | 0,s=>rfl
 | f+1,s=>by
  unfold Sv.adv
  split
  ·rfl
  ·split
   ·rfl
   ·split
    ·rfl
    ·split
     ·rfl
     ·dsimp only
      rw[wts_cons,adv_wts o now f,List.length_cons]
      show wt _+_=_
      rw[show wt (Sv.doneM _ _ _)=1 from rfl]
      omega
theorem advance_mu{s:Sv}{B:Nat}(h:SvB s B){o:Nat}(ho:o<8)(now:Int):wts (s.advance o now).2+2*total (s.advance o now).1.waits≤2*total s.waits:=by
 have h1:=adv_wts o now ((s.waits o).length+1) s
 have h2:=(SvB.adv o now ((s.waits o).length+1) h).2
 have e:(s.advance o now).1.waits=updN s.waits o ((s.advance o now).1.waits o):=by
  funext x
  unfold updN
  split
  ·rename_i q;rw[q]
  ·rename_i q;exact adv_other o now _ s x q
 have h3:=total_upd s.waits o ho ((s.advance o now).1.waits o)
 rw[← e] at h3
 unfold Sv.advance at *
 omega
theorem remind_wts(s:Sv)(seat now:Int):∀ k,wts (s.remindN seat now k).2≤2*k∧(s.remindN seat now k).1.waits=s.waits
 | 0=>⟨by simp[Sv.remindN,wts_nil],rfl⟩
 | k+1=>by
  obtain⟨h1,h2⟩:=remind_wts s seat now k
  refine⟨?_,?_⟩
  ·show wts ((s.remindN seat now k).2++_)≤_
   rw[wts_app]
   split
   ·rw[wts_cons,wts_nil]
    show wts _+(2+0)≤_
    omega
   ·rw[wts_nil]
    omega
  ·show ((s.remindN seat now k).1.awaited k now).1.waits=_
   rw[(awaited_waits _ k now).1,h2]
theorem hear_mu{s:Sv}{B:Nat}(h:SvB s B){m:M}(hm:okM m)(now:Int):wts (s.hear m now).2+2*total (s.hear m now).1.waits+1≤wt m+2*total s.waits:=by
 have hp:=wt_pos m
 unfold Sv.hear
 split
 ·rw[wts_nil];dsimp only;omega
 ·rename_i hn
  have ho:m.o.toNat<8:=by omega
  split
  ·rename_i hk
   have hw:wt m=2:=by unfold wt;rw[hk];rfl
   unfold Sv.readS Sv.lent
   dsimp only
   rw[wts_cons,wts_nil,hw]
   show (1:Nat)+0+_+1≤_
   split<;>(try dsimp only)<;>omega
  ·split
   ·rename_i hk
    have hw:wt m=12:=by unfold wt;rw[hk];rfl
    rw[hw]
    unfold Sv.writeS
    split
    ·rw[wts_cons,wts_nil]
     show (1:Nat)+0+_+1≤_
     dsimp only
     omega
    ·split
     ·rw[wts_nil];dsimp only;omega
     ·have hq:=h.enq (m:=m) (o:=m.o.toNat) ⟨by omega,hm⟩
      have he:total (s.enq m m.o.toNat).1.waits≤total s.waits+1:=by
       unfold Sv.enq
       split
       ·dsimp only;omega
       ·split
        ·dsimp only;omega
        ·have:=total_upd s.waits m.o.toNat ho (s.waits m.o.toNat++[m])
         simp at this
         show total (updN s.waits m.o.toNat (s.waits m.o.toNat++[m]))≤_
         omega
      split
      ·rw[wts_nil]
       dsimp only
       omega
      ·have h1:=advance_mu hq ho now
       have h2:=(hq.advance m.o.toNat now).1
       have h3:=(h2.awaited m.o.toNat now).2
       have h4:=(awaited_waits ((s.enq m m.o.toNat).1.advance m.o.toNat now).1 m.o.toNat now).1
       unfold Sv.wrote
       dsimp only
       rw[wts_app,h4]
       have h5:∀ (l:List Int) (x:Sv),wts (l.map fun c=>x.invalM c m.o.toNat)=2*l.length:=by
        intro l x
        induction l with
        | nil=>rfl
        | cons c l ih=>
         rw[List.map_cons,wts_cons,ih,List.length_cons]
         show 2+_=_
         omega
       rw[h5]
       omega
   ·split
    ·rename_i hk
     have hw:wt m=17:=by unfold wt;rw[hk];rfl
     obtain⟨h1,h2⟩:=remind_wts s (seatN m.c:Nat) now 8
     unfold Sv.renewS
     split
     ·rw[h2,hw]
      omega
     ·split
      ·rw[wts_cons,wts_nil,hw]
       show (1:Nat)+0+_+1≤_
       rw[h2]
       omega
      ·rw[wts_cons,wts_nil,hw]
       show (1:Nat)+0+2*total (s.remindN (seatN m.c:Nat) now 8).1.waits+1≤_
       rw[h2]
       omega
    ·split
     ·unfold Sv.release
      split
      ·have:=advance_mu (h.dropped (seatN m.c) m.o.toNat) ho now
       show _+_+1≤_+2*total s.waits
       have e:(s.dropped (seatN m.c) m.o.toNat).waits=s.waits:=rfl
       rw[e] at this
       omega
      ·rw[wts_nil];dsimp only;omega
     ·rw[wts_nil];dsimp only;omega
theorem put_net(w:Wd)(t:Int)(m:M):wnet (w.put t m).net≤wnet w.net+wt m∧(w.put t m).sv=w.sv:=by
 unfold Wd.put
 split
 ·refine⟨?_,rfl⟩
  show wnet (w.net++[(t,m)])≤_
  rw[wnet_app]
  simp[wnet,wts]
 ·exact⟨by omega,rfl⟩
theorem send_net(t:Int):∀ (l:List M) (w:Wd),wnet (w.send t l).net≤wnet w.net+wts l∧(w.send t l).sv=w.sv
 | [],w=>⟨by rw[wts_nil];exact Nat.le_refl _,rfl⟩
 | m :: l,w=>by
  obtain⟨h1,h2⟩:=put_net w t m
  obtain⟨h3,h4⟩:=send_net t l (w.put t m)
  rw[wts_cons]
  exact⟨by show wnet ((w.put t m).send t l).net≤_;omega,h4.trans h2⟩
theorem tells_net:∀ (l:List M) (w:Wd),wnet (w.tells l).net≤wnet w.net+wts l∧(w.tells l).sv=w.sv
 | [],w=>⟨by rw[wts_nil];exact Nat.le_refl _,rfl⟩
 | m :: l,w=>by
  obtain⟨h1,h2⟩:=put_net w (seatN m.c:Nat) m
  obtain⟨h3,h4⟩:=tells_net l (w.put (seatN m.c:Nat) m)
  rw[wts_cons]
  exact⟨by show wnet ((w.put (seatN m.c:Nat) m).tells l).net≤_;omega,h4.trans h2⟩
theorem answer_mu(w:Wd)(r:Sv×List M):(w.answer r).mu≤wnet w.net+wts r.2+2*total r.1.waits:=by
 obtain⟨h1,h2⟩:=tells_net r.2 (w.served r.1)
 have e:(w.served r.1).net=w.net:=rfl
 rw[e] at h1
 have e2:((w.served r.1).tells r.2).sv=some r.1:=h2
 unfold Wd.answer Wd.fallen
 rw[e2]
 dsimp only
 split
 ·unfold Wd.mu
  dsimp only
  omega
 ·unfold Wd.mu
  rw[e2]
  dsimp only
  omega
theorem erase_net:∀ (l:List (Int×M)) (k:Nat) (h:k<l.length),wnet (l.eraseIdx k)+wt l[k].2=wnet l
 | p :: l,0,_=>by
  show wnet l+wt p.2=wts (p.2 :: l.map (·.2))
  rw[wts_cons]
  show wnet l+_=_+wnet l
  omega
 | p :: l,k+1,h=>by
  have hk:k<l.length:=by simpa using h
  have ih:=erase_net l k hk
  show wts (p.2 :: (l.eraseIdx k).map (·.2))+wt l[k].2=wts (p.2 :: l.map (·.2))
  rw[wts_cons,wts_cons]
  show wt p.2+wnet (l.eraseIdx k)+_=_+wnet l
  omega
theorem khear_wts(k:K)(m:M):wts (k.hear m).2+1≤wt m:=by
 have hp:=wt_pos m
 unfold K.hear
 split
 ·rename_i h
  have hw:wt m=2:=by unfold wt;rw[h];rfl
  rw[wts_cons,wts_nil,hw]
  show 1+0+1≤2
  omega
 ·split
  ·rw[wts_nil];omega
  ·split
   ·rw[wts_nil];omega
   ·split
    ·rw[wts_nil];omega
    ·split
     ·rw[wts_nil];omega
     ·split<;>(rw[wts_nil];omega)
theorem note_mu(w:Wd)(k:Nat):(w.note k).mu=w.mu:=by
 unfold Wd.note
 split<;>rfl
theorem deliver_mu{w:Wd}{C:Nat}(h:WdB w C){k:Nat}(hk:k<w.net.length):(w.deliver k).mu<w.mu:=by
 have he:=erase_net w.net k hk
 have hm:=h.net _ (List.getElem_mem hk)
 have hp:=wt_pos w.net[k].2
 unfold Wd.deliver
 rw[List.getElem?_eq_getElem hk]
 dsimp only
 unfold Wd.told
 split
 ·unfold Wd.toldServer
  split
  ·rename_i hs
   have hs':w.sv=none:=hs
   unfold Wd.mu
   rw[hs']
   dsimp only
   omega
  ·rename_i v hs
   have hs':w.sv=some v:=hs
   have h1:=answer_mu { w with net:=w.net.eraseIdx k,step:=w.step+1 } (v.hear w.net[k].2 w.clock)
   have h2:=hear_mu (h.sv v hs').1 (okB_m hm).1 w.clock
   have e:w.mu=wnet w.net+2*total v.waits:=by unfold Wd.mu;rw[hs']
   have e3:({ w with net:=w.net.eraseIdx k,step:=w.step+1 }:Wd).net=w.net.eraseIdx k:=rfl
   rw[e3] at h1
   show (Wd.answer _ (v.hear w.net[k].2 w.clock)).mu<_
   omega
 ·split
  ·unfold Wd.toldClient
   rw[note_mu]
   have h1:=send_net (-1) ((w.seat w.net[k].1.toNat).k.hear w.net[k].2).2 (({ w with net:=w.net.eraseIdx k,step:=w.step+1 }:Wd).setK w.net[k].1.toNat ((w.seat w.net[k].1.toNat).k.hear w.net[k].2).1)
   have h2:=khear_wts (w.seat w.net[k].1.toNat).k w.net[k].2
   obtain⟨h3,h4⟩:=h1
   have e3:(({ w with net:=w.net.eraseIdx k,step:=w.step+1 }:Wd).setK w.net[k].1.toNat ((w.seat w.net[k].1.toNat).k.hear w.net[k].2).1).net=w.net.eraseIdx k:=rfl
   have e4:(({ w with net:=w.net.eraseIdx k,step:=w.step+1 }:Wd).setK w.net[k].1.toNat ((w.seat w.net[k].1.toNat).k.hear w.net[k].2).1).sv=w.sv:=rfl
   rw[e3] at h3
   rw[e4] at h4
   show Wd.mu (Wd.send _ _ _)<_
   unfold Wd.mu
   rw[h4]
   show wnet (Wd.send (({ w with net:=w.net.eraseIdx k,step:=w.step+1 }:Wd).setK w.net[k].1.toNat ((w.seat w.net[k].1.toNat).k.hear w.net[k].2).1) (-1) ((w.seat w.net[k].1.toNat).k.hear w.net[k].2).2).net+_<_
   omega
  ·have e:∀ x:Nat,wnet (w.net.eraseIdx k)+x<wnet w.net+x:=fun x=>by omega
   exact e _
theorem wnet_le:∀ (l:List (Int×M)),wnet l≤17*l.length
 | []=>by simp[wnet,wts]
 | p :: l=>by
  have h1:=wt_le p.2
  have h2:=wnet_le l
  show wts (p.2 :: l.map (·.2))≤_
  rw[wts_cons,List.length_cons]
  show wt p.2+wnet l≤_
  omega
theorem WdB.mu_le{w:Wd}{C:Nat}(h:WdB w C):w.mu≤3560:=by
 have h1:=wnet_le w.net
 have h2:=h.netl
 unfold Wd.mu
 split
 ·omega
 ·rename_i v hv
  have q:=(h.sv v hv).1.wlen
  have:=q 0
  have:=q 1
  have:=q 2
  have:=q 3
  have:=q 4
  have:=q 5
  have:=q 6
  have:=q 7
  unfold total
  omega
def Wd.drained(w:Wd):Wd:=w.drain w.mu
theorem drain_empty(w:Wd)(h:w.net.length=0):∀ f,w.drain f=w
 | 0=>rfl
 | _+1=>if_pos h
theorem drain_step(w:Wd)(h:w.net.length≠0)(f:Nat):w.drain (f+1)=(w.deliver 0).drain f:=if_neg h
theorem WdB.drain:∀ (f:Nat) {w:Wd} {C:Nat},WdB w C→WdB (w.drain f) (C+f)
 | 0,_,_,h=>h
 | f+1,w,C,h=>by
  unfold Wd.drain
  split
  ·exact h.mono (by omega)
  ·exact(WdB.drain f (h.deliver 0)).mono (by omega)
theorem WdB.drained{w:Wd}{C:Nat}(h:WdB w C):WdB w.drained (C+3560):=(WdB.drain w.mu h).mono (by have:=h.mu_le;omega)
end Wld
end
section
namespace Wld
open Go.RowKit Go.Maps
open Cache (tp row_kept row_below)
open Num (M okB)
structure Da(w wr:World)(A:Wa)(s:Wd)(C:Nat)(g:Nat)(t:Wd):Prop where
 wd:WdIs wr A t
 fz:Fz A s w A t wr
 b:WdB t (C+(s.mu-g))
 mu:t.mu≤g
 le:g≤s.mu
 eq:s.drained=t.drain g
theorem deliverAll_any(A:Wa)(s:Wd)(C:Nat)(w:World)(h:WdIs w A s)(hB:WdB s C)(hC:C≤900000000) :
  Calls Tryz.prog 36 #[tp A.Q] w fun e w'=>e = .returned (.tuple #[])∧WdIs w' A s.drained∧Fz A s w A s.drained w':=by
 have hmu:=hB.mu_le
 have HD0:Hid (Da w w A s C s.mu s):=⟨h,Fz.refl _ _ _,hB.mono (by omega),Nat.le_refl _,Nat.le_refl _,rfl⟩
 clear h
 go_enter Tryz.func36,Tryz.ntmps36
 go_wp2_with fail
 go_loopg [] s.mu (fun g wr=>∃ t,Da w wr A s C g t)
 case atStart=>exact⟨s,HD0.out⟩
 case round=>
  obtain⟨t,D⟩:=hrel
  have hmn:=manyW_any A t wr D.wd
  have hnl:=D.b.netl
  by_cases hz:t.net.length=0
  ·rw[hz] at hmn
   have HF:Hid (WdIs wr A s.drained∧Fz A s w A s.drained wr):=by
    rw[D.eq,drain_empty t hz]
    exact⟨D.wd,D.fz⟩
   clear D
   go_wp2_with fail
   refine hmn.mono ?_
   rintro e w2 ⟨rfl,rfl⟩
   go_wp2_with fail
   go_end0
   exact⟨rfl,HF.out⟩
  ·obtain⟨n,hn⟩:∃ n,t.net.length=n+1:=⟨t.net.length-1,by omega⟩
   rw[hn] at hmn
   have hgt:decide ((0:Int)<((n+1:Nat):Int))=true:=decide_eq_true (by omega)
   have hde:=deliver_any A t 0 _ wr D.wd (by omega) D.b (by have:=D.le;omega)
   have hlt:=deliver_mu D.b (k:=0) (by omega)
   have hmu2:=D.mu
   have hle:=D.le
   have HD:Hid (∀ w3,WdIs w3 A (t.deliver 0)→Fz A t wr A (t.deliver 0) w3→Da w w3 A s C (gk-1) (t.deliver 0)):=fun w3 h1 h2=>by
    refine⟨h1,D.fz.trans h2,(D.b.deliver 0).mono (by omega),by omega,by omega,?_⟩
    rw[D.eq]
    obtain⟨f,hf⟩:∃ f,gk=f+1:=⟨gk-1,by omega⟩
    rw[hf,drain_step t hz]
    rfl
   have hg0:0<gk:=by omega
   clear D hlt hmu2
   go_wp2_with fail
   refine hmn.mono ?_
   rintro e w2 ⟨rfl,rfl⟩
   go_wp2_with fail
   refine hde.mono ?_
   rintro e w3 ⟨rfl,q1,q2⟩
   have HN:=HD.out w3 q1 q2
   clear hde hmn q1 q2 HD
   go_wp2_with fail
   go_roundg (gk-1)
   case measure=>omega
   case rel=>exact⟨_,HN⟩
end Wld
end
section
namespace Wld
open Go.RowKit Go.Maps
open Lease (Ob I64 upd TabIs hol dels objB HasI map_block map_ne mx)
open Cache (tp row_kept row_below)
open Wal (R WalIs DiskIs Oq Fw rcells)
open Num (M okB strOf ints)
open Net (NetIs Only pcells)
theorem crash_any(A:Wa)(s:Wd)(C:Nat)(w:World)(h:WdIs w A s)(hB:WdB s C)(hC:C≤10000000000) :
  Calls Tryz.prog 30 #[tp A.Q] w fun e w'=>e = .returned (.tuple #[])∧WdIs w' A s.crash∧Fz A s w A s.crash w':=by
 have stp:=h.core.stp
 have fst:=h.core.free 12411
 have hwr:IntKind.i64.wrap (s.step+1)=s.step+1:=wrapI (by have:=hB.s0;omega) (by have:=hB.s1;omega)
 obtain⟨x1,x2⟩:=h.setStep (s.step+1)
 have srv:=x1.core.srv
 have fsr:=x1.core.free 12407
 obtain⟨y1,y2⟩:=x1.setDown
 have HF:Hid (WdIs ((w.setCell ⟨A.Q,12411,none⟩ (.int .i64 (s.step+1))).setCell ⟨A.Q,12407,none⟩ (.pointer none)) A s.crash∧Fz A s w A s.crash ((w.setCell ⟨A.Q,12411,none⟩ (.int .i64 (s.step+1))).setCell ⟨A.Q,12407,none⟩ (.pointer none))):=⟨y1,x2.trans y2⟩
 clear x1 x2 y1 y2 h hB
 go_enter Tryz.func30,Tryz.ntmps30
 go_upto_region 1 with fail
 generalize w.setCell ⟨A.Q,12411,none⟩ (.int .i64 (s.step+1))=w2 at *
 go_wp2_with fail
 go_end0
 exact⟨rfl,HF.out⟩
theorem WdIs.cut{w w':World}{A:Wa}{s:Wd}(h:WdIs w A s){f:Bool}{l:Int}(hD:DiskIs w' A.Q s.rs f l)(hO:Oq A.Q w w') :
  (s.sv=none→WdIs w' A { s with fails:=f,left:=l }∧Fz A s w A { s with fails:=f,left:=l } w')∧(∀ v,s.sv=some v→WdIs w' A (s.served { v with fails:=f,left:=l })∧Fz A s w A (s.served { v with fails:=f,left:=l }) w'):=by
 have hlt:=h.lt
 obtain⟨kd0,kd1,kd2⟩:=h.kinds
 have hb:∀ k,k<w.heap.size→k≠A.Q→w'.heap[k]?=w.heap[k]?:=fun k hk hq=>hO.block k hk hq
 have eQ:∀ i,(i<3∨12405≤i)→w'.cell? ⟨A.Q,i,none⟩=w.cell? ⟨A.Q,i,none⟩:=fun i hi=>hO.cell i hlt hi
 have fQ:∀ i,w'.frozen? ⟨A.Q,i,none⟩=w.frozen? ⟨A.Q,i,none⟩:=fun i=>hO.fro i hlt
 have hG:=hb A.G h.gt.lt (Ne.symm kd0)
 have hN:NetIs w' (A.Q+1) A.Q (s.net.map encN):=NetIs.kept h.net hO.size (eQ _ (by omega)) (eQ _ (by omega)) fQ fun v g hv hg=>by
  obtain⟨v',hv',hr⟩:=h.net.row
  rw[hv] at hv'
  injection hv' with hv'
  subst hv'
  exact hb g (row_isC hr hg).2.lt (by have:=(row_isC hr hg).1;omega)
 have hE:∃ v,w'.cell? ⟨A.Q,12410,none⟩=some v∧w'.ownsRow (A.Q+1) 45 10 v s.events.length (ecells s.events):=h.evs.imp fun v hv=>⟨(eQ _ (by omega)).trans hv.1,row_kept hv.2 fun g hg=>hb g (row_isC hv.2 hg).2.lt (by have:=(row_isC hv.2 hg).1;omega)⟩
 have hT:=hO.typ _ h.core.typ
 have hC:=h.core.cells hT (fun i h1 h2=>eQ i (by omega)) fQ
 have hcl:∀ j,j<s.n→CliIs w' (A.c j) (A.m j) (s.seat j).k:=fun j hj=>(h.cli j hj).blocks (hb _ (h.cli j hj).lt.1 (Ne.symm (kd1 j hj).1)) (hb _ (h.cli j hj).lt.2 (Ne.symm (kd1 j hj).2.1))
 have hgr:∀ s':Wd,s'.n=s.n→(s'.sv.isSome=true→s.sv.isSome=true)→∀ k,k<w.heap.size→wfoot w' A s' k→wfoot w A s k:=fun s' hn hsv k hk f=>by
  rcases f with f|f|⟨v,f1,f2⟩|⟨i,hi,f⟩|⟨i,hi,f⟩|⟨f1,f2⟩
  ·exact .Q f
  ·exact .G f
  ·exact .ev v ((eQ _ (by omega)).symm.trans f1) f2
  ·exact .c i (hn▸hi) f
  ·exact .m i (hn▸hi) f
  ·obtain⟨v,hv⟩:=Option.isSome_iff_exists.1 (hsv f1)
   have u:=h.up v hv
   have hl:=u.sv.lts
   have hq:=u.q
   exact .sv (hsv f1) ((foot_kept (hb _ (by omega) (by omega)) (hb _ (by omega) (by omega)) k).1 f2)
 have hfz:∀ s':Wd,s'.n=s.n→(s'.sv.isSome=true→s.sv.isSome=true)→Fz A s w A s' w':=fun s' hn hsv=>⟨hO.os,hO.tape,hO.output,hO.size,fun k hk hf _=>hb k hk (fun e=>hf (.Q e)),hgr s' hn hsv,rfl⟩
 refine⟨fun hs=>⟨⟨hC.of rfl rfl rfl rfl rfl rfl rfl,hD,hN,hE,h.gt.same hG,fun i=>(World.frozen?_of_block (a:=⟨A.G,i,none⟩) hG).trans (h.gf i),fun j hj=>(h.seats j hj).same hG,hcl,h.ap,fun v hv=>?_,h.n1,h.n4⟩,hfz _ rfl (fun q=>q)⟩,
  fun v hs=>⟨⟨hC.of rfl rfl rfl (by rw[hs];rfl) rfl rfl rfl,?_,hN,hE,h.gt.same hG,fun i=>(World.frozen?_of_block (a:=⟨A.G,i,none⟩) hG).trans (h.gf i),fun j hj=>(h.seats j hj).same hG,hcl,h.ap,fun x hx=>?_,h.n1,h.n4⟩,hfz _ rfl (fun _=>by rw[hs];rfl)⟩⟩
 ·have hv':s.sv=some v:=hv
  rw[hs] at hv'
  cases hv'
 ·have u:=h.up v hs
  show DiskIs w' A.Q v.rs f l
  rw[u.rs]
  exact hD
 ·have hx':some ({ v with fails:=f,left:=l }:Sv)=some x:=hx
  injection hx' with hx'
  subst hx'
  have u:=h.up v hs
  have hq:=u.q
  have hl:=u.sv.lts
  have hDv:DiskIs w' A.a.q v.rs f l:=by rw[u.q,u.rs];exact hD
  have o1:=u.sv.qU
  have o2:=u.sv.Um
  have o3:=u.sv.mT
  have o4:=u.sv.TS
  have key:SvIs w' A.a { v with fails:=f,left:=l }:=by
   have hS:=hb A.a.S (by omega) (by omega)
   have e:∀ i,w'.cell? ⟨A.a.S,i,none⟩=w.cell? ⟨A.a.S,i,none⟩:=fun i=>World.cell?_of_block hS
   have k:=u.sv
   exact⟨by rw[hS];exact k.typ,fun i=>(World.frozen?_of_block (a:=⟨A.a.S,i,none⟩) hS).trans (k.free i),(e 0).trans k.c0,(e 1).trans k.c1,(e 2).trans k.c2,(e 3).trans k.c3,(e 4).trans k.c4,(e 5).trans k.c5,(e 6).trans k.c6,fun i hi=>(e _).trans (k.vd i hi),fun i hi=>(e _).trans (k.vv i hi),fun i hi j u hu=>(e _).trans (k.la i hi j u hu),(e 47).trans k.c47,
    fun i hi=>(k.wait i hi).imp fun x hx=>⟨(e _).trans hx.1,row_kept hx.2 fun g hg=>hb g (row_isC hx.2 hg).2.lt (by have:=(row_isC hx.2 hg).1;omega)⟩,fun i j u v hi hj hn hu hv=>k.apart i j u v hi hj hn ((e _).symm.trans hu) ((e _).symm.trans hv),
    WalIs.keep2 k.log hO.size (hb A.a.U (by omega) (by omega)) (fun x g hx hg=>hb g (isC.lt (k.rowU hx hg).2) (by have:=(k.rowU hx hg).1;omega)),hDv,k.tab.blocks (hb _ (by omega) (by omega)) (hb _ (by omega) (by omega)),by rw[hb A.a.T (by omega) (by omega)];exact k.tt,k.qU,k.Um,k.mT,k.TS,k.len⟩
  exact⟨key,u.q,rfl,rfl,rfl,u.ne,u.to,u.tv⟩
theorem fails_any(A:Wa)(s:Wd)(x torn:Int)(w:World)(h:WdIs w A s) :
  Calls Tryz.prog 11 #[tp A.Q,.int .i64 x,.int .i64 torn] w fun e w'=>e = .returned (.tuple #[])∧WdIs w' A (s.failing x torn)∧Fz A s w A (s.failing x torn) w':=by
 have hcut:=Wal.cut_any A.Q s.rs s.fails s.left (mx x 0) w h.disk
 have hm0:=mx0 x
 rw[decide_eq_true hm0,show max (mx x 0) 0=mx x 0 by omega] at hcut
 have HM:Hid ((if x<0 then 0 else x)=mx x 0):=rfl
 have hcut2:Calls Tryz.prog 33 #[.pointer (some ⟨A.Q,3,none⟩),.int .i64 (if x<0 then 0 else x)] w fun e w'=>e = .returned (.tuple #[])∧DiskIs w' A.Q s.rs true (mx x 0)∧Oq A.Q w w':=hcut
 obtain⟨y,hy⟩:∃ y,(if x<0 then 0 else x)=y:=⟨_,rfl⟩
 rw[hy] at hcut2
 have HY:Hid (mx x 0=y):=hy
 rw[HY.out] at hcut2
 clear hcut hm0 HM
 cases hs:s.sv with
 | none=>
  have HE:Hid (s.failing x torn = { s with fails:=true,left:=y }):=by
   unfold Hid Wd.failing
   rw[hs]
   dsimp only
   rw[HY.out]
  go_enter Tryz.func11,Tryz.ntmps11
  go_wp2_with fail
  refine hcut2.mono ?_
  rintro e w2 ⟨rfl,hD2,hO2⟩
  obtain⟨x1,x2⟩:=(h.cut hD2 hO2).1 hs
  have hup:=up_any A _ w2 x1
  have hsn:({ s with fails:=true,left:=y }:Wd).sv=none:=hs
  rw[hsn] at hup
  have HF:Hid (WdIs w2 A (s.failing x torn)∧Fz A s w A (s.failing x torn) w2):=by rw[HE.out];exact⟨x1,x2⟩
  clear x1 x2 h hD2 hO2 hcut2 hsn
  go_wp2_with fail
  refine hup.mono ?_
  rintro e w3 ⟨rfl,rfl⟩
  go_wp2_with fail
  go_end0
  exact⟨rfl,HF.out⟩
 | some v=>
  have HE:Hid (s.failing x torn=(s.served { v with fails:=true,left:=y }).served { ({ v with fails:=true,left:=y }:Sv) with torn:=torn }):=by
   unfold Hid Wd.failing
   rw[hs]
   dsimp only
   rw[HY.out]
   rfl
  go_enter Tryz.func11,Tryz.ntmps11
  go_wp2_with fail
  refine hcut2.mono ?_
  rintro e w2 ⟨rfl,hD2,hO2⟩
  obtain⟨x1,x2⟩:=(h.cut hD2 hO2).2 v hs
  have hup:=up_any A _ w2 x1
  have hsn:(s.served { v with fails:=true,left:=y }).sv=some { v with fails:=true,left:=y }:=rfl
  rw[hsn] at hup
  have srv:=x1.core.srv
  rw[hsn] at srv
  unfold svP at srv
  have u:=x1.up _ hsn
  have hte:=tear_any A.a _ torn w2 u.sv
  have HX:Hid (∀ w3,SvIs w3 A.a { ({ v with fails:=true,left:=y }:Sv) with torn:=torn }→Fs A.a w2 w3→WdIs w3 A (s.failing x torn)∧Fz A s w A (s.failing x torn) w3):=fun w3 h1 h2=>by
   obtain⟨y1,y2⟩:=x1.served hsn h1 h2 rfl rfl
   rw[HE.out]
   exact⟨y1,x2.trans y2⟩
  clear x1 x2 h hD2 hO2 hcut2 u
  go_wp2_with fail
  refine hup.mono ?_
  rintro e w3 ⟨rfl,rfl⟩
  go_wp2_with fail
  refine hte.mono ?_
  rintro e w4 ⟨rfl,h1,h2⟩
  have HF:=HX.out w4 h1 h2
  clear h1 h2 hte HX
  go_wp2_with fail
  go_end0
  exact⟨rfl,HF⟩
theorem valueW_ok(A:Wa)(s:Wd)(v:Sv)(o:Nat)(w:World)(h:WdIs w A s)(hs:s.sv=some v)(ho:o<8) :
  Calls Tryz.prog 152 #[tp A.Q,.int .i64 o] w fun e w'=>e = .returned (.tuple #[.agg #[.string (v.vd o),.int .i64 (v.vv o)],.nilIface])∧Below w.heap.size w w':=by
 obtain⟨x1,_⟩:=h.below (show Below w.heap.size w (w.alloc (.cells #[.string ⟨#[]⟩,.int .i64 0] 41)) from(Below.refl _ _).alloc (Nat.le_refl _) _)
 have hup:=up_any A s _ x1
 rw[hs] at hup
 have srv:=x1.core.srv
 rw[hs] at srv
 unfold svP at srv
 have hva:=value_ok A.a v o _ (x1.up v hs).sv ho
 have hlt:=h.lt
 have hne:A.Q≠w.heap.size:=by omega
 clear h x1
 go_enter Tryz.func152,Tryz.ntmps152
 go_wp2_with fail
 refine hup.mono ?_
 rintro e w2 ⟨rfl,hw2⟩
 rw[hw2]
 clear hw2 hup
 go_wp2_with fail
 refine hva.mono ?_
 rintro e w3 ⟨rfl,hb⟩
 generalize hW:w.alloc (.cells #[.string ⟨#[]⟩,.int .i64 0] 41)=w1 at *
 have hs1:w1.heap.size=w.heap.size+1:=by rw[← hW];simp
 have hb1:Below w.heap.size w w1:=by rw[← hW];exact(Below.refl _ _).alloc (Nat.le_refl _) _
 have q0:w1.cell? ⟨w.heap.size,0,none⟩=some (.string ⟨#[]⟩):=by rw[← hW];exact cell_of_row _ _ _ _ _ _ (heap_alloc_new w _)
 have q1:w1.cell? ⟨w.heap.size,1,none⟩=some (.int .i64 0):=by rw[← hW];exact cell_of_row _ _ _ _ _ _ (heap_alloc_new w _)
 have qf:∀ i,w1.frozen? ⟨w.heap.size,i,none⟩=false:=fun i=>by rw[← hW];simp
 have r0:=(hb.cell (p:=⟨w.heap.size,0,none⟩) (by dsimp only;omega)).trans q0
 have r1:=(hb.cell (p:=⟨w.heap.size,1,none⟩) (by dsimp only;omega)).trans q1
 have f0:=(hb.frozen (p:=⟨w.heap.size,0,none⟩) (by dsimp only;omega)).trans (qf 0)
 have f1:=(hb.frozen (p:=⟨w.heap.size,1,none⟩) (by dsimp only;omega)).trans (qf 1)
 have HB:Hid (Below w.heap.size w ((w3.setCell ⟨w.heap.size,0,none⟩ (.string (v.vd o))).setCell ⟨w.heap.size,1,none⟩ (.int .i64 (v.vv o)))):=((hb1.trans (hb.mono (by omega))).setCell (p:=⟨w.heap.size,0,none⟩) (Nat.le_refl _) _).setCell (p:=⟨w.heap.size,1,none⟩) (Nat.le_refl _) _
 clear hva hW hb hb1 q0 q1 qf srv
 go_wp2_with fail
 exact bodyPost_ret (v:=.tuple #[.agg #[.string (v.vd o),.int .i64 (v.vv o)],.nilIface]) (by simp[results,Tryz.results152,go_sem,r0,r1]) rfl ⟨rfl,HB.out⟩
theorem WdIs.started{w w':World}{A:Wa}{s:Wd}(h:WdIs w A s)(hs:s.sv=none){a:Ad}{v:Sv}(hS:SvIs w' a v)(hq:a.q=A.Q)(hO:Oq A.Q w w')(hft:∀ k,foot w' a k→k=A.Q∨w.heap.size≤k)(h1:v.to=s.to)(h2:v.tv=s.tv) :
  WdIs (w'.setCell ⟨A.Q,12407,none⟩ (tp a.S)) { A with a:=a } (s.served v)∧Fz A s w { A with a:=a } (s.served v) (w'.setCell ⟨A.Q,12407,none⟩ (tp a.S)):=by
 have hlt:=h.lt
 obtain⟨kd0,kd1,kd2⟩:=h.kinds
 have hl:=hS.lts
 have hz:=hO.size
 have hb1:∀ k,k≠A.Q→(w'.setCell ⟨A.Q,12407,none⟩ (tp a.S)).heap[k]?=w'.heap[k]?:=fun k hk=>Below.heap_setCell w' ⟨A.Q,12407,none⟩ (tp a.S) k hk
 have hb:∀ k,k<w.heap.size→k≠A.Q→(w'.setCell ⟨A.Q,12407,none⟩ (tp a.S)).heap[k]?=w.heap[k]?:=fun k hk hq=>(hb1 k hq).trans (hO.block k hk hq)
 have eQ1:∀ i,i≠12407→(w'.setCell ⟨A.Q,12407,none⟩ (tp a.S)).cell? ⟨A.Q,i,none⟩=w'.cell? ⟨A.Q,i,none⟩:=fun i hi=>World.cell?_setCell_other _ _ _ _ (by intro q;injection q with _ q;exact hi q.symm)
 have eQ:∀ i,(i<3∨12405≤i)→i≠12407→(w'.setCell ⟨A.Q,12407,none⟩ (tp a.S)).cell? ⟨A.Q,i,none⟩=w.cell? ⟨A.Q,i,none⟩:=fun i hi hn=>(eQ1 i hn).trans (hO.cell i hlt hi)
 have fQ1:∀ i,(w'.setCell ⟨A.Q,12407,none⟩ (tp a.S)).frozen? ⟨A.Q,i,none⟩=w'.frozen? ⟨A.Q,i,none⟩:=fun i=>World.frozen?_setCell _ _ _ _
 have fQ:∀ i,(w'.setCell ⟨A.Q,12407,none⟩ (tp a.S)).frozen? ⟨A.Q,i,none⟩=w.frozen? ⟨A.Q,i,none⟩:=fun i=>(fQ1 i).trans (hO.fro i hlt)
 have hsz:(w'.setCell ⟨A.Q,12407,none⟩ (tp a.S)).heap.size=w'.heap.size:=by simp
 have hG:=hb A.G h.gt.lt (Ne.symm kd0)
 have hN:NetIs (w'.setCell ⟨A.Q,12407,none⟩ (tp a.S)) (A.Q+1) A.Q (s.net.map encN):=NetIs.kept h.net (by omega) (eQ _ (by omega) (by omega)) (eQ _ (by omega) (by omega)) fQ fun v g hv hg=>by
  obtain⟨v',hv',hr⟩:=h.net.row
  rw[hv] at hv'
  injection hv' with hv'
  subst hv'
  exact hb g (row_isC hr hg).2.lt (by have:=(row_isC hr hg).1;omega)
 have hD:DiskIs (w'.setCell ⟨A.Q,12407,none⟩ (tp a.S)) A.Q v.rs v.fails v.left:=DiskIs.cells (by rw[← hq];exact hS.disk) (fun i _ _=>eQ1 i (by omega)) fQ1
 have hT:isC (w'.setCell ⟨A.Q,12407,none⟩ (tp a.S)) A.Q 81:=Wal.typ_setCell (hO.typ _ h.core.typ)
 have hSv:SvIs (w'.setCell ⟨A.Q,12407,none⟩ (tp a.S)) a v:=hS.feet (by omega) (by rw[hq];exact hD) (fun k hk hkq=>hb1 k (by rw[← hq];exact hkq))
 have c:=h.core
 have old:=c.srv
 rw[hs] at old
 have old':w'.cell? ⟨A.Q,12407,none⟩=some (svP A none):=(hO.cell _ hlt (by omega)).trans old
 refine⟨⟨⟨hT,fun i=>(fQ i).trans (c.free i),(eQ _ (by omega) (by omega)).trans c.c0,(eQ _ (by omega) (by omega)).trans c.c1,(eQ _ (by omega) (by omega)).trans c.c2,World.cell?_setCell_same _ _ _ old',(eQ _ (by omega) (by omega)).trans c.clk,(eQ _ (by omega) (by omega)).trans c.sts,(eQ _ (by omega) (by omega)).trans c.stp⟩,
  hD,hN,h.evs.imp fun v hv=>⟨(eQ _ (by omega) (by omega)).trans hv.1,row_kept hv.2 fun g hg=>hb g (row_isC hv.2 hg).2.lt (by have:=(row_isC hv.2 hg).1;omega)⟩,h.gt.same hG,fun i=>(World.frozen?_of_block (a:=⟨A.G,i,none⟩) hG).trans (h.gf i),fun j hj=>(h.seats j hj).same hG,
  fun j hj=>(h.cli j hj).blocks (hb _ (h.cli j hj).lt.1 (Ne.symm (kd1 j hj).1)) (hb _ (h.cli j hj).lt.2 (Ne.symm (kd1 j hj).2.1)),h.ap,fun x hx=>?_,h.n1,h.n4⟩,
  ⟨hO.os,hO.tape,hO.output,by omega,fun k hk hf _=>hb k hk (fun e=>hf (.Q e)),fun k hk f=>?_,rfl⟩⟩
 ·have hx':some v=some x:=hx
  injection hx' with hx'
  subst hx'
  refine⟨hSv,hq,rfl,rfl,rfl,fun i hi e=>?_,h1,h2⟩
  have e':A.m i=a.m:=e
  have hm:=(h.cli i hi).lt.2
  have hmQ:=(kd1 i hi).2.1
  rcases hft a.m (.inr (.inl rfl)) with q|q
  ·exact hmQ (by rw[e',q])
  ·omega
 ·rcases f with f|f|⟨x,f1,f2⟩|⟨i,hi,f⟩|⟨i,hi,f⟩|⟨f1,f2⟩
  ·exact .Q f
  ·exact .G f
  ·exact .ev x ((eQ _ (by omega) (by omega)).symm.trans f1) f2
  ·exact .c i hi f
  ·exact .m i hi f
  ·have f2':foot w' a k:=(foot_kept (hb1 a.U (by rw[← hq];omega)) (hb1 a.S (by rw[← hq];omega)) k).1 f2
   rcases hft k f2' with q|q
   ·exact .Q q
   ·omega
theorem start_any(A:Wa)(s:Wd)(C:Nat)(w:World)(h:WdIs w A s)(hs:s.sv=none)(hB:WdB s C)(hl:s.rs.length<200)(hr:∀ r∈s.rs,0≤r.c∧r.o<8) :
  Calls Tryz.prog 58 #[tp A.Q] w fun e w'=>e = .returned (.tuple #[])∧∃ a,WdIs w' { A with a:=a } s.start∧Fz A s w { A with a:=a } s.start w':=by
 have hcut:=Wal.cut_any A.Q s.rs s.fails s.left (-1) w h.disk
 rw[show decide ((0:Int)≤-1)=false from rfl,show max (-1:Int) 0=0 from rfl] at hcut
 obtain⟨n1,n2,n3,n4,n5⟩:=SvB.new (to':=s.to) (tv:=s.tv) (td:=s.td) (now:=s.clock) hB.recs hl
 go_enter Tryz.func58,Tryz.ntmps58
 go_wp2_with fail
 refine hcut.mono ?_
 rintro e w2 ⟨rfl,hD2,hO2⟩
 obtain⟨x1,x2⟩:=(h.cut hD2 hO2).1 hs
 clear hcut hD2 hO2 h
 go_upto_region 1 with fail
 obtain⟨z1,z2⟩:=x1.below (Below.refl w2.heap.size w2).drew
 have hnew:=newS_any A.Q s.to s.tv s.td s.clock s.rs w2.drew z1.disk z1.lt hl hr n4 n5 hB.c0 hB.c1 hB.tv0 hB.tv1
 have c0:=x1.core.c0
 have c1:=x1.core.c1
 have c2:=x1.core.c2
 have clk:=x1.core.clk
 dsimp only at c0 c1 c2 clk
 refine Gen.start (S:=fun w'=>w'.cell? ⟨A.Q,0,none⟩=some (.int .i64 s.to)∧w'.cell? ⟨A.Q,1,none⟩=some (.int .i64 s.tv)∧w'.cell? ⟨A.Q,2,none⟩=some (.int .i64 s.td)∧w'.cell? ⟨A.Q,12408,none⟩=some (.int .i64 s.clock)) (by kernel_rfl) ⟨c0,c1,c2,clk⟩ (fun hHeld=>?_)
 refine Gen.tk 0 16 ?_ rfl rfl (Or.inl ⟨by rfl,?_⟩) hHeld ?_;rotate_left
 ·rintro w' ⟨s0,s1,s2,s3⟩;go_simp;try with_reducible rfl
 go_frame
 refine Gen.tk 1 2 ?_ rfl rfl (Or.inl ⟨by rfl,?_⟩) hHeld ?_;rotate_left
 ·rintro w' ⟨s0,s1,s2,s3⟩;go_simp;try with_reducible rfl
 go_frame
 refine Gen.tk 2 3 ?_ rfl rfl (Or.inl ⟨by rfl,?_⟩) hHeld ?_;rotate_left
 ·rintro w' ⟨s0,s1,s2,s3⟩;go_simp;try with_reducible rfl
 go_frame
 refine Gen.tk 3 12 ?_ rfl rfl (Or.inl ⟨by rfl,?_⟩) hHeld ?_;rotate_left
 ·rintro w' ⟨s0,s1,s2,s3⟩;go_simp;try with_reducible rfl
 go_frame
 refine Gen.tk 4 5 ?_ rfl rfl (Or.inl ⟨by rfl,?_⟩) hHeld ?_;rotate_left
 ·rintro w' ⟨s0,s1,s2,s3⟩;go_simp;try with_reducible rfl
 go_frame
 refine Gen.tk 5 6 ?_ rfl rfl (Or.inl ⟨by rfl,?_⟩) hHeld ?_;rotate_left
 ·rintro w' ⟨s0,s1,s2,s3⟩;go_simp;try with_reducible rfl
 go_frame
 refine Gen.tk 6 7 ?_ rfl rfl (Or.inl ⟨by rfl,?_⟩) hHeld ?_;rotate_left
 ·rintro w' ⟨s0,s1,s2,s3⟩;go_simp;try with_reducible rfl
 go_frame
 refine Gen.tk 7 12 ?_ rfl rfl (Or.inl ⟨by rfl,?_⟩) hHeld ?_;rotate_left
 ·rintro w' ⟨s0,s1,s2,s3⟩;go_simp;try with_reducible rfl
 go_frame
 refine Gen.tk 8 9 ?_ rfl rfl (Or.inl ⟨by rfl,?_⟩) hHeld ?_;rotate_left
 ·rintro w' ⟨s0,s1,s2,s3⟩;go_simp;try with_reducible rfl
 go_frame
 refine Gen.tk 9 10 ?_ rfl rfl (Or.inl ⟨by rfl,?_⟩) hHeld ?_;rotate_left
 ·rintro w' ⟨s0,s1,s2,s3⟩;go_simp;try with_reducible rfl
 go_frame
 refine Gen.tk 10 11 ?_ rfl rfl (Or.inl ⟨by rfl,?_⟩) hHeld ?_;rotate_left
 ·rintro w' ⟨s0,s1,s2,s3⟩;go_simp;try with_reducible rfl
 go_frame
 refine Gen.tk 11 12 ?_ rfl rfl (Or.inl ⟨by rfl,?_⟩) hHeld ?_;rotate_left
 ·rintro w' ⟨s0,s1,s2,s3⟩;go_simp;try with_reducible rfl
 go_frame
 refine Gen.one (i:=12) (by kernel_rfl) rfl rfl (fun K hK=>?_)
 go_simp
 refine hnew.mono ?_
 rintro e w3 ⟨a,haq,rfl,hS3,hO3,hft3⟩
 have hO3':Oq A.Q w2 w3:=⟨hO3.os,hO3.tape,hO3.output,hO3.size,hO3.block,hO3.cell,hO3.fro,hO3.typ⟩
 have hQl:=x1.lt
 have d0:=(hO3'.cell 0 hQl (by omega)).trans c0
 have d1:=(hO3'.cell 1 hQl (by omega)).trans c1
 have d2:=(hO3'.cell 2 hQl (by omega)).trans c2
 have d4:=(hO3'.cell 12408 hQl (by omega)).trans clk
 have srv:=x1.core.srv
 have hsn:({ s with fails:=false,left:=0 }:Wd).sv=none:=hs
 rw[hsn] at srv
 unfold svP at srv
 have srv3:=(hO3'.cell 12407 hQl (by omega)).trans srv
 have fsr:=(hO3'.fro 12407 hQl).trans (x1.core.free 12407)
 obtain⟨y1,y2⟩:=x1.started hsn hS3 haq hO3' hft3 n2 n3
 have HF:Hid (WdIs (w3.setCell ⟨A.Q,12407,none⟩ (tp a.S)) { A with a:=a } s.start∧Fz A s w { A with a:=a } s.start (w3.setCell ⟨A.Q,12407,none⟩ (tp a.S))):=⟨y1,x2.trans y2⟩
 have e0:(w3.setCell ⟨A.Q,12407,none⟩ (tp a.S)).cell? ⟨A.Q,0,none⟩=some (.int .i64 s.to):=by rw[World.cell?_setCell_other _ _ _ _ (by intro q;injection q with _ q;omega)];exact d0
 have e1:(w3.setCell ⟨A.Q,12407,none⟩ (tp a.S)).cell? ⟨A.Q,1,none⟩=some (.int .i64 s.tv):=by rw[World.cell?_setCell_other _ _ _ _ (by intro q;injection q with _ q;omega)];exact d1
 have e2:(w3.setCell ⟨A.Q,12407,none⟩ (tp a.S)).cell? ⟨A.Q,2,none⟩=some (.int .i64 s.td):=by rw[World.cell?_setCell_other _ _ _ _ (by intro q;injection q with _ q;omega)];exact d2
 have e4:(w3.setCell ⟨A.Q,12407,none⟩ (tp a.S)).cell? ⟨A.Q,12408,none⟩=some (.int .i64 s.clock):=by rw[World.cell?_setCell_other _ _ _ _ (by intro q;injection q with _ q;omega)];exact d4
 dsimp only
 refine hK.out _ _ ⟨d0,d1,d2,d4⟩ (fun hHeld=>?_)
 clear hK K y1 y2 hnew hS3 hO3 hft3
 try go_frame
 refine Gen.tk 13 14 ?_ rfl rfl (Or.inl ⟨by rfl,?_⟩) hHeld ?_;rotate_left
 ·rintro w' ⟨s0,s1,s2,s3⟩;go_simp;try with_reducible rfl
 go_frame
 refine Gen.tk 14 16 ?_ rfl rfl (Or.inl ⟨by rfl,?_⟩) hHeld ?_;rotate_left
 ·rintro w' ⟨s0,s1,s2,s3⟩;go_simp;try with_reducible rfl
 go_frame
 refine Gen.tk 16 17 ?_ rfl rfl (Or.inl ⟨by rfl,?_⟩) hHeld ?_;rotate_left
 ·rintro w' ⟨s0,s1,s2,s3⟩;go_simp;try with_reducible rfl
 go_frame
 refine Gen.tk 17 18 ?_ rfl rfl (Or.inl ⟨by rfl,?_⟩) hHeld ?_;rotate_left
 ·rintro w' ⟨s0,s1,s2,s3⟩;go_simp;try with_reducible rfl
 go_frame
 refine Gen.two (i:=15) (j:=18) (by kernel_rfl) rfl rfl rfl rfl (fun K hK=>?_) (fun K hK=>?_)
 ·go_simp
  refine hK.out _ _ ⟨d0,d1,d2,d4⟩ (fun hHeld=>?_)
  clear hK K
  try go_frame
  refine Gen.last (i:=18) (by kernel_rfl) rfl rfl (by kernel_rfl) (by kernel_rfl) (fun K hK=>?_)
  go_simp
  refine hK.out _ _ ?_
  clear hK K hHeld
  go_wp2_with fail
  go_end0
  exact⟨rfl,a,HF.out⟩
 ·go_simp
  refine hK.out _ _ ⟨e0,e1,e2,e4⟩ (fun hHeld=>?_)
  clear hK K
  try go_frame
  refine Gen.last (i:=15) (by kernel_rfl) rfl rfl (by kernel_rfl) (by kernel_rfl) (fun K hK=>?_)
  go_simp
  refine hK.out _ _ ?_
  clear hK K hHeld
  go_wp2_with fail
  go_end0
  exact⟨rfl,a,HF.out⟩
end Wld
end
end Go.Proofs.YtbebfliimjjohabGreatDoor
