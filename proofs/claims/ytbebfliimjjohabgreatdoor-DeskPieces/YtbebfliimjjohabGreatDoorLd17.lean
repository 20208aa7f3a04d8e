/- Parts of the proof. -/
import Derived.Test.YtbebfliimjjohabGreatDoorLd16
import Derived.Maps.RangeWalk
set_option maxRecDepth 100000
set_option maxHeartbeats 8000000
namespace Go.Proofs.YtbebfliimjjohabGreatDoor
section
namespace Wld
open Go.RowKit Go.Maps
open Lease (upd hol dels)
open Wal (R mayB timeB)
open Num (M)
theorem add_keep(s:Sv)(r:R):(s.add r).1.waits=s.waits∧(s.add r).1.ses=s.ses∧(s.add r).1.ready=s.ready∧(s.add r).1.vv=s.vv∧(s.add r).1.epoch=s.epoch∧(s.add r).1.vol=s.vol∧(s.add r).1.D=s.D∧(s.add r).1.n=s.n:=by
 unfold Sv.add
 split
 ·exact⟨rfl,rfl,rfl,rfl,rfl,rfl,rfl,rfl⟩
 ·split
  ·exact⟨rfl,rfl,rfl,rfl,rfl,rfl,rfl,rfl⟩
  ·split<;>exact⟨rfl,rfl,rfl,rfl,rfl,rfl,rfl,rfl⟩
theorem add_left(s:Sv)(r:R)(h0:0≤s.left)(h1:s.left≤9223372036854775807):0≤(s.add r).1.left∧(s.add r).1.left≤9223372036854775807:=by
 unfold Sv.add
 split
 ·exact⟨h0,h1⟩
 ·split
  ·exact⟨h0,h1⟩
  ·split
   ·exact⟨h0,h1⟩
   ·rename_i h
    dsimp only
    split
    ·rename_i hf
     have:s.left≠0:=fun e=>h ⟨hf,e⟩
     omega
    ·omega
theorem applied_keep(s:Sv)(r:R)(h:¬ r.o<0):(s.applied r).waits=s.waits∧(s.applied r).ses=s.ses∧(s.applied r).ready=s.ready∧(s.applied r).vv=updN s.vv r.o.toNat r.v∧(s.applied r).epoch=s.epoch∧(s.applied r).left=s.left∧(s.applied r).vol=s.vol∧(s.applied r).D=s.D∧(s.applied r).n=s.n:=by
 unfold Sv.applied
 rw[if_neg h]
 split<;>exact⟨rfl,rfl,rfl,rfl,rfl,rfl,rfl,rfl,rfl⟩
theorem commit_keep(s:Sv)(m:M)(o:Nat):(s.commit m o).1.waits=s.waits∧(s.commit m o).1.ses=s.ses∧(s.commit m o).1.ready=s.ready∧(s.commit m o).1.epoch=s.epoch∧(s.commit m o).1.vol=s.vol∧(s.commit m o).1.D=s.D∧(s.commit m o).1.n=s.n∧((s.commit m o).1.vv=s.vv∨(s.commit m o).1.vv=updN s.vv o (s.vv o+1)):=by
 obtain⟨a1,a2,a3,a4,a5,a6,a7,a8⟩:=add_keep s (s.recd m o)
 unfold Sv.commit
 split
 ·have ho:¬ (s.recd m o).o<0:=by show ¬ (o:Int)<0;omega
  obtain⟨b1,b2,b3,b4,b5,_,b6,b7,b8⟩:=applied_keep (s.add (s.recd m o)).1 (s.recd m o) ho
  dsimp only
  refine⟨b1.trans a1,b2.trans a2,b3.trans a3,b5.trans a5,b6.trans a6,b7.trans a7,b8.trans a8,.inr ?_⟩
  rw[b4,a4]
  have:(s.recd m o).o.toNat=o:=by show ((o:Int)).toNat=o;omega
  rw[this]
  rfl
 ·exact⟨a1,a2,a3,a5,a6,a7,a8,.inl a4⟩
theorem commit_left(s:Sv)(m:M)(o:Nat)(h0:0≤s.left)(h1:s.left≤9223372036854775807):0≤(s.commit m o).1.left∧(s.commit m o).1.left≤9223372036854775807:=by
 have h:=add_left s (s.recd m o) h0 h1
 unfold Sv.commit
 split
 ·have ho:¬ (s.recd m o).o<0:=by show ¬ (o:Int)<0;omega
  obtain⟨_,_,_,_,_,e,_⟩:=applied_keep (s.add (s.recd m o)).1 (s.recd m o) ho
  dsimp only
  rw[e]
  exact h
 ·exact h
def Sv.adv(s:Sv)(o:Nat)(now:Int):Nat→Sv×List M
 | 0=>(s,[])
 | f+1=>
  if (s.waits o).length=0∨now<s.ready then (s,[])
  else if (s.awaited o now).2.length≠0 then ((s.awaited o now).1,[])
  else match (s.awaited o now).1.waits o with
   | []=>((s.awaited o now).1,[])
   | m :: rest=>
    if ((s.awaited o now).1.commit m o).2.2=false then (((s.awaited o now).1.commit m o).1,[])
    else ((Sv.adv { ((s.awaited o now).1.commit m o).1 with waits:=updN ((s.awaited o now).1.commit m o).1.waits o rest } o now f).1,
     (Sv.doneM { ((s.awaited o now).1.commit m o).1 with waits:=updN ((s.awaited o now).1.commit m o).1.waits o rest } m ((s.awaited o now).1.commit m o).2.1) :: (Sv.adv { ((s.awaited o now).1.commit m o).1 with waits:=updN ((s.awaited o now).1.commit m o).1.waits o rest } o now f).2)
def Sv.advance(s:Sv)(o:Nat)(now:Int):Sv×List M:=s.adv o now ((s.waits o).length+1)
theorem await_waits(now:Int):∀ (cs:List Int) (s:Sv),(s.await now cs).1.waits=s.waits∧(s.await now cs).1.vv=s.vv∧(s.await now cs).1.left=s.left∧(s.await now cs).1.ready=s.ready∧(s.await now cs).1.epoch=s.epoch
 | [],s=>⟨rfl,rfl,rfl,rfl,rfl⟩
 | c :: cs,s=>by
  rw[await_cons]
  split
  ·exact await_waits now cs s
  ·exact await_waits now cs (s.flushed c)
theorem awaited_waits(s:Sv)(o:Nat)(now:Int):(s.awaited o now).1.waits=s.waits∧(s.awaited o now).1.vv=s.vv∧(s.awaited o now).1.left=s.left∧(s.awaited o now).1.ready=s.ready∧(s.awaited o now).1.epoch=s.epoch:=by
 unfold Sv.awaited
 split
 ·exact⟨rfl,rfl,rfl,rfl,rfl⟩
 ·exact await_waits now _ s
def okW(o:Nat)(m:M):Prop:=m.o=o∧timeB m.c=true∧timeB m.n=true∧m.d.size≤20
theorem okW.may{s:Sv}{o:Nat}{m:M}(h:okW o m)(ho:o<8)(h0:0≤s.vv o)(h1:s.vv o+1≤1099511627776):mayB (s.recd m o)=true:=by
 obtain⟨_,h2,h3,h4⟩:=h
 have hne:(s.recd m o).o≠-1:=by show (o:Int)≠-1;omega
 have hv:timeB (s.vv o+1)=true:=Num.inB_true (by omega) h1
 unfold Wal.mayB
 rw[if_neg hne]
 simp only[Wal.writeB,Sv.recd,h2,h3,hv,Bool.and_self,Bool.true_and,decide_eq_true_eq]
 exact⟨by omega,by omega,h4,trivial⟩
end Wld
end
section
namespace Wld
open Go.RowKit Go.Maps
open Lease (Ob I64 upd TabIs hol dels objB HasI)
open Cache (tp row_kept row_below)
open Wal (R mayB timeB)
open Num (M)
def lenAt(wr:World)(a:Ad)(o:Nat):Nat:=match wr.cell? ⟨a.S,48+o,none⟩ with
 | some (.slice _ n _)=>n
 | _=>0
theorem lenAt_eq{wr:World}{a:Ad}{o n:Nat}{ao:Option Addr}{c:Nat}(h:wr.cell? ⟨a.S,48+o,none⟩=some (.slice ao n c)):lenAt wr a o=n:=by
 unfold lenAt
 rw[h]
theorem adv_stop{s:Sv}{o:Nat}{now:Int}{f:Nat}(h:(s.waits o).length=0∨now<s.ready):s.adv o now (f+1)=(s,[]):=if_pos h
theorem adv_wait{s:Sv}{o:Nat}{now:Int}{f:Nat}(h:¬ ((s.waits o).length=0∨now<s.ready))(h2:(s.awaited o now).2.length≠0):s.adv o now (f+1)=((s.awaited o now).1,[]):=(if_neg h).trans (if_pos h2)
theorem adv_fail{s:Sv}{o:Nat}{now:Int}{f:Nat}{m:M}{rest:List M}(h:¬ ((s.waits o).length=0∨now<s.ready))(h2:¬ (s.awaited o now).2.length≠0)(hm:(s.awaited o now).1.waits o=m :: rest)(hf:((s.awaited o now).1.commit m o).2.2=false):s.adv o now (f+1)=(((s.awaited o now).1.commit m o).1,[]):=by
 refine(if_neg h).trans ((if_neg h2).trans ?_)
 rw[hm]
 exact if_pos hf
theorem adv_go{s:Sv}{o:Nat}{now:Int}{f:Nat}{m:M}{rest:List M}(h:¬ ((s.waits o).length=0∨now<s.ready))(h2:¬ (s.awaited o now).2.length≠0)(hm:(s.awaited o now).1.waits o=m :: rest)(hf:¬ ((s.awaited o now).1.commit m o).2.2=false){x:Sv×Int×Bool}(hx:(s.awaited o now).1.commit m o=x){s3:Sv}(h3:({ x.1 with waits:=updN x.1.waits o rest }:Sv)=s3) :
  s.adv o now (f+1)=((s3.adv o now f).1,s3.doneM m x.2.1 :: (s3.adv o now f).2):=by
 subst hx h3
 refine(if_neg h).trans ((if_neg h2).trans ?_)
 rw[hm]
 exact if_neg hf
structure Av(w wr:World)(a:Ad)(s:Sv)(o:Nat)(now:Int)(v:Value)(s2:Sv)(l:List M):Prop where
 tel:Tells w wr a v s2 l
 le:(s2.waits o).length+l.length≤(s.waits o).length
 eq1:(s.advance o now).1=(s2.adv o now ((s2.waits o).length+1)).1
 eq2:(s.advance o now).2=l++(s2.adv o now ((s2.waits o).length+1)).2
 ok:∀ m∈s2.waits o,okW o m
 ses:∀ c,s2.ses c≤1000000000000000+4*(l.length:Int)
 vv0:∀ k,0≤s2.vv k
 vv1:∀ k,s2.vv k≤1000000000000+(l.length:Int)
 left0:0≤s2.left
 left1:s2.left≤9223372036854775807
theorem advance_any(a:Ad)(s:Sv)(o:Nat)(now:Int)(w:World)(h:SvIs w a s)(ho:o<8)(hok:∀ m∈s.waits o,okW o m)(hses:∀ c,s.ses c≤1000000000000000)(hv0:∀ k,0≤s.vv k)(hv1:∀ k,s.vv k≤1000000000000)(hl0:0≤s.left)(hl1:s.left≤9223372036854775807) :
  Calls Tryz.prog 139 #[tp a.S,.int .i64 o,.int .i64 now] w fun e w'=>∃ v,e = .returned v∧Tells w w' a v (s.advance o now).1 (s.advance o now).2:=by
 obtain⟨i0,hi,hy0,hy1,hy2⟩:=info_parts info_msg
 have hlen0:=h.len o ho
 have hws:=h.lt
 have ho0:(0:Int)≤(o:Int):=by omega
 have ho8:(o:Int)<8:=by omega
 go_enter Tryz.func139,Tryz.ntmps139
 go_wp2_with fail
 go_loopw [7] (fun v wr=>∃ s2 l,Av w wr a s o now v s2 l) (fun _ wr=>lenAt wr a o)
 case atStart=>exact⟨s,[],⟨⟨Out.nil _ _ _,h,Fs.refl _ _⟩,by simp,rfl,rfl,hok,fun c=>by have:=hses c;simp;omega,hv0,fun k=>by have:=hv1 k;simp;omega,hl0,hl1⟩⟩
 case round=>
  obtain⟨s2,l,A⟩:=hrel
  obtain⟨vw,hvw,hmw⟩:=A.tel.sv.wait o ho
  obtain⟨aw,cw,rfl,hcw,_⟩:=Net.row_shape hmw
  have hlen:=A.tel.sv.len o ho
  have hll:=A.le
  have d6:=A.tel.sv.c6
  have e1:=A.eq1
  have e2:=A.eq2
  by_cases hn:(s2.waits o).length=0
  ·rw[adv_stop (.inl hn)] at e1 e2
   rw[List.append_nil] at e2
   have HA:Hid (Tells w wr a u7 s2 l):=A.tel
   have E1:Hid ((s.advance o now).1=s2):=e1
   have E2:Hid ((s.advance o now).2=l):=e2
   rw[hn] at hvw
   clear A e1 e2 hmw
   go_wp2_with fail
   go_ret
   rw[E1.out,E2.out]
   exact⟨_,rfl,HA.out⟩
  ·obtain⟨n,hnn⟩:∃ n,(s2.waits o).length=n+1:=⟨(s2.waits o).length-1,by omega⟩
   by_cases hr:now<s2.ready
   ·rw[adv_stop (.inr hr)] at e1 e2
    rw[List.append_nil] at e2
    have HA:Hid (Tells w wr a u7 s2 l):=A.tel
    have E1:Hid ((s.advance o now).1=s2):=e1
    have E2:Hid ((s.advance o now).2=l):=e2
    have hgt:decide ((0:Int)<((n+1:Nat):Int))=true:=decide_eq_true (by omega)
    have hg2:decide (s2.ready≤now)=false:=decide_eq_false (by omega)
    rw[hnn] at hvw
    clear A e1 e2 hmw hr
    go_wp2_with fail
    go_ret
    rw[E1.out,E2.out]
    exact⟨_,rfl,HA.out⟩
   ·have hst:¬ ((s2.waits o).length=0∨now<s2.ready):=fun q=>q.elim hn hr
    have haw:=awaited_any a s2 o now wr A.tel.sv ho (fun c=>by have:=A.ses c;omega)
    have hO:SvOk s2 (1000000000000000+4*(l.length:Int)):=⟨A.ses,A.vv0,fun k=>by have:=A.vv1 k;omega⟩
    obtain⟨hO2,hl2⟩:=hO.awaited o now
    obtain⟨k1,k2,k3,k4,k5⟩:=awaited_waits s2 o now
    have HA:Hid (Av w wr a s o now u7 s2 l):=A
    have hgt:decide ((0:Int)<((n+1:Nat):Int))=true:=decide_eq_true (by omega)
    have hg2:decide (s2.ready≤now)=true:=decide_eq_true (by omega)
    have hvw':=hvw
    rw[hnn] at hvw'
    have HH:Hid (¬ ((s2.waits o).length=0∨now<s2.ready)):=hst
    clear A hst hr hvw
    go_wp2_with fail
    refine haw.mono ?_
    rintro e w2 ⟨vi,rfl,hI,F2,hF2⟩
    clear haw
    obtain⟨ai,ci,rfl,_⟩:=hI.shape
    by_cases hz:(s2.awaited o now).2.length≠0
    ·rw[adv_wait HH.out hz] at e1 e2
     rw[List.append_nil] at e2
     have E1:Hid ((s.advance o now).1=(s2.awaited o now).1):=e1
     have E2:Hid ((s.advance o now).2=l):=e2
     have HT:Hid (Tells w w2 a u7 (s2.awaited o now).1 l):=⟨HA.out.tel.out.fs hF2,F2,HA.out.tel.fs.trans hF2⟩
     have hz':(((s2.awaited o now).2.length:Int) == 0)=false:=by simp;exact fun q=>hz (by rw[q];rfl)
     clear e1 e2 hI F2 hF2 HA
     go_wp2_with fail
     go_ret
     rw[E1.out,E2.out]
     exact⟨_,rfl,HT.out⟩
    ·obtain⟨m,rest,hmr⟩:∃ m rest,s2.waits o=m :: rest:=by
      cases hq:s2.waits o with
      | nil=>rw[hq] at hnn;simp at hnn
      | cons m rest=>exact⟨m,rest,rfl⟩
     have hokm:=HA.out.ok m (by rw[hmr];simp)
     have hokr:∀ x∈rest,okW o x:=fun x hx=>HA.out.ok x (by rw[hmr];exact List.mem_cons_of_mem _ hx)
     have hrl:rest.length=n:=by rw[hmr] at hnn;simpa using hnn
     have hw3:(s2.awaited o now).1.waits o=m :: rest:=by rw[k1];exact hmr
     obtain⟨x,hx⟩:∃ x,(s2.awaited o now).1.commit m o=x:=⟨_,rfl⟩
     obtain⟨s5,h5⟩:∃ s5,({ x.1 with waits:=updN x.1.waits o rest }:Sv)=s5:=⟨_,rfl⟩
     have HX:Hid ((s2.awaited o now).1.commit m o=x):=hx
     have H5:Hid (({ x.1 with waits:=updN x.1.waits o rest }:Sv)=s5):=h5
     have HW3:Hid ((s2.awaited o now).1.waits o=m :: rest):=hw3
     have HZ:Hid (¬ (s2.awaited o now).2.length≠0):=hz
     have hz':(s2.awaited o now).2.length=0:=by omega
     have E1:Hid ((s.advance o now).1=(s2.adv o now ((s2.waits o).length+1)).1):=e1
     have E2:Hid ((s.advance o now).2=l++(s2.adv o now ((s2.waits o).length+1)).2):=e2
     have hO2':SvOk (s2.awaited o now).1 (1000000000000000+4*(l.length:Int)+4):=hO2
     have hv3:∀ k,(s2.awaited o now).1.vv k≤1000000000000+(l.length:Int):=fun k=>by rw[k2];exact HA.out.vv1 k
     have hl30:0≤(s2.awaited o now).1.left:=by rw[k3];exact HA.out.left0
     have hl31:(s2.awaited o now).1.left≤9223372036854775807:=by rw[k3];exact HA.out.left1
     have O2:=HA.out.tel.out.fs hF2
     have hFw:=HA.out.tel.fs.trans hF2
     clear e1 e2 hz hO2 hO hx h5 hI hF2
     rw[hz']
     clear hz'
     obtain⟨vw2,hvw2,hmw2⟩:=F2.wait o ho
     rw[hw3] at hmw2
     obtain⟨ag,cg,rfl,hg⟩:=hmw2.at
     obtain⟨g,rfl,hgS,hgs,hcell⟩:=hg (by simp)
     have hgl:(m :: rest).length=n+1:=by simp[hrl]
     rw[hgl] at hvw2
     obtain⟨mk,mc,mn,me,ms,mo,mv,ml,md⟩:=m
     obtain⟨hmo,hmc,hmn,hmd⟩:=id hokm
     dsimp only at hmo hmc hmn hmd
     subst hmo
     have q0:w2.cell? ⟨g,0,none⟩=some (.int .i64 mk):=hcell 0 0 (by simp) (by omega)
     have q1:w2.cell? ⟨g,1,none⟩=some (.int .i64 mc):=hcell 0 1 (by simp) (by omega)
     have q2:w2.cell? ⟨g,2,none⟩=some (.int .i64 mn):=hcell 0 2 (by simp) (by omega)
     have q3:w2.cell? ⟨g,3,none⟩=some (.int .i64 me):=hcell 0 3 (by simp) (by omega)
     have q4:w2.cell? ⟨g,4,none⟩=some (.int .i64 ms):=hcell 0 4 (by simp) (by omega)
     have q5:w2.cell? ⟨g,5,none⟩=some (.int .i64 o):=hcell 0 5 (by simp) (by omega)
     have q6:w2.cell? ⟨g,6,none⟩=some (.int .i64 mv):=hcell 0 6 (by simp) (by omega)
     have q7:w2.cell? ⟨g,7,none⟩=some (.bool ml):=hcell 0 7 (by simp) (by omega)
     have q8:w2.cell? ⟨g,8,none⟩=some (.string md):=hcell 0 8 (by simp) (by omega)
     have hn0:(0:Int)<((n+1:Nat):Int):=by omega
     have hc0:=Num.of_inB_true hmc
     obtain⟨s3,hs3⟩:∃ s3,(s2.awaited o now).1=s3:=⟨_,rfl⟩
     rw[hs3] at F2 HX HW3 hO2' hv3 hl30 hl31
     have HS3:Hid ((s2.awaited o now).1=s3):=hs3
     have hmay:mayB (s3.recd ⟨mk,mc,mn,me,ms,o,mv,ml,md⟩ o)=true:=okW.may hokm ho (hO2'.vv0 o) (by have:=hv3 o;omega)
     clear hs3 k1 k2 k3 k4 k5 hcell hmw2 hw3
     have F3:∀ ob,SvIs (w2.alloc ob) a s3:=fun ob=>F2.alloc ob
     have hF3:∀ ob,Fs a w (w2.alloc ob):=fun ob=>hFw.alloc F2 ob
     have hfr:∀ ob,¬ foot (w2.alloc ob) a w2.heap.size:=fun ob=>F2.fresh ((Below.refl _ _).alloc (Nat.le_refl _) ob) (Nat.le_refl _)
     have O3:∀ ob,Out w (w2.alloc ob) a u7 l:=fun ob=>O2.fs (Fs.of_below F2 ((Below.refl _ _).alloc (Nat.le_refl _) ob))
     have hBx:MB (mbox w2 mk mc mn me ms o mv ml md) w2.heap.size ⟨mk,mc,mn,me,ms,o,mv,ml,md⟩:=mbox_is w2 _ _ _ _ _ _ _ _ _
     unfold mbox at hBx
     go_wp2_with fail
     have F3':=F3 (.cells #[.int .i64 mk,.int .i64 mc,.int .i64 mn,.int .i64 me,.int .i64 ms,.int .i64 o,.int .i64 mv,.bool ml,.string md] 129)
     have hF3':=hF3 (.cells #[.int .i64 mk,.int .i64 mc,.int .i64 mn,.int .i64 me,.int .i64 ms,.int .i64 o,.int .i64 mv,.bool ml,.string md] 129)
     have hfr':=hfr (.cells #[.int .i64 mk,.int .i64 mc,.int .i64 mn,.int .i64 me,.int .i64 ms,.int .i64 o,.int .i64 mv,.bool ml,.string md] 129)
     have O3':=O3 (.cells #[.int .i64 mk,.int .i64 mc,.int .i64 mn,.int .i64 me,.int .i64 ms,.int .i64 o,.int .i64 mv,.bool ml,.string md] 129)
     have hsz3:(w2.alloc (.cells #[.int .i64 mk,.int .i64 mc,.int .i64 mn,.int .i64 me,.int .i64 ms,.int .i64 o,.int .i64 mv,.bool ml,.string md] 129)).heap.size=w2.heap.size+1:=by simp
     clear F3 hF3 hfr O3 q0 q1 q2 q3 q4 q5 q6 q7 q8 F2 hFw O2 hvw2
     generalize w2.alloc (.cells #[.int .i64 mk,.int .i64 mc,.int .i64 mn,.int .i64 me,.int .i64 ms,.int .i64 o,.int .i64 mv,.bool ml,.string md] 129)=w3 at *
     have hcm:=commit_any a s3 mk mc mn me ms mv o ml md w3 F3' ho hmay hc0.1 hl30 hl31 (hO2'.vv0 o) (by have:=hv3 o;omega) x HX
     unfold Wire.M.agg at hcm
     dsimp only at hcm
     refine hcm.mono ?_
     rintro e w4 ⟨rfl,F4,hF4⟩
     clear hcm
     have hF4':=hF3'.trans hF4
     have O4:=O3'.fs hF4
     have hB4:=hBx.fs hF4 (by omega) hfr'
     have hfr4:¬ foot w4 a w2.heap.size:=fun f=>hfr' (hF4.grows _ (by omega) f)
     have hs4:=hF4.size
     clear F3' hF3' hF4 O3' hBx hfr'
     obtain⟨s4,ver,okb⟩:=x
     dsimp only at F4 H5 ⊢
     cases okb with
     | false=>
      have ea:s2.adv o now ((s2.waits o).length+1)=(s4,[]):=by
       rw[adv_fail HH.out HZ.out (by rw[HS3.out];exact HW3.out) (by rw[HS3.out,HX.out]),HS3.out,HX.out]
      have HT:Hid (Tells w w4 a u7 s4 l):=⟨O4,F4,hF4'⟩
      have G1:Hid ((s.advance o now).1=s4):=E1.out.trans (by rw[ea])
      have G2:Hid ((s.advance o now).2=l):=E2.out.trans (by rw[ea];simp)
      clear O4 F4 hF4' hB4 ea
      go_wp2_with fail
      go_ret
      rw[G1.out,G2.out]
      exact⟨_,rfl,HT.out⟩
     | true=>
      have hw4:s4.waits=s3.waits:=by have:=(commit_keep s3 ⟨mk,mc,mn,me,ms,o,mv,ml,md⟩ o).1;rw[HX.out] at this;exact this
      have hss4:s4.ses=s3.ses:=by have:=(commit_keep s3 ⟨mk,mc,mn,me,ms,o,mv,ml,md⟩ o).2.1;rw[HX.out] at this;exact this
      have hvv4:s4.vv=s3.vv∨s4.vv=updN s3.vv o (s3.vv o+1):=by have:=(commit_keep s3 ⟨mk,mc,mn,me,ms,o,mv,ml,md⟩ o).2.2.2.2.2.2.2;rw[HX.out] at this;exact this
      have hlf4:0≤s4.left∧s4.left≤9223372036854775807:=by have:=commit_left s3 ⟨mk,mc,mn,me,ms,o,mv,ml,md⟩ o hl30 hl31;rw[HX.out] at this;exact this
      obtain⟨v4,hv4,hm4⟩:=F4.wait o ho
      rw[hw4,HW3.out] at hm4
      obtain⟨a4,c4,rfl,hg4⟩:=hm4.at
      obtain⟨g4,rfl,hgS4,hgs4,_⟩:=hg4 (by simp)
      rw[hgl] at hv4
      have hcm4:n+1≤c4∧c4≤9223372036854775807:=by
       rcases hm4.2 with ⟨q,_⟩|⟨g',cap,cur,he,_,_,hnc,hcx,_⟩
       ·cases q
       ·injection he with _ _ e3
        subst e3
        rw[hgl] at hnc
        exact⟨hnc,hcx⟩
      have hdel:Calls Tryz.prog 197 #[.slice (some ⟨g4,0,none⟩) (n+1) c4,.int .i64 0,.int .i64 1] w4.drew fun e w'=>e = .returned (.slice (some ⟨g4,0,none⟩) n c4)∧w'.ownsRow (a.S+1) 129 9 (.slice (some ⟨g4,0,none⟩) n c4) n (mcells rest)∧w4.drew.grownBy w' (some g4):=by
       have q:=delM_any (a.S+1) g4 c4 (⟨mk,mc,mn,me,ms,o,mv,ml,md⟩ :: rest) 0 w4.drew (by simp) (by rw[hgl];omega) (by rw[hgl];exact hcm4.1) hcm4.2 hm4
       rw[hgl,Nat.add_sub_cancel] at q
       exact q
      go_wp2_with fail
      refine Gen.start (S:=fun w'=>w'.cell? ⟨a.S,48+o,none⟩=some (.slice (some ⟨g4,0,none⟩) (n+1) c4)) (by kernel_rfl) hv4 (fun hHeld=>?_)
      refine Gen.tk 0 9 ?_ rfl rfl (Or.inl ⟨by rfl,?_⟩) hHeld ?_
      rotate_left
      ·intro w' hSw
       go_simp
       try with_reducible rfl
      go_frame
      refine Gen.tk 1 11 ?_ rfl rfl (Or.inl ⟨by rfl,?_⟩) hHeld ?_
      rotate_left
      ·intro w' hSw
       go_simp
       try with_reducible rfl
      go_frame
      refine Gen.tk 2 4 ?_ rfl rfl (Or.inl ⟨by rfl,?_⟩) hHeld ?_
      rotate_left
      ·intro w' hSw
       go_simp
       try with_reducible rfl
      go_frame
      refine Gen.tk 3 6 ?_ rfl rfl (Or.inl ⟨by rfl,?_⟩) hHeld ?_
      rotate_left
      ·intro w' hSw
       go_simp
       try with_reducible rfl
      go_frame
      refine Gen.tk 4 5 ?_ rfl rfl (Or.inl ⟨by rfl,?_⟩) hHeld ?_
      rotate_left
      ·intro w' hSw
       go_simp
       try with_reducible rfl
      go_frame
      refine Gen.tk 5 6 ?_ rfl rfl (Or.inl ⟨by rfl,?_⟩) hHeld ?_
      rotate_left
      ·intro w' hSw
       go_simp
       try with_reducible rfl
      go_frame
      refine Gen.tk 6 7 ?_ rfl rfl (Or.inl ⟨by rfl,?_⟩) hHeld ?_
      rotate_left
      ·intro w' hSw
       go_simp
       try with_reducible rfl
      go_frame
      refine Gen.tk 7 8 ?_ rfl rfl (Or.inl ⟨by rfl,?_⟩) hHeld ?_
      rotate_left
      ·intro w' hSw
       go_simp
       try with_reducible rfl
      go_frame
      refine Gen.tk 9 10 ?_ rfl rfl (Or.inl ⟨by rfl,?_⟩) hHeld ?_
      rotate_left
      ·intro w' hSw
       go_simp
       try with_reducible rfl
      go_frame
      refine Gen.tk 10 11 ?_ rfl rfl (Or.inl ⟨by rfl,?_⟩) hHeld ?_
      rotate_left
      ·intro w' hSw
       go_simp
       try with_reducible rfl
      go_frame
      refine Gen.one (i:=8) (by kernel_rfl) rfl rfl (fun K hK=>?_)
      go_simp
      refine hdel.mono ?_
      rintro e w5 ⟨rfl,hrow5,hg5⟩
      dsimp only
      have hl4:=F4.lts
      have eS5:w5.heap[a.S]?=w4.heap[a.S]?:=hg5.block a.S (by show _<w4.heap.size;omega) (fun q=>by injection q with q;omega)
      have hc5:w5.cell? ⟨a.S,48+o,none⟩=some (.slice (some ⟨g4,0,none⟩) (n+1) c4):=(World.cell?_of_block (a:=⟨a.S,48+o,none⟩) eS5).trans hv4
      have hf5:w5.frozen? ⟨a.S,48+o,none⟩=false:=(World.frozen?_of_block (a:=⟨a.S,48+o,none⟩) eS5).trans (F4.free _)
      refine hK.out _ _ hc5 (fun hHeld=>?_)
      clear hK K hdel
      try go_frame
      refine Gen.tk 11 12 ?_ rfl rfl (Or.inl ⟨by rfl,?_⟩) hHeld ?_
      rotate_left
      ·intro w' hSw
       go_simp
       try with_reducible rfl
      go_frame
      refine Gen.last (i:=12) (by kernel_rfl) rfl rfl (by kernel_rfl) (by kernel_rfl) (fun K hK=>?_)
      go_simp
      refine hK.out _ _ ?_
      clear hK K hHeld
      have hM5:HasM w5 (a.S+1) (.slice (some ⟨g4,0,none⟩) n c4) rest:=by unfold HasM;rw[hrl];exact hrow5
      obtain⟨R1,R2⟩:=F4.drew.rowed ho hv4 hg5 hM5 (by omega) (fun b hb=>.inl hb)
      rw[H5.out] at R1
      have R3:Fs a w4 (w5.setCell ⟨a.S,48+o,none⟩ (.slice (some ⟨g4,0,none⟩) n c4)):=(Fs.refl _ _).drew.trans R2
      have hF6:=hF4'.trans R3
      have O6:=O4.fs R3
      have hB6:=hB4.fs R3 (by omega) hfr4
      have hs6:=R3.size
      have ea:s2.adv o now ((s2.waits o).length+1)=((s5.adv o now (n+1)).1,s5.doneM ⟨mk,mc,mn,me,ms,o,mv,ml,md⟩ ver :: (s5.adv o now (n+1)).2):=by
       have q:=adv_go (f:=(s2.waits o).length) HH.out HZ.out (by rw[HS3.out];exact HW3.out) (by rw[HS3.out,HX.out];simp) (x:=(s4,ver,true)) (by rw[HS3.out];exact HX.out) H5.out
       rw[hnn] at q ⊢
       exact q
      have h5w:s5.waits o=rest:=by rw[← H5.out];exact updN_same _ _ _
      have h5s:∀ c,s5.ses c≤1000000000000000+4*(l.length:Int)+4:=fun c=>by rw[← H5.out];show s4.ses c≤_;rw[hss4];exact hO2'.ses c
      have h5v:∀ k,0≤s5.vv k∧s5.vv k≤1000000000000+(l.length:Int)+1:=fun k=>by
       rw[← H5.out]
       show 0≤s4.vv k∧s4.vv k≤_
       have v1:=hv3 k
       have v2:=hO2'.vv0 k
       have v3:=hv3 o
       have v4:=hO2'.vv0 o
       rcases hvv4 with q|q
       ·rw[q];omega
       ·rw[q]
        unfold updN
        split<;>omega
      have h5l:0≤s5.left∧s5.left≤9223372036854775807:=by rw[← H5.out];exact hlf4
      clear R2 R3 hM5 hrow5 hg5 hc5 hf5 eS5 hl4 hB4 hfr4 O4 hF4' F4 hv4 hm4 hcm4 hg4
      generalize w5.setCell ⟨a.S,48+o,none⟩ (.slice (some ⟨g4,0,none⟩) n c4)=w6 at *
      have z0:=hB6.c0
      have z1:=hB6.c1
      have z2:=hB6.c2
      have z3:=hB6.c3
      have z4:=hB6.c4
      have z5:=hB6.c5
      have z6:=hB6.c6
      have z7:=hB6.c7
      have z8:=hB6.c8
      dsimp only at z0 z1 z2 z3 z4 z5 z6 z7 z8
      have hdn:=done_any a s5 ⟨mk,mc,mn,me,ms,o,mv,ml,md⟩ ver w6 R1 hc0.1
      obtain⟨md5,hmd5⟩:∃ md5,s5.doneM ⟨mk,mc,mn,me,ms,o,mv,ml,md⟩ ver=md5:=⟨_,rfl⟩
      rw[hmd5] at hdn ea
      have EA:Hid (s2.adv o now ((s2.waits o).length+1)=((s5.adv o now (n+1)).1,md5 :: (s5.adv o now (n+1)).2)):=ea
      unfold Wire.M.agg at hdn
      dsimp only at hdn
      rw[show (.agg #[.int .i64 md5.k,.int .i64 md5.c,.int .i64 md5.n,.int .i64 md5.e,.int .i64 md5.s,.int .i64 md5.o,.int .i64 md5.v,.bool md5.l,.string md5.d]:Value)=Wire.M.agg md5 from rfl] at hdn
      clear hmd5 ea hB6
      go_wp2_with fail
      refine hdn.mono ?_
      rintro e w7 ⟨rfl,hb7⟩
      clear hdn z0 z1 z2 z3 z4 z5 z6 z7 z8
      have F7:=R1.below hb7
      have hF7:=hF6.below R1 hb7
      have O7:=O6.fs (Fs.of_below R1 hb7)
      have hs7:=hF7.size
      clear R1 hF6 O6 hb7
      obtain⟨av,cv,hav,hcv,_⟩:=Net.row_shape O7.own
      subst hav
      go_wp2_with (first|refine wpList_oneMsg rfl 67 rfl md5 rfl ?_|(at_builtin;refine App.wpList_append_at rfl _ _ 141 rfl w.heap.size 129 i0 (.agg #[.int .i64 0,.int .i64 0,.int .i64 0,.int .i64 0,.int .i64 0,.int .i64 0,.int .i64 0,.bool false,.string ⟨#[]⟩]) 9 80 Tryz.underlying141 hi hy0 hy1 hy2 rfl (by decide) _ _ _ rfl (O7.own.alloc _) ⟨w7.heap.size,0,none⟩ 1 1 (mcell md5) rfl rfl (msg_made w7 md5) (mcell_one _) ?r3 ?r4 ?r5 ?_))
      case r3=>unfold maxLen;omega
      case r4=>omega
      case r5=>simp;omega
      intro v8 w8 hown8 hg8 hat8
      obtain⟨O8,F8,hF8⟩:=O7.app F7 hF7 hown8 hg8 hat8
      have hmeas:Hid (lenAt w8 a o<lenAt wr a o):=by
       obtain⟨v9,hv9,hm9⟩:=F8.wait o ho
       obtain⟨a9,c9,rfl,_,_⟩:=Net.row_shape hm9
       have q1:=lenAt_eq hv9
       have q2:=lenAt_eq hvw'
       rw[h5w,hrl] at q1
       show lenAt w8 a o<lenAt wr a o
       omega
      have HAv:Hid (Av w w8 a s o now v8 s5 (l++[md5])):=by
       refine⟨⟨O8,F8,hF8⟩,?_,?_,?_,?_,fun c=>?_,fun k=>(h5v k).1,fun k=>?_,h5l.1,h5l.2⟩
       ·rw[h5w,hrl];simp;omega
       ·rw[h5w,hrl,E1.out,EA.out]
       ·rw[h5w,hrl,E2.out,EA.out];simp
       ·rw[h5w];exact hokr
       ·have:=h5s c;simp;omega
       ·have:=(h5v k).2;simp;omega
      clear O7 O8 F7 F8 hF7 hF8 hown8 hg8 hat8
      go_wp2_with fail
      go_roundw
      case rel=>exact⟨s5,l++[md5],HAv.out⟩
      case measure=>exact hmeas.out
end Wld
end
section
namespace Wld
open Go.RowKit Go.Maps
open Lease (Ob I64 upd TabIs hol dels objB HasI kk)
open Cache (tp row_kept row_below)
open Wal (R mayB timeB)
open Num (M)
def Sv.dropped(s:Sv)(c:Nat)(o:Nat):Sv:={ s with D:=s.D.del (kk c o) }
def Sv.release(s:Sv)(m:M)(o:Nat)(now:Int):Sv×List M:=
 if m.e=s.epoch∧m.v=s.vv o+1 then (s.dropped (seatN m.c) o).advance o now else (s,[])
theorem release_no(a:Ad)(s:Sv)(mk mc mn me ms mv:Int)(o:Nat)(ml:Bool)(md:ByteArray)(now:Int)(w:World)(h:SvIs w a s)(ho:o<8)(hv0:0≤s.vv o)(hv1:s.vv o≤1000000000000)(hn:¬ (me=s.epoch∧mv=s.vv o+1)) :
  Calls Tryz.prog 188 #[tp a.S,Wire.M.agg ⟨mk,mc,mn,me,ms,o,mv,ml,md⟩,.int .i64 now] w fun e w'=>∃ v,e = .returned v∧Tells w w' a v s []:=by
 have hB:MB (mbox w mk mc mn me ms o mv ml md) w.heap.size ⟨mk,mc,mn,me,ms,o,mv,ml,md⟩:=mbox_is w _ _ _ _ _ _ _ _ _
 have F:SvIs (mbox w mk mc mn me ms o mv ml md) a s:=h.alloc _
 have hF:Fs a w (mbox w mk mc mn me ms o mv ml md):=(Fs.refl _ _).alloc h _
 have ho0:(0:Int)≤(o:Int):=by omega
 have ho8:(o:Int)<8:=by omega
 have HN:Hid (¬ (me=s.epoch∧mv=s.vv o+1)):=hn
 unfold mbox at *
 unfold Wire.M.agg
 dsimp only
 clear h hn
 go_enter Tryz.func188,Tryz.ntmps188
 go_wp2_with fail
 generalize w.alloc (.cells #[.int .i64 mk,.int .i64 mc,.int .i64 mn,.int .i64 me,.int .i64 ms,.int .i64 o,.int .i64 mv,.bool ml,.string md] 129)=w1 at *
 have b3:=hB.c3
 have b5:=hB.c5
 have b6:=hB.c6
 dsimp only at b3 b5 b6
 have c5:=F.c5
 have cv:=F.vv o ho
 by_cases h1:me=s.epoch
 ·have h2:¬ mv=s.vv o+1:=fun q=>HN.out ⟨h1,q⟩
  have g2:(mv != s.vv o+1)=true:=by simpa using h2
  subst h1
  clear h2
  go_quiet (fail)
  go_wp2_with fail
  go_ret
  exact⟨_,rfl,Out.nil _ _ _,F.drewN _,hF.drewN _⟩
 ·have g1:(me != s.epoch)=true:=by simpa using h1
  clear h1
  go_quiet (fail)
  go_wp2_with fail
  go_ret
  exact⟨_,rfl,Out.nil _ _ _,F.drewN _,hF.drewN _⟩
theorem release_yes(a:Ad)(s:Sv)(mk mc mn ms:Int)(o:Nat)(ml:Bool)(md:ByteArray)(now:Int)(w:World)(h:SvIs w a s)(ho:o<8)(hc:0≤mc)(hok:∀ m∈s.waits o,okW o m)(hses:∀ c,s.ses c≤1000000000000000)(hv0:∀ k,0≤s.vv k)(hv1:∀ k,s.vv k≤1000000000000)(hl0:0≤s.left)(hl1:s.left≤9223372036854775807) :
  Calls Tryz.prog 188 #[tp a.S,Wire.M.agg ⟨mk,mc,mn,s.epoch,ms,o,s.vv o+1,ml,md⟩,.int .i64 now] w fun e w'=>∃ v,e = .returned v∧Tells w w' a v ((s.dropped (seatN mc) o).advance o now).1 ((s.dropped (seatN mc) o).advance o now).2:=by
 have hB:MB (mbox w mk mc mn s.epoch ms o (s.vv o+1) ml md) w.heap.size ⟨mk,mc,mn,s.epoch,ms,o,s.vv o+1,ml,md⟩:=mbox_is w _ _ _ _ _ _ _ _ _
 have F:SvIs (mbox w mk mc mn s.epoch ms o (s.vv o+1) ml md) a s:=h.alloc _
 have hF:Fs a w (mbox w mk mc mn s.epoch ms o (s.vv o+1) ml md):=(Fs.refl _ _).alloc h _
 have hfr:¬ foot (mbox w mk mc mn s.epoch ms o (s.vv o+1) ml md) a w.heap.size:=h.fresh ((Below.refl _ _).alloc (Nat.le_refl _) _) (Nat.le_refl _)
 have hsz:(mbox w mk mc mn s.epoch ms o (s.vv o+1) ml md).heap.size=w.heap.size+1:=by simp
 have ho0:(0:Int)≤(o:Int):=by omega
 have ho8:(o:Int)<8:=by omega
 have v0:=hv0 o
 have v1:=hv1 o
 unfold mbox at *
 unfold Wire.M.agg
 dsimp only
 clear h
 go_enter Tryz.func188,Tryz.ntmps188
 go_wp2_with fail
 generalize w.alloc (.cells #[.int .i64 mk,.int .i64 mc,.int .i64 mn,.int .i64 s.epoch,.int .i64 ms,.int .i64 o,.int .i64 (s.vv o+1),.bool ml,.string md] 129)=w1 at *
 have b3:=hB.c3
 have b5:=hB.c5
 have b6:=hB.c6
 dsimp only at b3 b5 b6
 have c5:=F.c5
 have cv:=F.vv o ho
 go_quiet (fail)
 go_wp2_with fail
 generalize hW:w1.drewN _=W
 have F2:SvIs W a s:=by rw[← hW];exact F.drewN _
 have hF2:Fs a w W:=by rw[← hW];exact hF.drewN _
 have hB2:MB W w.heap.size ⟨mk,mc,mn,s.epoch,ms,o,s.vv o+1,ml,md⟩:=by rw[← hW];exact⟨hB.c0,hB.c1,hB.c2,hB.c3,hB.c4,hB.c5,hB.c6,hB.c7,hB.c8⟩
 have hfr2:¬ foot W a w.heap.size:=by rw[← hW];exact hfr
 have hs2:W.heap.size=w.heap.size+1:=by rw[← hW];exact hsz
 clear hW F hF hB b3 b5 b6 c5 cv hfr hsz
 have c47:=F2.c47
 have b1:=hB2.c1
 have b5:=hB2.c5
 dsimp only at b1 b5
 have hsl:=seatN_lt mc
 have hseat:=fun w=>seat_any mc w hc
 have hdr:=Lease.drop_any a.T a.m s.n (seatN mc:Nat) o s.D s.vol s.ses W.drew F2.drew.tab ⟨by omega,by omega⟩ ⟨by omega,by omega⟩
 refine Gen.start (S:=fun w'=>w'.cell? ⟨a.S,47,none⟩=some (tp a.T)∧w'.cell? ⟨w.heap.size,1,none⟩=some (.int .i64 mc)∧w'.cell? ⟨w.heap.size,5,none⟩=some (.int .i64 o)) (by kernel_rfl) ⟨c47,b1,b5⟩ (fun hHeld=>?_)
 refine Gen.tk 0 1 ?_ rfl rfl (Or.inl ⟨by rfl,?_⟩) hHeld ?_;rotate_left
 ·rintro w' ⟨s0,s1,s2⟩;go_simp;try with_reducible rfl
 go_frame
 refine Gen.tk 1 2 ?_ rfl rfl (Or.inl ⟨by rfl,?_⟩) hHeld ?_;rotate_left
 ·rintro w' ⟨s0,s1,s2⟩;go_simp;try with_reducible rfl
 go_frame
 refine Gen.tk 2 3 ?_ rfl rfl (Or.inl ⟨by rfl,?_⟩) hHeld ?_;rotate_left
 ·rintro w' ⟨s0,s1,s2⟩;go_simp;try with_reducible rfl
 go_frame
 refine Gen.tk 3 9 ?_ rfl rfl (Or.inl ⟨by rfl,?_⟩) hHeld ?_;rotate_left
 ·rintro w' ⟨s0,s1,s2⟩;go_simp;try with_reducible rfl
 go_frame
 refine Gen.tk 4 5 ?_ rfl rfl (Or.inl ⟨by rfl,?_⟩) hHeld ?_;rotate_left
 ·rintro w' ⟨s0,s1,s2⟩;go_simp;try with_reducible rfl
 go_frame
 refine Gen.tk 5 6 ?_ rfl rfl (Or.inl ⟨by rfl,?_⟩) hHeld ?_;rotate_left
 ·rintro w' ⟨s0,s1,s2⟩;go_simp;try with_reducible rfl
 go_frame
 refine Gen.tk 7 8 ?_ rfl rfl (Or.inl ⟨by rfl,?_⟩) hHeld ?_;rotate_left
 ·rintro w' ⟨s0,s1,s2⟩;go_simp;try with_reducible rfl
 go_frame
 refine Gen.tk 8 9 ?_ rfl rfl (Or.inl ⟨by rfl,?_⟩) hHeld ?_;rotate_left
 ·rintro w' ⟨s0,s1,s2⟩;go_simp;try with_reducible rfl
 go_frame
 refine Gen.one (i:=6) (by kernel_rfl) rfl rfl (fun K hK=>?_)
 go_simp
 refine(hseat _).mono ?_
 rintro e w2 ⟨rfl,hw2⟩
 rw[hw2]
 clear hw2
 dsimp only
 refine hK.out _ _ ⟨c47,b1,b5⟩ (fun hHeld=>?_)
 clear hK K
 try go_frame
 refine Gen.last (i:=9) (by kernel_rfl) rfl rfl (by kernel_rfl) (by kernel_rfl) (fun K hK=>?_)
 go_simp
 refine hdr.mono ?_
 rintro e w3 ⟨rfl,hT3,hO3⟩
 dsimp only
 refine hK.out _ _ ?_
 clear hK K hHeld hdr
 have hO3':Ob [a.T,a.m] W.drew w3:=hO3.mono (by simp)
 have F3:SvIs w3 a (s.dropped (seatN mc) o):=F2.drew.table hT3 hO3'
 have hF3:Fs a w w3:=hF2.drew.ob F2.drew hO3'
 have hF23:Fs a W.drew w3:=(Fs.refl _ _).ob F2.drew hO3'
 have hB3:MB w3 w.heap.size ⟨mk,mc,mn,s.epoch,ms,o,s.vv o+1,ml,md⟩:=MB.fs (w:=W.drew) ⟨hB2.c0,hB2.c1,hB2.c2,hB2.c3,hB2.c4,hB2.c5,hB2.c6,hB2.c7,hB2.c8⟩ hF23 (by show _<W.heap.size;omega) hfr2
 have b5:=hB3.c5
 dsimp only at b5
 have had:=advance_any a (s.dropped (seatN mc) o) o now w3 F3 ho hok hses hv0 hv1 hl0 hl1
 clear hT3 hO3 hO3' F2 hF2 hB2 hF23 c47 b1 hseat hB3
 go_wp2_with fail
 refine had.mono ?_
 rintro e w4 ⟨v4,rfl,T4⟩
 go_wp2_with fail
 go_ret
 have hs3:=hF3.size
 exact⟨_,rfl,⟨T4.out.own.mono hs3,T4.out.sep⟩,T4.sv,hF3.trans T4.fs⟩
theorem release_any(a:Ad)(s:Sv)(mk mc mn me ms mv:Int)(o:Nat)(ml:Bool)(md:ByteArray)(now:Int)(w:World)(h:SvIs w a s)(ho:o<8)(hc:0≤mc)(hok:∀ m∈s.waits o,okW o m)(hses:∀ c,s.ses c≤1000000000000000)(hv0:∀ k,0≤s.vv k)(hv1:∀ k,s.vv k≤1000000000000)(hl0:0≤s.left)(hl1:s.left≤9223372036854775807) :
  Calls Tryz.prog 188 #[tp a.S,Wire.M.agg ⟨mk,mc,mn,me,ms,o,mv,ml,md⟩,.int .i64 now] w fun e w'=>∃ v,e = .returned v∧Tells w w' a v (s.release ⟨mk,mc,mn,me,ms,o,mv,ml,md⟩ o now).1 (s.release ⟨mk,mc,mn,me,ms,o,mv,ml,md⟩ o now).2:=by
 unfold Sv.release
 dsimp only
 by_cases hn:me=s.epoch∧mv=s.vv o+1
 ·rw[if_pos hn]
  obtain⟨rfl,rfl⟩:=hn
  exact release_yes a s mk mc mn ms o ml md now w h ho hc hok hses hv0 hv1 hl0 hl1
 ·rw[if_neg hn]
  exact release_no a s mk mc mn me ms mv o ml md now w h ho (hv0 o) (hv1 o) hn
end Wld
end
end Go.Proofs.YtbebfliimjjohabGreatDoor
