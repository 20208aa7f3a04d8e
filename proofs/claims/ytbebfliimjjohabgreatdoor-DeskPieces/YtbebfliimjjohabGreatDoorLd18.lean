/- Parts of the proof. -/
import Derived.Test.YtbebfliimjjohabGreatDoorLd17
import Derived.Test.YtbebfliimjjohabGreatDoorLd15
set_option maxRecDepth 100000
set_option maxHeartbeats 8000000
namespace Go.Proofs.YtbebfliimjjohabGreatDoor
section
namespace Wld
open Go.RowKit Go.Maps
open Lease (upd hol dels mx kk)
open Wal (R mayB timeB)
open Num (M)
structure SvB(s:Sv)(B:Nat):Prop where
 ses0:∀ c,0≤s.ses c
 ses:∀ c,s.ses c≤B
 n:s.n≤B
 vv0:∀ o,0≤s.vv o
 vv1:∀ o,s.vv o≤s.rs.length
 len:s.rs.length≤200
 wok:∀ o m,m∈s.waits o→okW o m
 wlen:∀ o,(s.waits o).length≤10
 left0:0≤s.left
 left1:s.left≤9223372036854775807
 recs:∀ r∈s.rs,0≤r.v∧r.v≤s.rs.length∧0≤r.e∧r.e≤s.rs.length∧r.d.size≤20
 ep0:0≤s.epoch
 ep1:s.epoch≤201
 vdl:∀ o,(s.vd o).size≤20
theorem SvB.mono{s:Sv}{B C:Nat}(h:SvB s B)(hB:B≤C):SvB s C:=⟨h.ses0,fun c=>by have:=h.ses c;omega,by have:=h.n;omega,h.vv0,h.vv1,h.len,h.wok,h.wlen,h.left0,h.left1,h.recs,h.ep0,h.ep1,h.vdl⟩
theorem SvB.ok{s:Sv}{B:Nat}(h:SvB s B)(hB:B≤1000000000000000):SvOk s 1000000000000000:=⟨fun c=>by have:=h.ses c;omega,h.vv0,fun o=>by have:=h.vv1 o;have:=h.len;omega⟩
theorem SvB.flushed{s:Sv}{B:Nat}(h:SvB s B)(c:Int):SvB (s.flushed c) (B+1):=
 ⟨fun d=>by
  have h1:=h.ses0 d
  have h2:=h.ses0 c
  show 0≤upd s.ses c (s.ses c+1) d
  unfold Lease.upd
  split<;>omega,fun d=>by
  have h1:=h.ses d
  have h2:=h.ses c
  show upd s.ses c (s.ses c+1) d≤_
  unfold Lease.upd
  split<;>omega,by have:=h.n;show s.n≤_;omega,h.vv0,h.vv1,h.len,h.wok,h.wlen,h.left0,h.left1,h.recs,h.ep0,h.ep1,h.vdl⟩
theorem SvB.await(now:Int):∀ (cs:List Int) {s:Sv} {B:Nat},SvB s B→SvB (s.await now cs).1 (B+cs.length)∧(s.await now cs).2.length≤cs.length
 | [],s,B,h=>⟨h,by simp[await_nil]⟩
 | c :: cs,s,B,h=>by
  rw[await_cons]
  split
  ·obtain⟨k1,k2⟩:=SvB.await now cs h
   exact⟨k1.mono (by simp),by simp;omega⟩
  ·obtain⟨k1,k2⟩:=SvB.await now cs (h.flushed c)
   exact⟨k1.mono (by simp;omega),by simp;omega⟩
theorem SvB.awaited{s:Sv}{B:Nat}(h:SvB s B)(o:Nat)(now:Int):SvB (s.awaited o now).1 (B+4)∧(s.awaited o now).2.length≤4:=by
 unfold Sv.awaited
 split
 ·exact⟨h.mono (by omega),by simp⟩
 ·obtain⟨k1,k2⟩:=SvB.await now (hol s.D o now 4) h
  have hl:=Lease.hol_le s.D o now 4
  exact⟨k1.mono (by omega),by omega⟩
theorem SvB.remind{s:Sv}{B:Nat}(h:SvB s B)(seat now:Int):∀ k,SvB (s.remindN seat now k).1 (B+4*k)∧(s.remindN seat now k).2.length≤k
 | 0=>⟨h,by simp[Sv.remindN]⟩
 | k+1=>by
  obtain⟨h1,h2⟩:=SvB.remind h seat now k
  obtain⟨h3,_⟩:=h1.awaited k now
  refine⟨h3.mono (by omega),?_⟩
  show ((s.remindN seat now k).2++_).length≤_
  rw[List.length_append]
  split<;>simp<;>omega
theorem applied_rs(s:Sv)(r:R):(s.applied r).rs=s.rs:=by
 unfold Sv.applied
 split
 ·rfl
 ·split<;>rfl
theorem applied_vd(s:Sv)(r:R)(h:¬ r.o<0):(s.applied r).vd=updN s.vd r.o.toNat r.d:=by
 unfold Sv.applied
 rw[if_neg h]
 split<;>rfl
theorem SvB.commit{s:Sv}{B:Nat}(h:SvB s B)(m:M)(o:Nat)(hmd:m.d.size≤20):SvB (s.commit m o).1 B:=by
 obtain⟨k1,k2,k3,k4,k5,k6,k7,_⟩:=commit_keep s m o
 obtain⟨l0,l1⟩:=commit_left s m o h.left0 h.left1
 have hrs:(s.commit m o).1.rs.length≤200∧(∀ x,0≤(s.commit m o).1.vv x∧(s.commit m o).1.vv x≤(s.commit m o).1.rs.length∧((s.commit m o).1.vd x).size≤20)∧∀ r∈(s.commit m o).1.rs,0≤r.v∧r.v≤(s.commit m o).1.rs.length∧0≤r.e∧r.e≤(s.commit m o).1.rs.length∧r.d.size≤20:=by
  have hl:=h.len
  unfold Sv.commit Sv.add
  by_cases h1:s.down=true
  ·rw[if_pos h1]
   exact⟨hl,fun x=>⟨h.vv0 x,h.vv1 x,h.vdl x⟩,h.recs⟩
  ·rw[if_neg h1]
   by_cases h2:s.rs.length=200
   ·rw[if_pos h2]
    exact⟨hl,fun x=>⟨h.vv0 x,h.vv1 x,h.vdl x⟩,h.recs⟩
   ·rw[if_neg h2]
    by_cases h3:s.fails=true∧s.left=0
    ·rw[if_pos h3]
     exact⟨hl,fun x=>⟨h.vv0 x,h.vv1 x,h.vdl x⟩,h.recs⟩
    ·rw[if_neg h3]
     dsimp only
     rw[if_pos rfl]
     dsimp only
     have ho:¬ (s.recd m o).o<0:=by show ¬ (o:Int)<0;omega
     have hoN:(s.recd m o).o.toNat=o:=by show ((o:Int)).toNat=o;omega
     have key:∀ x,0≤updN s.vv o (s.vv o+1) x∧updN s.vv o (s.vv o+1) x≤((s.rs++[s.recd m o]).length:Int)∧(updN s.vd o m.d x).size≤20:=fun x=>by
      have vd:=h.vdl x
      have v0:=h.vv0 x
      have v1:=h.vv1 x
      have v2:=h.vv0 o
      have v3:=h.vv1 o
      unfold updN
      refine⟨?_,?_,?_⟩
      ·split<;>omega
      ·split<;>simp<;>omega
      ·split<;>assumption
     have krec:∀ r∈s.rs++[s.recd m o],0≤r.v∧r.v≤((s.rs++[s.recd m o]).length:Int)∧0≤r.e∧r.e≤((s.rs++[s.recd m o]).length:Int)∧r.d.size≤20:=fun r hr=>by
      rcases List.mem_append.1 hr with q|q
      ·have:=h.recs r q
       simp
       omega
      ·rw[List.mem_singleton.1 q]
       have v2:=h.vv0 o
       have v3:=h.vv1 o
       show 0≤s.vv o+1∧s.vv o+1≤_∧(0:Int)≤0∧(0:Int)≤_∧m.d.size≤20
       simp
       omega
     obtain⟨y,hy⟩:∃ y:Sv,y = { s with rs:=s.rs++[s.recd m o],left:=if s.fails=true then s.left-1 else s.left }:=⟨_,rfl⟩
     rw[← hy]
     obtain⟨_,_,_,b4,_⟩:=applied_keep y (s.recd m o) ho
     rw[applied_rs,b4,hoN,applied_vd _ _ ho,hoN]
     have e1:y.rs=s.rs++[s.recd m o]:=by rw[hy]
     have e2:y.vv=s.vv:=by rw[hy]
     have e3:y.vd=s.vd:=by rw[hy]
     rw[e1,e2,e3]
     exact⟨by simp;omega,key,krec⟩
 exact⟨fun c=>by rw[k2];exact h.ses0 c,fun c=>by rw[k2];exact h.ses c,by rw[k7];exact h.n,fun x=>(hrs.2.1 x).1,fun x=>(hrs.2.1 x).2.1,hrs.1,by rw[k1];exact h.wok,by rw[k1];exact h.wlen,l0,l1,hrs.2.2,by rw[k4];exact h.ep0,by rw[k4];exact h.ep1,fun x=>(hrs.2.1 x).2.2⟩
theorem SvB.rest{s:Sv}{B:Nat}(h:SvB s B){o:Nat}{m:M}{rest:List M}(hm:s.waits o=m :: rest):SvB { s with waits:=updN s.waits o rest } B:=
 ⟨h.ses0,h.ses,h.n,h.vv0,h.vv1,h.len,fun x y hy=>by
  have hy':y∈updN s.waits o rest x:=hy
  unfold updN at hy'
  split at hy'
  ·rename_i e;subst e;exact h.wok x y (by rw[hm];exact List.mem_cons_of_mem _ hy')
  ·exact h.wok x y hy',fun x=>by
  show (updN s.waits o rest x).length≤10
  unfold updN
  split
  ·have:=h.wlen o;rw[hm] at this;simp at this;omega
  ·exact h.wlen x,h.left0,h.left1,h.recs,h.ep0,h.ep1,h.vdl⟩
theorem SvB.adv(o:Nat)(now:Int):∀ (f:Nat) {s:Sv} {B:Nat},SvB s B→SvB (s.adv o now f).1 (B+4*f)∧(s.adv o now f).2.length+((s.adv o now f).1.waits o).length≤(s.waits o).length
 | 0,s,B,h=>⟨h,by simp[Sv.adv]⟩
 | f+1,s,B,h=>by
  unfold Sv.adv
  split
  ·exact⟨h.mono (by omega),by simp⟩
  ·obtain⟨h1,_⟩:=h.awaited o now
   obtain⟨e1,_⟩:=awaited_waits s o now
   split
   ·exact⟨h1.mono (by omega),by simp[e1]⟩
   ·split
    ·exact⟨h1.mono (by omega),by simp[e1]⟩
    ·rename_i m rest hm
     have h2:=h1.commit m o (h1.wok o m (by rw[hm];exact List.mem_cons_self ..)).2.2.2
     obtain⟨k1,_⟩:=commit_keep (s.awaited o now).1 m o
     split
     ·exact⟨h2.mono (by omega),by simp[k1,e1]⟩
     ·have h3:=h2.rest (o:=o) (m:=m) (rest:=rest) (by rw[k1];exact hm)
      obtain⟨g1,g2⟩:=SvB.adv o now f h3
      refine⟨g1.mono (by omega),?_⟩
      dsimp only
      rw[← e1,hm]
      simp only[List.length_cons]
      rw[show ({ ((s.awaited o now).1.commit m o).1 with waits:=updN ((s.awaited o now).1.commit m o).1.waits o rest }:Sv).waits o=rest from updN_same _ _ _] at g2
      omega
theorem SvB.advance{s:Sv}{B:Nat}(h:SvB s B)(o:Nat)(now:Int):SvB (s.advance o now).1 (B+44)∧(s.advance o now).2.length≤10:=by
 have hl:=h.wlen o
 obtain⟨h1,h2⟩:=SvB.adv o now ((s.waits o).length+1) h
 exact⟨h1.mono (by omega),by unfold Sv.advance;omega⟩
theorem SvB.dropped{s:Sv}{B:Nat}(h:SvB s B)(c o:Nat):SvB (s.dropped c o) B:=⟨h.ses0,h.ses,h.n,h.vv0,h.vv1,h.len,h.wok,h.wlen,h.left0,h.left1,h.recs,h.ep0,h.ep1,h.vdl⟩
theorem SvB.enq{s:Sv}{B:Nat}(h:SvB s B){m:M}{o:Nat}(hm:okW o m):SvB (s.enq m o).1 B:=by
 unfold Sv.enq
 split
 ·exact h
 ·split
  ·exact h
  ·rename_i hl
   refine⟨h.ses0,h.ses,h.n,h.vv0,h.vv1,h.len,fun x y hy=>?_,fun x=>?_,h.left0,h.left1,h.recs,h.ep0,h.ep1,h.vdl⟩
   ·have hy':y∈updN s.waits o (s.waits o++[m]) x:=hy
    unfold updN at hy'
    split at hy'
    ·rename_i e
     subst e
     rcases List.mem_append.1 hy' with q|q
     ·exact h.wok x y q
     ·rw[List.mem_singleton.1 q];exact hm
    ·exact h.wok x y hy'
   ·show (updN s.waits o (s.waits o++[m]) x).length≤10
    unfold updN
    split
    ·simp;omega
    ·exact h.wlen x
def lentB(D:Lease.Dat)(c o:Int):Int:=match D.atKey (kk c o) (Lease.num 0) with
 | .lit (.int _ x)=>x
 | _=>0
def Sv.valueM(s:Sv)(m:M)(o:Nat):M:=⟨5,m.c,m.n,s.epoch,s.ses (seatN m.c:Nat),o,s.vv o,decide ((s.waits o).length=0),s.vd o⟩
def Sv.lent(s:Sv)(m:M)(o:Nat)(now:Int):Sv:=if (s.waits o).length=0 then { s with D:=s.D.put (kk (seatN m.c:Nat) o) (Lease.num (mx (lentB s.D (seatN m.c:Nat) o) (now+s.to))),n:=s.n+1 } else s
def Sv.readS(s:Sv)(m:M)(o:Nat)(now:Int):Sv×List M:=(s.lent m o now,[s.valueM m o])
def Sv.renewS(s:Sv)(m:M)(now:Int):Sv×List M:=
 if (s.remindN (seatN m.c:Nat) now 8).2.length≠0 then s.remindN (seatN m.c:Nat) now 8
 else if m.e≠(s.remindN (seatN m.c:Nat) now 8).1.epoch∨m.s≠(s.remindN (seatN m.c:Nat) now 8).1.ses (seatN m.c:Nat) then ((s.remindN (seatN m.c:Nat) now 8).1,[(s.remindN (seatN m.c:Nat) now 8).1.answer 8 m])
 else ({ (s.remindN (seatN m.c:Nat) now 8).1 with vol:=upd (s.remindN (seatN m.c:Nat) now 8).1.vol (seatN m.c:Nat) (mx ((s.remindN (seatN m.c:Nat) now 8).1.vol (seatN m.c:Nat)) (now+(s.remindN (seatN m.c:Nat) now 8).1.tv)) },[(s.remindN (seatN m.c:Nat) now 8).1.answer 7 m])
def Sv.wrote(s:Sv)(o:Nat)(now:Int):Sv×List M:=(((s.advance o now).1.awaited o now).1,(s.advance o now).2++((s.advance o now).1.awaited o now).2.map fun c=>((s.advance o now).1.awaited o now).1.invalM c o)
def Sv.writeS(s:Sv)(m:M)(o:Nat)(now:Int):Sv×List M:=
 if m.c=(s.last (seatN m.c)).c∧m.n=(s.last (seatN m.c)).n then (s,[s.doneM m (s.last (seatN m.c)).v])
 else if later m.c m.n (s.last (seatN m.c))=false then (s,[])
 else if (s.enq m o).2=false then ((s.enq m o).1,[])
 else (s.enq m o).1.wrote o now
def Sv.hear(s:Sv)(m:M)(now:Int):Sv×List M:=
 if s.down=true∨m.c<0∨m.o<0∨8≤m.o then (s,[])
 else if m.k=1 then s.readS m m.o.toNat now
 else if m.k=2 then s.writeS m m.o.toNat now
 else if m.k=3 then s.renewS m now
 else if m.k=4 then s.release m m.o.toNat now
 else (s,[])
def Sv.tickN(s:Sv)(now:Int):Nat→Sv×List M
 | 0=>(s,[])
 | k+1=>(((s.tickN now k).1.advance k now).1,(s.tickN now k).2++((s.tickN now k).1.advance k now).2)
theorem SvB.readS{s:Sv}{B:Nat}(h:SvB s B)(m:M)(o:Nat)(now:Int):SvB (s.readS m o now).1 (B+1)∧(s.readS m o now).2.length≤1:=by
 refine⟨?_,by simp[Sv.readS]⟩
 unfold Sv.readS Sv.lent
 dsimp only
 split
 ·exact⟨h.ses0,fun c=>by have:=h.ses c;show s.ses c≤_;omega,by have:=h.n;show s.n+1≤_;omega,h.vv0,h.vv1,h.len,h.wok,h.wlen,h.left0,h.left1,h.recs,h.ep0,h.ep1,h.vdl⟩
 ·exact h.mono (by omega)
theorem SvB.renewS{s:Sv}{B:Nat}(h:SvB s B)(m:M)(now:Int):SvB (s.renewS m now).1 (B+32)∧(s.renewS m now).2.length≤8:=by
 obtain⟨h1,h2⟩:=SvB.remind h (seatN m.c:Nat) now 8
 unfold Sv.renewS
 split
 ·exact⟨h1,h2⟩
 ·split
  ·exact⟨h1,by simp⟩
  ·exact⟨⟨h1.ses0,h1.ses,h1.n,h1.vv0,h1.vv1,h1.len,h1.wok,h1.wlen,h1.left0,h1.left1,h1.recs,h1.ep0,h1.ep1,h1.vdl⟩,by simp⟩
theorem SvB.wrote{s:Sv}{B:Nat}(h:SvB s B)(o:Nat)(now:Int):SvB (s.wrote o now).1 (B+48)∧(s.wrote o now).2.length≤14:=by
 obtain⟨h1,h2⟩:=h.advance o now
 obtain⟨h3,h4⟩:=h1.awaited o now
 exact⟨h3.mono (by omega),by unfold Sv.wrote;simp;omega⟩
theorem SvB.writeS{s:Sv}{B:Nat}(h:SvB s B){m:M}{o:Nat}(hm:okW o m)(now:Int):SvB (s.writeS m o now).1 (B+48)∧(s.writeS m o now).2.length≤14:=by
 unfold Sv.writeS
 split
 ·exact⟨h.mono (by omega),by simp⟩
 ·split
  ·exact⟨h.mono (by omega),by simp⟩
  ·split
   ·exact⟨(h.enq hm).mono (by omega),by simp⟩
   ·exact(h.enq hm).wrote o now
theorem SvB.release{s:Sv}{B:Nat}(h:SvB s B)(m:M)(o:Nat)(now:Int):SvB (s.release m o now).1 (B+44)∧(s.release m o now).2.length≤10:=by
 unfold Sv.release
 split
 ·exact(h.dropped _ _).advance o now
 ·exact⟨h.mono (by omega),by simp⟩
def okM(m:M):Prop:=timeB m.c=true∧timeB m.n=true∧m.d.size≤20
theorem SvB.hear{s:Sv}{B:Nat}(h:SvB s B){m:M}(hm:okM m)(now:Int):SvB (s.hear m now).1 (B+48)∧(s.hear m now).2.length≤14:=by
 unfold Sv.hear
 split
 ·exact⟨h.mono (by omega),by simp⟩
 ·rename_i hn
  split
  ·obtain⟨h1,h2⟩:=h.readS m m.o.toNat now
   exact⟨h1.mono (by omega),by omega⟩
  ·split
   ·exact h.writeS ⟨by omega,hm⟩ now
   ·split
    ·obtain⟨h1,h2⟩:=h.renewS m now
     exact⟨h1.mono (by omega),by omega⟩
    ·split
     ·obtain⟨h1,h2⟩:=h.release m m.o.toNat now
      exact⟨h1.mono (by omega),by omega⟩
     ·exact⟨h.mono (by omega),by simp⟩
theorem SvB.tick{s:Sv}{B:Nat}(h:SvB s B)(now:Int):∀ k,SvB (s.tickN now k).1 (B+44*k)∧(s.tickN now k).2.length≤10*k
 | 0=>⟨h,by simp[Sv.tickN]⟩
 | k+1=>by
  obtain⟨h1,h2⟩:=SvB.tick h now k
  obtain⟨h3,h4⟩:=h1.advance k now
  refine⟨h3.mono (by omega),?_⟩
  show ((s.tickN now k).2++_).length≤_
  rw[List.length_append]
  omega
end Wld
end
section
namespace Wld
open Go.RowKit Go.Maps
open Lease (upd hol dels mx kk objB)
open Wal (R mayB timeB)
open Num (M okB)
structure Ev where
 client:Int
 kind:Int
 obj:Int
 d:ByteArray
 ver:Int
 over:Bool
 hit:Bool
 began:Int
 ended:Int
 life:Int
structure St where
 k:K
 clock:Int
 life:Int
 call:Int
structure Wd where
 to:Int
 tv:Int
 td:Int
 rs:List R
 fails:Bool
 left:Int
 net:List (Int×M)
 sv:Option Sv
 clock:Int
 n:Nat
 seat:Nat→St
 events:List Ev
 step:Int
def Wd.put(w:Wd)(to:Int)(m:M):Wd:=if okB m=true∧w.net.length<200 then { w with net:=w.net++[(to,m)] } else w
def Wd.send(w:Wd)(to:Int)(l:List M):Wd:=l.foldl (fun w m=>w.put to m) w
def Wd.tells(w:Wd)(l:List M):Wd:=l.foldl (fun w m=>w.put (seatN m.c:Nat) m) w
def Wd.served(w:Wd)(s:Sv):Wd:={ w with rs:=s.rs,fails:=s.fails,left:=s.left,sv:=some s }
def Wd.fallen(w:Wd):Wd:=match w.sv with
 | none=>w
 | some s=>if s.down=true then { w with sv:=none } else w
def Wd.answer(w:Wd)(r:Sv×List M):Wd:=((w.served r.1).tells r.2).fallen
def Wd.toldServer(w:Wd)(m:M):Wd:=match w.sv with
 | none=>w
 | some s=>w.answer (s.hear m w.clock)
def Wd.setK(w:Wd)(k:Nat)(c:K):Wd:={ w with seat:=updN w.seat k { w.seat k with k:=c } }
def Ev.noted(e:Ev)(c:K)(step:Int):Ev:={ e with kind:=c.kind,obj:=c.cob,d:=c.d,ver:=c.ver,over:=c.over,hit:=c.hit,ended:=if c.over=true then step else e.ended }
def Wd.note(w:Wd)(k:Nat):Wd:=
 if (w.seat k).call<0 then w
 else { w with events:=w.events.modify (w.seat k).call.toNat fun e=>e.noted (w.seat k).k w.step,seat:=updN w.seat k { w.seat k with call:=if (w.seat k).k.over=true then -1 else (w.seat k).call } }
def Wd.has(w:Wd)(k:Int):Bool:=decide (0≤k∧k<(w.n:Int))
def Wd.toldClient(w:Wd)(k:Nat)(m:M):Wd:=((w.setK k ((w.seat k).k.hear m).1).send (-1) ((w.seat k).k.hear m).2).note k
def Wd.told(w:Wd)(to:Int)(m:M):Wd:=if to = -1 then w.toldServer m else if w.has to=true then w.toldClient to.toNat m else w
def Wd.deliver(w:Wd)(k:Nat):Wd:=match w.net[k]? with
 | none=>w
 | some p=>({ w with net:=w.net.eraseIdx k,step:=w.step+1 }).told p.1 p.2
def Wd.lose(w:Wd)(k:Nat):Wd:={ w with net:=w.net.eraseIdx k }
def Wd.twice(w:Wd)(k:Nat):Wd:=match w.net[k]? with
 | none=>w
 | some p=>if w.net.length<200 then { w with net:=w.net++[p] } else w
def Wd.ask(w:Wd)(k:Nat):Wd:=(w.setK k ((w.seat k).k.again (w.seat k).clock)).send (-1) ((w.seat k).k.againL (w.seat k).clock)
def Wd.again(w:Wd)(k:Nat):Wd:=({ w with step:=w.step+1 }).ask k
def Wd.asked(w:Wd)(k:Nat):Wd:=if (w.seat k).call<0 then w else w.ask k
def Wd.opens(w:Wd)(k:Nat)(c:K):Wd:={ w with step:=w.step+1,events:=w.events++[⟨k,0,0,⟨#[]⟩,0,false,false,w.step+1,0,(w.seat k).life⟩],seat:=updN w.seat k { w.seat k with k:=c,call:=w.events.length } }
def Wd.begin(w:Wd)(k:Nat)(c:K):Wd:=((w.opens k c).note k).asked k
def Wd.read(w:Wd)(k:Nat)(o:Int):Wd:=w.begin k ((w.seat k).k.reads o (w.seat k).clock)
def Wd.write(w:Wd)(k:Nat)(o:Int)(d:ByteArray):Wd:=w.begin k ((w.seat k).k.begin 2 o d 0 false false (w.seat k).clock)
def stop(x:Int):Int:=if x<549755813888 then x else 549755813888
def Wd.gone(w:Wd)(b:Int)(by_:Nat→Int):Wd:={ w with step:=w.step+1,clock:=stop (w.clock+b),seat:=fun k=>{ w.seat k with clock:=stop ((w.seat k).clock+by_ k) } }
def Wd.ticked(w:Wd):Wd:=match w.sv with
 | none=>w
 | some s=>w.answer (s.tickN w.clock 8)
def Wd.goes(w:Wd)(b:Int)(by_:Nat→Int):Wd:=(w.gone b by_).ticked
def Wd.failing(w:Wd)(writes torn:Int):Wd:=match w.sv with
 | none=>{ w with fails:=true,left:=mx writes 0 }
 | some s=>w.served { s with fails:=true,left:=mx writes 0,torn:=torn }
def Wd.crash(w:Wd):Wd:={ w with step:=w.step+1,sv:=none }
def Sv.zero(to tv td:Int)(rs:List R)(fails:Bool)(left:Int):Sv:=⟨to,tv,td,0,0,0,fun _=>⟨#[]⟩,fun _=>0,fun _=>⟨0,0,0,0,⟨#[]⟩,0⟩,.map [],fun _=>0,fun _=>0,0,fun _=>[],rs,false,fails,left⟩
def Sv.opened(to tv td:Int)(rs:List R)(fails:Bool)(left:Int):Sv:=rs.foldl Sv.applied (Sv.zero to tv td rs fails left)
def Sv.readied(s:Sv)(now:Int):Sv:={ s with ready:=if 0<s.epoch then now+s.tv else s.ready,epoch:=s.epoch+1 }
def epochR(e:Int):R:=⟨0,0,-1,0,⟨#[]⟩,e⟩
def Sv.new(to tv td:Int)(rs:List R)(fails:Bool)(left:Int)(now:Int):Sv:=(((Sv.opened to tv td rs fails left).readied now).add (epochR ((Sv.opened to tv td rs fails left).readied now).epoch)).1
def Wd.start(w:Wd):Wd:=w.served (Sv.new w.to w.tv w.td w.rs false 0 w.clock)
def Wd.restart(w:Wd):Wd:=match w.sv with
 | some _=>w
 | none=>({ w with step:=w.step+1 }).start
def short(td t:Int):Int:=t*(1000-td) / (1000+td)
def Wd.enter(w:Wd)(k:Nat)(life:Int):Wd:={ w with seat:=updN w.seat k { w.seat k with k:=K.new (life*4+k) (short w.td w.to) (short w.td w.tv),life:=life,call:=-1 } }
def Wd.reborn(w:Wd)(k:Nat):Wd:=({ w with step:=w.step+1 }).enter k ((w.seat k).life+1)
def Wd.drain(w:Wd):Nat→Wd
 | 0=>w
 | f+1=>if w.net.length=0 then w else (w.deliver 0).drain f
end Wld
end
section
namespace Net
open Go.RowKit
open Wire (Has bcell Sees conv_sees)
open Num (strOf ints)
theorem take_no(B q:Nat)(ps:List (Int×ByteArray))(k:Int)(w:World)(h:NetIs w B q ps)(hk:hasB k ps.length=false) :
  Calls Tryz.prog 63 #[.pointer (some ⟨q,12405,none⟩),.int .i64 k] w fun e w'=>e = .returned (.tuple #[.agg #[.int .i64 0,.slice none 0 0],.iface 59 (.int .i64 2)])∧Below w.heap.size w w':=by
 obtain⟨⟨v,hv,hrow⟩,_,_,hlt,hle,hlen⟩:=h
 obtain⟨ao,c,rfl,_,_⟩:=row_shape hrow
 have hqs:q<w.heap.size:=by omega
 have hv1:=fun o=>(World.cell?_alloc_lt w o ⟨q,12405,none⟩ hqs).trans hv
 go_enter Tryz.func63,Tryz.ntmps63
 go_wp2_with (go_at_call 126;refine(has_any q ao ps.length c k _ hlen (hv1 _)).mono ?_;rintro e w' ⟨rfl,rfl⟩)
 exact bodyPost_ret (v:=.tuple #[.agg #[.int .i64 0,.slice none 0 0],.iface 59 (.int .i64 2)]) (by simp[results,Tryz.results63,go_sem]) rfl ⟨rfl,(Below.refl _ _).alloc (Nat.le_refl _) _⟩
theorem alloc_mark{X:World}{n j:Nat}{C:Array Value}{t:TypeId}{fr:Nat×Nat}(hn:X.heap.size=n):(X.alloc (.cells C t fr)).drew.cell? ⟨n,j,none⟩=C[j]?:=by
 subst hn
 exact World.cell?_alloc_mark X C t fr j
theorem Only.setNew{B:Nat}{t:TypeId}{q p i:Nat}{a b:World}(h:Only B t q a b)(hp:a.heap.size≤p)(u:Value):Only B t q a (b.setCell ⟨p,i,none⟩ u):=
 ⟨h.os,h.tape,h.output,by simpa using h.size,fun k hk hq ht=>by rw[Below.heap_setCell b ⟨p,i,none⟩ u k (by show k≠p;omega)];exact h.block k hk hq ht,
  fun k hq hB hk=>(World.cell?_of_block (Below.heap_setCell b ⟨p,i,none⟩ u q (by show q≠p;omega))).trans (h.cell k hq hB hk),fun k hq hB=>(World.frozen?_of_block (Below.heap_setCell b ⟨p,i,none⟩ u q (by show q≠p;omega))).trans (h.fro k hq hB),
  fun e hB ht=>by
  have hq:=ht.elim fun _ ht=>ht.elim fun _ ht=>(Array.getElem?_eq_some_iff.1 ht).1
  exact(h.typ e hB ht).imp fun _ k=>k.imp fun _ k=>(Below.heap_setCell b ⟨p,i,none⟩ u q (by show q≠p;omega)).trans k⟩
def taken(w2:World)(q p g n c:Nat)(to:Int)(s:ByteArray)(cp:Nat):World:=
 ((((w2.setCell ⟨q,12405,none⟩ (.slice (some ⟨g,0,none⟩) n c)).setCell ⟨p,0,none⟩ (.int .i64 to)).setCell ⟨p,1,none⟩ (.slice (some ⟨w2.heap.size,0,none⟩) s.size cp)).alloc (.cells (bytesRow s cp) 5 ((bytesRow s cp).size,(bytesRow s cp).size+1))).drew
theorem take_fin{w w2:World}{B q g n c cp:Nat}{es:List (Int×ByteArray)}{to:Int}{s:ByteArray}{u:Value}(hrow:w2.ownsRow B 201 2 (.slice (some ⟨g,0,none⟩) (n-1) c) (n-1) (pcells es))(hes:es.length=n-1)(hn:n≤200)(hlt:q<B)(hle:B≤w.heap.size)(hgB:B≤g)(hgs:g<w.heap.size)(hO:Only B 201 q w w2)
  (d0:w2.cell? ⟨q,12405,none⟩=some u) {lost:Int} (dl:w2.cell? ⟨q,12406,none⟩=some (.int .i64 lost)) (dfq:∀ i,w2.frozen? ⟨q,i,none⟩=false) (d1:w2.cell? ⟨w.heap.size,0,none⟩=some (.int .i64 0)) (d2:w2.cell? ⟨w.heap.size,1,none⟩=some (.slice none 0 0)) (hlt1:w.heap.size<w2.heap.size) (hge:s.size≤cp) (hcx:cp≤maxLen) :
  Sees (taken w2 q w.heap.size g (n-1) c to s cp) (taken w2 q w.heap.size g (n-1) c to s cp).heap.size (.slice (some ⟨w2.heap.size,0,none⟩) s.size cp) (ints s)∧NetIs (taken w2 q w.heap.size g (n-1) c to s cp) B q es∧Only B 201 q w (taken w2 q w.heap.size g (n-1) c to s cp) ∧
   (taken w2 q w.heap.size g (n-1) c to s cp).cell? ⟨w.heap.size,0,none⟩=some (.int .i64 to)∧(taken w2 q w.heap.size g (n-1) c to s cp).cell? ⟨w.heap.size,1,none⟩=some (.slice (some ⟨w2.heap.size,0,none⟩) s.size cp):=by
 have hc:∀ b i,b<w2.heap.size→(taken w2 q w.heap.size g (n-1) c to s cp).cell? ⟨b,i,none⟩=(((w2.setCell ⟨q,12405,none⟩ (.slice (some ⟨g,0,none⟩) (n-1) c)).setCell ⟨w.heap.size,0,none⟩ (.int .i64 to)).setCell ⟨w.heap.size,1,none⟩ (.slice (some ⟨w2.heap.size,0,none⟩) s.size cp)).cell? ⟨b,i,none⟩:=fun b i hb=>World.cell?_alloc_lt _ _ ⟨b,i,none⟩ (by simpa using hb)
 have hqp:q≠w.heap.size:=by omega
 refine⟨?_,⟨⟨.slice (some ⟨g,0,none⟩) (n-1) c,?_,?_⟩,?_,fun i=>?_,hlt,?_,by omega⟩,?_,?_,?_⟩
 ·refine⟨_,cp,by rw[Num.ints_length],by rw[Num.ints_length];exact hge,hcx,Num.ints_byte s,fun hp=>⟨w2.heap.size,0,rfl,by simp[taken],fun j hj=>?_⟩⟩
  rw[Num.ints_length] at hj
  rw[Nat.zero_add]
  have hj':j<s.data.size:=hj
  have hb:=bytesRow_at s cp j hj'
  have e:(ints s).getD j 0=((s.data[j]).toNat:Int):=by
   unfold Num.ints
   rw[List.getD_eq_getElem?_getD,List.getElem?_map,Array.getElem?_toList,Array.getElem?_eq_getElem hj']
   rfl
  rw[e,← hb]
  have hsz2:(((w2.setCell ⟨q,12405,none⟩ (.slice (some ⟨g,0,none⟩) (n-1) c)).setCell ⟨w.heap.size,0,none⟩ (.int .i64 to)).setCell ⟨w.heap.size,1,none⟩ (.slice (some ⟨w2.heap.size,0,none⟩) s.size cp)).heap.size=w2.heap.size:=by simp
  exact alloc_mark hsz2
 ·rw[hc _ _ (by omega),World.cell?_setCell_other _ _ _ _ (by intro e;injection e with e;omega),World.cell?_setCell_other _ _ _ _ (by intro e;injection e with e;omega),World.cell?_setCell_same _ _ _ d0]
 ·rw[hes]
  have r1:=ownsRow_setCell_below hrow (a:=⟨q,12405,none⟩) hlt (.slice (some ⟨g,0,none⟩) (n-1) c)
  have r2:=ownsRow_setCell_other r1 (a:=⟨w.heap.size,0,none⟩) (by simp[Value.ownBlock];omega) (.int .i64 to)
  have r3:=ownsRow_setCell_other r2 (a:=⟨w.heap.size,1,none⟩) (by simp[Value.ownBlock];omega) (.slice (some ⟨w2.heap.size,0,none⟩) s.size cp)
  exact r3.alloc _
 ·exact⟨lost,by rw[hc _ _ (by omega),World.cell?_setCell_other _ _ _ _ (by intro e;injection e with e;omega),World.cell?_setCell_other _ _ _ _ (by intro e;injection e with e;omega),World.cell?_setCell_other _ _ _ _ (by simp),dl]⟩
 ·show (World.alloc _ _).frozen? ⟨q,i,none⟩=false
  rw[World.frozen?_alloc_old _ _ _ (by show q≠_;simp;omega)]
  simpa using dfq i
 ·simp[taken]
  omega
 ·exact((((hO.setCell _ (by omega) (by omega)).setNew (Nat.le_refl _) _).setNew (Nat.le_refl _) _).alloc _).drew
 ·rw[hc _ _ (by omega),World.cell?_setCell_other _ _ _ _ (by simp),World.cell?_setCell_same (h:=by rw[World.cell?_setCell_other _ _ _ _ (by intro e;injection e with e;omega)];exact d1)]
 ·rw[hc _ _ (by omega),World.cell?_setCell_same (h:=by rw[World.cell?_setCell_other _ _ _ _ (by simp),World.cell?_setCell_other _ _ _ _ (by intro e;injection e with e;omega)];exact d2)]
theorem take_yes(B q:Nat)(ps:List (Int×ByteArray))(k:Nat)(w:World)(h:NetIs w B q ps)(hk:k<ps.length)(hsz:ps[k].2.size≤300) :
  Calls Tryz.prog 63 #[.pointer (some ⟨q,12405,none⟩),.int .i64 k] w fun e w'=>∃ sv,e = .returned (.tuple #[.agg #[.int .i64 ps[k].1,sv],.nilIface])∧Sees w' w'.heap.size sv (ints ps[k].2)∧NetIs w' B q (ps.eraseIdx k)∧Only B 201 q w w':=by
 have hlen:=h.len
 have hlt:=h.lt
 have hle:=h.le
 have hfr0:=h.free 12405
 obtain⟨lost,hls⟩:=h.lost
 have hfrs:=h.free
 obtain⟨g,c,hv,hrow,hnc,hgB,hgs,hc0,hc1⟩:=h.at k hk
 have hhas:hasB (k:Int) ps.length=true:=hasB_true (by omega) (by omega)
 have hkI:(k:Int)<(ps.length:Int):=by omega
 have hqs:q<w.heap.size:=by omega
 have hcm:c≤9223372036854775807:=by
  rcases hrow.2 with ⟨h,_⟩|⟨g',cap,cur,he,_,_,_,hm,_⟩
  ·cases h
  ·injection he with _ _ e3
   subst e3
   exact hm
 generalize hp:ps[k]=p at *
 obtain⟨to,s⟩:=p
 dsimp only at hc0 hc1 hsz ⊢
 clear hp
 have hv1:=fun o=>(World.cell?_alloc_lt w o ⟨q,12405,none⟩ hqs).trans hv
 go_enter Tryz.func63,Tryz.ntmps63
 go_wp2_with (go_at_call 126;refine(has_any q _ ps.length c k _ hlen (hv1 _)).mono ?_;rintro e w' ⟨rfl,rfl⟩)
 refine(del_any B g c ps k _ hk hlen hnc hcm ((hrow.alloc _).alloc _)).mono ?_
 rintro e w2 ⟨rfl,hrow2,hg2⟩
 have hz2:=hg2.size
 simp at hz2
 have d0:w2.cell? ⟨q,12405,none⟩=some (.slice (some ⟨g,0,none⟩) ps.length c):=hg2.cell ((World.cell?_alloc_lt _ _ ⟨q,12405,none⟩ (by simp;omega)).trans (hv1 _)) (by intro e;have e':q=g:=(by injection e);omega)
 have df:w2.frozen? ⟨q,12405,none⟩=false:=(World.frozen?_of_block (hg2.block q (by simp;omega) (by intro e;injection e with e;omega))).trans (by rw[World.frozen?_alloc_old _ _ _ (by show q≠_;simp;omega),World.frozen?_alloc_old _ _ _ (by show q≠_;omega)];exact hfr0)
 have d1:w2.cell? ⟨w.heap.size,0,none⟩=some (.int .i64 0):=hg2.cell (by simp) (by simp;omega)
 have d2:w2.cell? ⟨w.heap.size,1,none⟩=some (.slice none 0 0):=hg2.cell (by simp) (by simp;omega)
 have d3:w2.cell? ⟨w.heap.size+1,0,none⟩=some (.int .i64 to):=hg2.cell (by simp) (by simp;omega)
 have d4:w2.cell? ⟨w.heap.size+1,1,none⟩=some (.string s):=hg2.cell (by simp) (by simp;omega)
 have df1:∀ i,w2.frozen? ⟨w.heap.size,i,none⟩=false:=fun i=>(World.frozen?_of_block (hg2.block w.heap.size (by simp;omega) (by intro e;injection e with e;omega))).trans (by simp)
 have hby:=fun W=>run_bytes_of_string (P:=Tryz.prog) W 9 61 5 s Tryz.underlying9 Tryz.underlying61 Tryz.underlying5
 have hlt1:w.heap.size<w2.heap.size:=by omega
 have k0:∀ o,((w2.setCell ⟨q,12405,none⟩ (.slice (some ⟨g,0,none⟩) (ps.length-1) c)).alloc o).cell? ⟨w.heap.size,0,none⟩=some (.int .i64 0):=fun o=>by
  rw[World.cell?_alloc_lt _ _ ⟨w.heap.size,0,none⟩ (by simpa using hlt1),World.cell?_setCell_other _ _ _ _ (by intro e;injection e with e;omega),d1]
 have k1:∀ o,((w2.setCell ⟨q,12405,none⟩ (.slice (some ⟨g,0,none⟩) (ps.length-1) c)).alloc o).cell? ⟨w.heap.size,1,none⟩=some (.slice none 0 0):=fun o=>by
  rw[World.cell?_alloc_lt _ _ ⟨w.heap.size,1,none⟩ (by simpa using hlt1),World.cell?_setCell_other _ _ _ _ (by intro e;injection e with e;omega),d2]
 have kf:∀ o i,((w2.setCell ⟨q,12405,none⟩ (.slice (some ⟨g,0,none⟩) (ps.length-1) c)).alloc o).frozen? ⟨w.heap.size,i,none⟩=false:=fun o i=>by
  rw[World.frozen?_alloc_old _ _ _ (by show w.heap.size≠_;simp;omega),World.frozen?_setCell,df1]
 have hge:=grownCap_ge (w2.setCell ⟨q,12405,none⟩ (.slice (some ⟨g,0,none⟩) (ps.length-1) c)) s.size 0 5
 have hcx:=grownCap_le_maxLen (w2.setCell ⟨q,12405,none⟩ (.slice (some ⟨g,0,none⟩) (ps.length-1) c)) s.size 0 5 (by unfold maxLen;omega)
 have hlen1:(ps.eraseIdx k).length=ps.length-1:=List.length_eraseIdx_of_lt hk
 have h2w:((w.alloc (.cells #[.int .i64 0,.slice none 0 0] 125)).alloc (.cells #[.int .i64 to,.string s] 201)).ownsRow B 201 2 (.slice (some ⟨g,0,none⟩) ps.length c) ps.length (pcells ps):=(hrow.alloc _).alloc _
 have hO:Only B 201 q w w2:=Only.grown (((Only.refl _ _ _ _).alloc _).alloc _) h2w hg2
 have dl:w2.cell? ⟨q,12406,none⟩=some (.int .i64 lost):=hg2.cell ((World.cell?_alloc_lt _ _ ⟨q,12406,none⟩ (by simp;omega)).trans ((World.cell?_alloc_lt _ _ ⟨q,12406,none⟩ hqs).trans hls)) (by intro e;have e':q=g:=(by injection e);omega)
 have dfq:∀ i,w2.frozen? ⟨q,i,none⟩=false:=fun i=>(World.frozen?_of_block (hg2.block q (by simp;omega) (by intro e;injection e with e;omega))).trans (by rw[World.frozen?_alloc_old _ _ _ (by show q≠_;simp;omega),World.frozen?_alloc_old _ _ _ (by show q≠_;omega)];exact hfrs i)
 go_wp2_with fail
 generalize grownCap (w2.setCell ⟨q,12405,none⟩ (.slice (some ⟨g,0,none⟩) (ps.length-1) c)) s.size 0 5=cp at *
 have F:=take_fin (s:=s) (to:=to) (cp:=cp) hrow2 hlen1 hlen hlt hle hgB hgs hO d0 dl dfq d1 d2 hlt1 hge hcx
 clear k0 k1 kf hby hg2 hrow2 hrow h2w
 obtain⟨F1,F2,F3,F4,F5⟩:=F
 change bodyPost _ _ _ _ _ (taken w2 q w.heap.size g (ps.length-1) c to s cp)
 generalize taken w2 q w.heap.size g (ps.length-1) c to s cp=W at *
 clear d0 df d1 d2 d3 d4 df1 dl dfq hv hv1 hc0 hc1
 exact bodyPost_ret (v:=.tuple #[.agg #[.int .i64 to,.slice (some ⟨w2.heap.size,0,none⟩) s.size cp],.nilIface]) (by simp[results,Tryz.results63,go_sem,F4,F5]) rfl ⟨_,rfl,F1,F2,F3⟩
end Net
end
end Go.Proofs.YtbebfliimjjohabGreatDoor
