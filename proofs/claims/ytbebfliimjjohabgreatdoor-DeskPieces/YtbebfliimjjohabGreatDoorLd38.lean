/- Parts of the proof. -/
import Derived.Test.YtbebfliimjjohabGreatDoorLd33
import Derived.Test.YtbebfliimjjohabGreatDoorLd37
set_option maxRecDepth 100000
set_option maxHeartbeats 8000000
namespace Go.Proofs.YtbebfliimjjohabGreatDoor
section
namespace Wld
open Go.RowKit Go.Maps
open Lease (I64)
open Cache (E putL era)
open Num (M okB)
structure Kq(k:K):Prop where
 ver:I64 k.ver
 c0:0≤k.cob
 c7:k.cob≤7
 d:k.d.size≤20
 kv:∀ x∈k.kept,I64 x.v∧x.d.size≤20
theorem I64.zero:I64 0:=⟨by omega,by omega⟩
theorem Kq.overWith{k:K}(h:Kq k){d:ByteArray}(hd:d.size≤20){v:Int}(hv:I64 v):Kq (k.overWith d v):=⟨hv,h.c0,h.c7,hd,h.kv⟩
theorem Kq.hear{k:K}(h:Kq k)(m:M)(hm:I64 m.v∧m.d.size≤20):Kq (k.hear m).1:=by
 unfold K.hear
 split
 ·dsimp only
  unfold K.forget
  split
  ·exact⟨h.ver,h.c0,h.c7,h.d,fun x hx=>h.kv x (mem_era hx)⟩
  ·exact⟨h.ver,h.c0,h.c7,h.d,fun x hx=>h.kv x (mem_era hx)⟩
 ·split
  ·exact h
  ·split
   ·dsimp only
    unfold K.granted
    split
    ·exact⟨h.ver,h.c0,h.c7,h.d,h.kv⟩
    ·exact h
   ·split
    ·dsimp only
     unfold K.flush
     split
     ·exact h
     ·exact⟨h.ver,h.c0,h.c7,h.d,fun x hx=>(by simp at hx)⟩
    ·split
     ·dsimp only
      unfold K.read
      split
      ·exact h
      ·refine Kq.overWith ?_ hm.2 hm.1
       split
       ·exact⟨h.ver,h.c0,h.c7,h.d,fun x hx=>by
         rcases mem_putL hx with q|q
         ·rw[q];exact hm
         ·exact h.kv x q⟩
       ·exact h
     ·split
      ·exact h.overWith h.d hm.1
      ·exact h
theorem Kq.again{k:K}(h:Kq k)(now:Int):Kq (k.again now):=by
 unfold K.again
 split
 ·exact⟨h.ver,h.c0,h.c7,h.d,h.kv⟩
 ·exact h
theorem Kq.begin{k:K}(h:Kq k){o:Int}(now:Int)(kd:Int){d:ByteArray}(hd:d.size≤20){v:Int}(hv:I64 v)(ov ht:Bool)(ho0:0≤o)(ho7:o≤7):Kq (k.begin kd o d v ov ht now):=⟨hv,ho0,ho7,hd,h.kv⟩
theorem Kq.looked{k:K}(h:Kq k)(o:Int):Kq (k.looked o):=by
 unfold K.looked
 split
 ·exact h
 ·rename_i x hx
  exact⟨h.ver,h.c0,h.c7,h.d,fun y hy=>by
   rcases mem_putL hy with q|q
   ·rw[q];exact h.kv x (List.mem_of_find?_eq_some hx)
   ·exact h.kv y q⟩
theorem Kq.reads{k:K}(h:Kq k){o:Int}(now:Int)(ho0:0≤o)(ho7:o≤7):Kq (k.reads o now):=by
 have hb:=h.begin now 1 (d:=⟨#[]⟩) (by decide) I64.zero false false ho0 ho7
 unfold K.reads
 split
 ·exact hb.looked o
 ·rename_i x hx
  have hl:=hb.looked o
  have hxk:x∈(k.begin 1 o ⟨#[]⟩ 0 false false now).kept:=by
   unfold K.has at hx
   split at hx
   ·cases hx
   ·rename_i y hy
    split at hx
    ·cases hx
    ·injection hx with hx
     subst hx
     exact List.mem_of_find?_eq_some hy
  exact Kq.overWith (k:={ (k.begin 1 o ⟨#[]⟩ 0 false false now).looked o with hit:=true }) ⟨hl.ver,hl.c0,hl.c7,hl.d,hl.kv⟩ (hb.kv x hxk).2 (hb.kv x hxk).1
theorem Kq.new(id obj vol:Int):Kq (K.new id obj vol):=⟨I64.zero,by show (0:Int)≤0;omega,by show (0:Int)≤7;omega,by show (⟨#[]⟩:ByteArray).size≤20;decide,fun x hx=>by cases hx⟩
def EvOk(e:Ev):Prop:=I64 e.client∧I64 e.obj∧I64 e.ver∧e.d.size≤20
structure Em(w:Wd):Prop where
 ks:∀ i,i<w.n→Kq (w.seat i).k
 ev:∀ e∈w.events,EvOk e
 net:∀ p∈w.net,I64 p.2.v∧p.2.d.size≤20
 n4:w.n≤4
theorem Em.put{w:Wd}(h:Em w)(t:Int)(m:M):Em (w.put t m):=by
 unfold Wd.put
 split
 ·rename_i hm
  refine⟨h.ks,h.ev,fun p hp=>?_,h.n4⟩
  rcases List.mem_append.1 hp with q|q
  ·exact h.net p q
  ·rw[List.mem_singleton.1 q]
   exact⟨(okB_m hm.1).2,(okB_m hm.1).1.2.2⟩
 ·exact h
theorem Em.send(t:Int):∀ (l:List M) {w:Wd},Em w→Em (w.send t l)
 | [],_,h=>h
 | m :: l,_,h=>Em.send t l (h.put t m)
theorem Em.tells:∀ (l:List M) {w:Wd},Em w→Em (w.tells l)
 | [],_,h=>h
 | m :: l,_,h=>Em.tells l (h.put (seatN m.c:Nat) m)
theorem Em.fallen{w:Wd}(h:Em w):Em w.fallen:=by
 unfold Wd.fallen
 split
 ·exact h
 ·split
  ·exact⟨h.ks,h.ev,h.net,h.n4⟩
  ·exact h
theorem Em.served{w:Wd}(h:Em w)(s:Sv):Em (w.served s):=⟨h.ks,h.ev,h.net,h.n4⟩
theorem Em.answer{w:Wd}(h:Em w)(r:Sv×List M):Em (w.answer r):=(Em.tells r.2 (h.served r.1)).fallen
theorem Em.setK{w:Wd}(h:Em w)(i:Nat){k:K}(hk:Kq k):Em (w.setK i k):=⟨fun j hj=>by
  show Kq (updN w.seat i { w.seat i with k:=k } j).k
  unfold updN
  split
  ·exact hk
  ·exact h.ks j hj,h.ev,h.net,h.n4⟩
theorem mem_modify{α:Type}(f:α→α):∀ (l:List α) (i:Nat) (x:α),x∈l.modify i f→x∈l∨∃ y∈l,x=f y
 | [],i,x,h=>by simp at h
 | y :: t,0,x,h=>by
  rw[List.modify_zero_cons] at h
  rcases List.mem_cons.1 h with q|q
  ·exact .inr ⟨y,List.mem_cons_self,q⟩
  ·exact .inl (List.mem_cons_of_mem _ q)
 | y :: t,i+1,x,h=>by
  rw[List.modify_succ_cons] at h
  rcases List.mem_cons.1 h with q|q
  ·rw[q];exact .inl List.mem_cons_self
  ·rcases mem_modify f t i x q with q|⟨z,hz,q⟩
   ·exact .inl (List.mem_cons_of_mem _ q)
   ·exact .inr ⟨z,List.mem_cons_of_mem _ hz,q⟩
theorem Em.note{w:Wd}(h:Em w){i:Nat}(hi:i<w.n):Em (w.note i):=by
 unfold Wd.note
 split
 ·exact h
 ·refine⟨fun j hj=>?_,fun e he=>?_,h.net,h.n4⟩
  ·show Kq (updN w.seat i _ j).k
   unfold updN
   split
   ·rename_i e
    subst e
    exact h.ks j hj
   ·exact h.ks j hj
  ·rcases mem_modify _ _ _ _ he with q|⟨y,hy,q⟩
   ·exact h.ev e q
   ·have hk:=h.ks i hi
    rw[q]
    exact⟨(h.ev y hy).1,⟨by have:=hk.c0;show _≤(w.seat i).k.cob;omega,by have:=hk.c7;show (w.seat i).k.cob≤_;omega⟩,hk.ver,hk.d⟩
theorem Em.ask{w:Wd}(h:Em w){i:Nat}(hi:i<w.n):Em (w.ask i):=Em.send _ _ (h.setK i ((h.ks i hi).again _))
theorem Em.stepped{w:Wd}(h:Em w)(x:Int):Em { w with step:=x }:=⟨h.ks,h.ev,h.net,h.n4⟩
theorem Em.again{w:Wd}(h:Em w){i:Nat}(hi:i<w.n):Em (w.again i):=Em.ask (w:={ w with step:=w.step+1 }) (h.stepped _) hi
theorem send_n2(t:Int):∀ (l:List M) (w:Wd),(w.send t l).n=w.n
 | [],_=>rfl
 | m :: l,w=>(send_n2 t l (w.put t m)).trans (by unfold Wd.put;split<;>rfl)
theorem Em.told{w:Wd}(h:Em w)(t:Int){m:M}(hm:I64 m.v∧m.d.size≤20):Em (w.told t m):=by
 unfold Wd.told
 split
 ·unfold Wd.toldServer
  split
  ·exact h
  ·exact h.answer _
 ·split
  ·rename_i hh
   have hi:t.toNat<w.n:=by
    simp[Wd.has] at hh
    omega
   refine Em.note (Em.send _ _ (h.setK _ ((h.ks _ hi).hear m hm))) ?_
   rw[send_n2]
   exact hi
  ·exact h
theorem Em.deliver{w:Wd}(h:Em w)(k:Nat):Em (w.deliver k):=by
 unfold Wd.deliver
 split
 ·exact h
 ·rename_i p hp
  exact Em.told (w:={ w with net:=w.net.eraseIdx k,step:=w.step+1 }) ⟨h.ks,h.ev,fun q hq=>h.net q (List.mem_of_mem_eraseIdx hq),h.n4⟩ _ (h.net p (List.mem_of_getElem? hp))
theorem Em.lose{w:Wd}(h:Em w)(k:Nat):Em (w.lose k):=⟨h.ks,h.ev,fun q hq=>h.net q (List.mem_of_mem_eraseIdx hq),h.n4⟩
theorem Em.twice{w:Wd}(h:Em w)(k:Nat):Em (w.twice k):=by
 unfold Wd.twice
 split
 ·exact h
 ·rename_i p hp
  split
  ·refine⟨h.ks,h.ev,fun q hq=>?_,h.n4⟩
   rcases List.mem_append.1 hq with e|e
   ·exact h.net q e
   ·rw[List.mem_singleton.1 e]
    exact h.net p (List.mem_of_getElem? hp)
  ·exact h
theorem note_n2(w:Wd)(k:Nat):(w.note k).n=w.n:=by unfold Wd.note;split<;>rfl
theorem Em.begin{w:Wd}(h:Em w){k:Nat}(hk:k<w.n){c:K}(hc:Kq c):Em (w.begin k c):=by
 have ho:Em (w.opens k c):=by
  refine⟨fun j hj=>?_,fun e he=>?_,h.net,h.n4⟩
  ·show Kq (updN w.seat k _ j).k
   unfold updN
   split
   ·exact hc
   ·exact h.ks j hj
  ·rcases List.mem_append.1 he with q|q
   ·exact h.ev e q
   ·rw[List.mem_singleton.1 q]
    have:=h.n4
    exact⟨⟨by show _≤(k:Int);omega,by show (k:Int)≤_;omega⟩,I64.zero,I64.zero,by show (⟨#[]⟩:ByteArray).size≤20;decide⟩
 have hn:=ho.note (i:=k) hk
 unfold Wd.begin Wd.asked
 split
 ·exact hn
 ·exact hn.ask (by rw[note_n2];exact hk)
theorem Em.ticked{w:Wd}(h:Em w):Em w.ticked:=by
 unfold Wd.ticked
 split
 ·exact h
 ·exact h.answer _
theorem Em.goes{w:Wd}(h:Em w)(b:Int)(f:Nat→Int):Em (w.goes b f):=Em.ticked (w:=w.gone b f) ⟨fun i hi=>h.ks i hi,h.ev,h.net,h.n4⟩
theorem Em.failing{w:Wd}(h:Em w)(x t:Int):Em (w.failing x t):=by
 unfold Wd.failing
 split
 ·exact⟨h.ks,h.ev,h.net,h.n4⟩
 ·exact h.served _
theorem Em.crash{w:Wd}(h:Em w):Em w.crash:=⟨h.ks,h.ev,h.net,h.n4⟩
theorem Em.restart{w:Wd}(h:Em w):Em w.restart:=by
 unfold Wd.restart
 split
 ·exact h
 ·exact Em.served (w:={ w with step:=w.step+1 }) (h.stepped _) _
theorem Em.reborn{w:Wd}(h:Em w)(k:Nat):Em (w.reborn k):=⟨fun j hj=>by
  show Kq (updN w.seat k _ j).k
  unfold updN
  split
  ·exact Kq.new _ _ _
  ·exact h.ks j hj,h.ev,h.net,h.n4⟩
theorem Em.drain:∀ (f:Nat) {w:Wd},Em w→Em (w.drain f)
 | 0,_,h=>h
 | f+1,w,h=>by
  unfold Wd.drain
  split
  ·exact h
  ·exact Em.drain f (h.deliver 0)
theorem Em.drained{w:Wd}(h:Em w):Em w.drained:=Em.drain _ h
theorem Em.calmK{w:Wd}(h:Em w):∀ k,k≤w.n→Em (w.calmK k)
 | 0,_=>h
 | k+1,hk=>(Em.again (Em.calmK h k (by omega)) (by rw[calmK_n];omega)).drained
theorem Em.calm1{w:Wd}(h:Em w):Em w.calm1:=((h.restart.calmK _ (by rw[restart_n];exact Nat.le_refl _)).goes _ _).drained
theorem Em.calm{w:Wd}(h:Em w):∀ r,Em (w.calm r)
 | 0=>h
 | r+1=>(Em.calm h r).calm1
theorem Em.fresh(tob tv td:Int){n:Nat}(hn:n≤4):Em (Wd.bare tob tv td n).start:=⟨fun i _=>Kq.new _ _ _,fun e he=>by simp[Wd.start,Wd.served,Wd.bare] at he,fun p hp=>by simp[Wd.start,Wd.served,Wd.bare] at hp,hn⟩
end Wld
end
section
namespace Wld
open Go.RowKit Go.Maps
open Cache (tp)
open Bare (Laid)
def ownT(t:TypeId):Bool:=t == 81||(t == 90||(t == 45||(t == 162||(t == 144||(t == 296||(t == 301||(t == 138||(t == 129||(t == 201||t == 168)))))))))
def offK:Obj→Bool
 | .cells _ t _=>!ownT t
 | .map _ _=>false
 | _=>true
def Off(w:World)(k:Nat):Prop:=∃ o,w.heap[k]?=some o∧offK o=true
theorem Off.lt{w:World}{k:Nat}(h:Off w k):k<w.heap.size:=by
 obtain⟨o,h,_⟩:=h
 exact(Array.getElem?_eq_some_iff.1 h).1
theorem Off.same{w w':World}{k:Nat}(h:Off w k)(e:w'.heap[k]?=w.heap[k]?):Off w' k:=by unfold Off;rw[e];exact h
theorem isC.notOff{w:World}{k:Nat}{t:TypeId}(h:isC w k t)(ht:ownT t=true):¬ Off w k:=by
 rintro⟨o,h1,h2⟩
 obtain⟨cs,f,h⟩:=h
 rw[h] at h1
 injection h1 with h1
 subst h1
 simp[offK,ht] at h2
theorem owns_notOff{H:Type}{P:Program}{k:TypeId}{R:Value→Option (DataW H×List MemPlace)}{w:World}{b n:Nat}{D:DataW H}(h:w.ownsMap P k R b n D):¬ Off w b:=by
 rintro⟨o,h1,h2⟩
 obtain⟨es,clock,h,_⟩:=h
 rw[h] at h1
 injection h1 with h1
 subst h1
 cases h2
theorem CliIs.notOff{w:World}{c m:Nat}{k:K}(h:CliIs w c m k):¬ Off w m:=h.seen.elim fun _ s=>owns_notOff s.1
theorem SvIs.notOff{w:World}{a:Ad}{s:Sv}(h:SvIs w a s){k:Nat}(hq:¬ Off w a.q)(hk:foot w a k):¬ Off w k:=by
 rcases h.kind hk with f|f|f|f|f|f|f
 ·rw[f];exact hq
 ·rw[f];exact owns_notOff h.tab.own
 ·exact f.notOff rfl
 ·exact f.notOff rfl
 ·exact f.notOff rfl
 ·exact f.notOff rfl
 ·exact f.notOff rfl
theorem WdIs.notOff{w:World}{A:Wa}{s:Wd}(h:WdIs w A s){k:Nat}(f:wfoot w A s k):¬ Off w k:=by
 rcases f with f|f|⟨v,f1,f2⟩|⟨i,hi,f⟩|⟨i,hi,f⟩|⟨f1,f2⟩
 ·rw[f];exact h.core.typ.notOff rfl
 ·rw[f];exact h.gt.notOff rfl
 ·obtain⟨v',hv',hr⟩:=h.evs
  rw[f1] at hv'
  injection hv' with hv'
  subst hv'
  exact(row_isC hr f2).2.notOff rfl
 ·rw[f];exact(h.cli i hi).isC.notOff rfl
 ·rw[f];exact(h.cli i hi).notOff
 ·obtain⟨v,hv⟩:=Option.isSome_iff_exists.1 f1
  have u:=h.up v hv
  exact u.sv.notOff (by rw[u.q];exact h.core.typ.notOff rfl) f2
structure Dz(N d:Nat)(w w':World):Prop where
 os:w'.os=w.os
 tape:w'.tape=w.tape
 output:w'.output=w.output
 size:w.heap.size≤w'.heap.size
 low:∀ k,k<N→k≠d→w'.heap[k]?=w.heap[k]?
 off:∀ k,Off w k→w'.heap[k]?=w.heap[k]?
theorem Dz.trans{N d:Nat}{x y z:World}(h:Dz N d x y)(k:Dz N d y z):Dz N d x z:=
 ⟨k.os.trans h.os,k.tape.trans h.tape,k.output.trans h.output,Nat.le_trans h.size k.size,fun i hi hd=>(k.low i hi hd).trans (h.low i hi hd),fun i hi=>(k.off i (hi.same (h.off i hi))).trans (h.off i hi)⟩
theorem Dz.fz{N d:Nat}{w w':World}{A A':Wa}{s s':Wd}(h:WdIs w A s)(f:Fz A s w A' s' w')(hl:Low N w A s):Dz N d w w':=by
 have hb:=f.below hl h.lt
 exact⟨f.os,f.tape,f.output,f.size,fun k hk _=>hb.block k hk,fun k hk=>f.block k hk.lt (fun q=>h.notOff q hk) (fun q=>q.notOff rfl hk)⟩
theorem Dz.to{N d B:Nat}{w w':World}(h:Dz N d w w')(hN:B≤N)(hd:B≤d):Below B w w':=⟨h.os,h.tape,h.output,h.size,fun k hk=>h.low k (by omega) (by omega)⟩
theorem Low.mono{N N':Nat}{w:World}{A:Wa}{s:Wd}(h:Low N w A s)(hN:N'≤N):Low N' w A s:=fun k hk=>Nat.le_trans hN (h k hk)
structure Ds(B N d:Nat)(M:Value)(w:World)(A:Wa)(s:Wd)(C:Nat):Prop where
 dk:DkIs w d M A s
 fro:∀ i,w.frozen? ⟨d,i,none⟩=false
 low:Low N w A s
 base:Base B w
 bd:B≤d
 dN:d<N
 nw:N≤w.heap.size
 num:WdB s C
 rk:Rk s
 em:Em s
theorem Ds.low1{B N d:Nat}{M:Value}{w:World}{A:Wa}{s:Wd}{C:Nat}(h:Ds B N d M w A s C):Low 1 w A s:=h.low.mono (by have:=h.dN;omega)
theorem Ds.laid{B N d:Nat}{M:Value}{w:World}{A:Wa}{s:Wd}{C:Nat}(h:Ds B N d M w A s C):Laid w:=h.base.laid
theorem Ds.fz{B N d:Nat}{M:Value}{w w':World}{A A':Wa}{s s':Wd}{C C':Nat}(h:Ds B N d M w A s C)(hw:WdIs w' A' s')(f:Fz A s w A' s' w')(hB:WdB s' C')(hR:Rk s')(hE:Em s'):Ds B N d M w' A' s' C'∧Dz N d w w':=by
 have z:Dz N d w w':=Dz.fz h.dk.wd f h.low
 have hb:=Fz.desk h.dk.wd f h.dk.typ
 exact⟨⟨h.dk.step hw f,fun i=>(World.frozen?_of_block (a:=⟨d,i,none⟩) hb).trans (h.fro i),h.low.step f h.nw,h.base.below (z.to (by have:=h.bd;have:=h.dN;omega) h.bd),h.bd,h.dN,Nat.le_trans h.nw f.size,hB,hR,hE⟩,z⟩
theorem Ds.below{B N d:Nat}{M:Value}{w w':World}{A:Wa}{s:Wd}{C:Nat}(h:Ds B N d M w A s C)(hb:Below w.heap.size w w'):Ds B N d M w' A s C∧Dz N d w w':=by
 obtain⟨x,y⟩:=h.dk.wd.below hb
 exact h.fz x y h.num h.rk h.em
theorem Ds.more{B N d:Nat}{M:Value}{w:World}{A:Wa}{s:Wd}{C C':Nat}(h:Ds B N d M w A s C)(hC:C≤C'):Ds B N d M w A s C':=⟨h.dk,h.fro,h.low,h.base,h.bd,h.dN,h.nw,h.num.mono hC,h.rk,h.em⟩
def Did(B N d:Nat)(M:Value)(w:World)(C:Nat)(r:Res)(e:Ending)(w':World):Prop:=
 e=(match r.1 with|.inl t=>.returned (.string t)|.inr n=>thrown n)∧∃ A,Ds B N d M w' A r.2 C∧Dz N d w w'
theorem Did.after{B N d:Nat}{M:Value}{w w':World}{A:Wa}{s:Wd}{C C':Nat}(h:Ds B N d M w A s C)(hC:C≤C')(hb:Below w.heap.size w w')(r:ByteArray ⊕ Nat):Did B N d M w C' (r,s) (match r with|.inl t=>.returned (.string t)|.inr n=>thrown n) w':=by
 obtain⟨x,z⟩:=h.below hb
 exact⟨rfl,A,x.more hC,z⟩
end Wld
end
section
namespace Wld
open Go.RowKit Go.Maps
open Cache (tp)
open Net (hasB)
open Lease (HasI)
theorem again_nix(A:Wa)(s:Wd)(k:Int)(w:World)(h:WdIs w A s)(hk:s.has k=false) :
  Calls Tryz.prog 25 #[tp A.Q,.int .i64 k] w fun e w'=>e = .returned (.iface 59 (.int .i64 2))∧w'=w:=by
 have hh:=hasW_any A s k w h
 rw[hk] at hh
 clear h hk
 go_enter Tryz.func25,Tryz.ntmps25
 go_wp2_with fail
 refine hh.mono ?_
 rintro e w2 ⟨rfl,rfl⟩
 go_wp2_with fail
 go_ret
 exact⟨rfl,rfl⟩
theorem has_nat{s:Wd}{k:Int}(h:s.has k=true):((k.toNat:Nat):Int)=k∧k.toNat<s.n:=by
 have:=of_decide_eq_true h
 omega
theorem net_nat{n:Nat}{k:Int}(h:hasB k n=true):((k.toNat:Nat):Int)=k∧k.toNat<n:=by
 have:=of_decide_eq_true h
 omega
def Op(A:Wa)(s:Wd)(w:World)(n:Int)(s':Wd)(e:Ending)(w':World):Prop:=e = .returned (eV n)∧∃ A',WdIs w' A' s'∧Fz A s w A' s' w'
theorem Op.none{A:Wa}{s:Wd}{w:World}(h:WdIs w A s):Op A s w 2 s (.returned (.iface 59 (.int .i64 2))) w:=⟨rfl,A,h,Fz.refl _ _ _⟩
theorem Op.nought{A:Wa}{s:Wd}{w w':World}(h:WdIs w A s)(hb:Below w.heap.size w w'):Op A s w 2 s (.returned (.iface 59 (.int .i64 2))) w':=by
 obtain⟨x,y⟩:=h.below hb
 exact⟨rfl,A,x,y⟩
theorem again_all(A:Wa)(s:Wd)(k:Int)(C:Nat)(w:World)(h:WdIs w A s)(hB:WdB s C)(hC:C≤1000000000) :
  Calls Tryz.prog 25 #[tp A.Q,.int .i64 k] w (Op A s w (s.hasE k) (s.againD k)):=by
 unfold Wd.hasE Wd.againD
 cases hk:s.has k with
 | true=>
  obtain⟨e1,e2⟩:=has_nat hk
  have hc:=againW_any A s k.toNat C w h e2 hB (by omega)
  rw[e1] at hc
  refine hc.mono ?_
  rintro e w' ⟨rfl,x,y⟩
  exact⟨rfl,A,x,y⟩
 | false=>
  refine(again_nix A s k w h hk).mono ?_
  rintro e w' ⟨rfl,rfl⟩
  exact Op.none h
theorem reborn_all(A:Wa)(s:Wd)(k:Int)(C:Nat)(w:World)(h:WdIs w A s)(hB:WdB s C)(hC:C≤1000000000) :
  Calls Tryz.prog 32 #[tp A.Q,.int .i64 k] w (Op A s w (s.hasE k) (s.rebornD k)):=by
 unfold Wd.hasE Wd.rebornD
 cases hk:s.has k with
 | true=>
  obtain⟨e1,e2⟩:=has_nat hk
  have hc:=reborn_any A s k.toNat C w h e2 hB (by omega)
  rw[e1] at hc
  refine hc.mono ?_
  rintro e w' ⟨rfl,A',x,y⟩
  exact⟨rfl,A',x,y⟩
 | false=>
  refine(reborn_nix A s k w h hk).mono ?_
  rintro e w' ⟨rfl,rfl⟩
  exact Op.none h
theorem deliver_all(A:Wa)(s:Wd)(k:Int)(C:Nat)(w:World)(h:WdIs w A s)(hB:WdB s C)(hC:C≤1000000000) :
  Calls Tryz.prog 26 #[tp A.Q,.int .i64 k] w (Op A s w (s.netE k) (s.deliverD k)):=by
 unfold Wd.netE Wd.deliverD
 cases hk:hasB k s.net.length with
 | true=>
  obtain⟨e1,e2⟩:=net_nat hk
  have hc:=deliver_any A s k.toNat C w h e2 hB (by omega)
  rw[e1] at hc
  refine hc.mono ?_
  rintro e w' ⟨rfl,x,y⟩
  exact⟨rfl,A,x,y⟩
 | false=>
  refine(deliver_nix A s k w h hk).mono ?_
  rintro e w' ⟨rfl,hb⟩
  exact Op.nought h hb
theorem lose_all(A:Wa)(s:Wd)(k:Int)(C:Nat)(w:World)(h:WdIs w A s)(hB:WdB s C)(_hC:C≤1000000000) :
  Calls Tryz.prog 27 #[tp A.Q,.int .i64 k] w (Op A s w (s.netE k) (s.loseD k)):=by
 unfold Wd.netE Wd.loseD
 cases hk:hasB k s.net.length with
 | true=>
  obtain⟨e1,e2⟩:=net_nat hk
  have hc:=lose_any A s k.toNat C w h e2 hB
  rw[e1] at hc
  refine hc.mono ?_
  rintro e w' ⟨rfl,x,y⟩
  exact⟨rfl,A,x,y⟩
 | false=>
  refine(lose_nix A s k w h hk).mono ?_
  rintro e w' ⟨rfl,hb⟩
  exact Op.nought h hb
theorem twice_all(A:Wa)(s:Wd)(k:Int)(C:Nat)(w:World)(h:WdIs w A s)(_hB:WdB s C)(_hC:C≤1000000000) :
  Calls Tryz.prog 28 #[tp A.Q,.int .i64 k] w (Op A s w (s.netE k) (s.twiceD k)):=by
 unfold Wd.netE Wd.twiceD
 cases hk:hasB k s.net.length with
 | true=>
  obtain⟨e1,e2⟩:=net_nat hk
  have hc:=twice_any A s k.toNat w h e2
  rw[e1] at hc
  refine hc.mono ?_
  rintro e w' ⟨rfl,x,y⟩
  exact⟨rfl,A,x,y⟩
 | false=>
  refine(twice_nix A s k w h hk).mono ?_
  rintro e w' ⟨rfl,rfl⟩
  exact Op.none h
theorem read_all(A:Wa)(s:Wd)(k o:Int)(C:Nat)(w:World)(h:WdIs w A s)(hB:WdB s C)(hC:C≤1000000000) :
  Calls Tryz.prog 16 #[tp A.Q,.int .i64 k,.int .i64 o] w (Op A s w (s.readE k o) (s.readD k o)):=by
 unfold Wd.readE Wd.readD
 cases hk:s.has k with
 | true=>
  obtain⟨e1,e2⟩:=has_nat hk
  have hc:=readW_any A s k.toNat C o w h e2 hB (by omega)
  rw[e1] at hc
  refine hc.mono ?_
  rintro e w' ⟨rfl,x,y⟩
  exact⟨rfl,A,x,y⟩
 | false=>
  refine(read_nix A s k o w h hk).mono ?_
  rintro e w' ⟨rfl,hb⟩
  exact Op.nought h hb
theorem write_all(A:Wa)(s:Wd)(k o:Int)(d:ByteArray)(C:Nat)(w:World)(h:WdIs w A s)(hB:WdB s C)(hC:C≤1000000000)(hd:d.size≤1000000) :
  Calls Tryz.prog 23 #[tp A.Q,.int .i64 k,.int .i64 o,.string d] w (Op A s w (s.writeE k o d) (s.writeD k o d)):=by
 unfold Wd.writeE Wd.writeD
 cases hk:s.has k with
 | true=>
  obtain⟨e1,e2⟩:=has_nat hk
  have hc:=writeW_any A s k.toNat C o d w h e2 hB (by omega) hd
  rw[e1] at hc
  refine hc.mono ?_
  rintro e w' ⟨rfl,x,y⟩
  exact⟨rfl,A,x,y⟩
 | false=>
  refine(write_nix A s k o d w h hk).mono ?_
  rintro e w' ⟨rfl,hb⟩
  exact Op.nought h hb
theorem goes_all(A:Wa)(s:Wd)(B:Nat)(v:Value)(l:List Int)(C:Nat)(w:World)(h:WdIs w A s)(hB:WdB s C)(hC:C≤1000000000)(hl:HasI w B v l)(hz:l.length≤1000000) :
  Calls Tryz.prog 37 #[tp A.Q,v] w (Op A s w (s.goesE l) (s.goesD l)):=by
 unfold Wd.goesE Wd.goesD
 cases hk:s.goesB l with
 | true=>
  unfold Wd.goesB at hk
  rw[Bool.and_eq_true] at hk
  obtain⟨h1,h2⟩:=hk
  refine(goesW_any A s C B v l w h hB (by omega) hl (of_decide_eq_true h1) (fun x hx=>?_) _ rfl _ (fun _=>rfl)).mono ?_
  ·have h3:l.any badG=false:=by simpa using h2
   have h4:=List.any_eq_false.1 h3 x hx
   unfold badG at h4
   simp at h4
   omega
  ·rintro e w' ⟨rfl,x,y⟩
   exact⟨rfl,A,x,y⟩
 | false=>
  refine(goes_nix A s B v l w h hl hz ?_).mono ?_
  ·unfold Wd.goesB at hk
   rw[Bool.and_eq_false_iff] at hk
   rcases hk with q|q
   ·exact .inl (of_decide_eq_false q)
   ·exact .inr (by simpa using q)
  ·rintro e w' ⟨rfl,rfl⟩
   exact Op.none h
theorem check_ev(n:Int)(h0:0≤n)(w:World)(hl:Bare.Laid w) :
  Calls Tryz.prog 144 #[eV n] w fun e w'=>e=(if n=0 then .returned (.tuple #[]) else thrown n)∧Below w.heap.size w w':=by
 by_cases hn:n=0
 ·subst hn
  refine(check_nil w).mono ?_
  rintro e w' ⟨rfl,rfl⟩
  exact⟨rfl,Below.refl _ _⟩
 ·rw[if_neg hn,show eV n = .iface 59 (.int .i64 n) from if_neg hn]
  exact check_err n w hl
end Wld
end
section
namespace Wld
open Go.RowKit Go.Maps
open Net (hasB)
def Bk(s:Wd)(C:Nat):Prop:=WdB s C∧Rk s∧Em s
theorem Bk.mono{s:Wd}{C D:Nat}(h:Bk s C)(hC:C≤D):Bk s D:=⟨h.1.mono hC,h.2⟩
theorem Bk.againD{s:Wd}{C:Nat}(h:Bk s C)(k:Int):Bk (s.againD k) (C+3):=by
 unfold Wd.againD
 split
 ·rename_i hk
  exact⟨(h.1.again (has_nat hk).2).mono (by omega),h.2.1.again _,h.2.2.again (has_nat hk).2⟩
 ·exact h.mono (by omega)
theorem Bk.rebornD{s:Wd}{C:Nat}(h:Bk s C)(k:Int):Bk (s.rebornD k) (C+3):=by
 unfold Wd.rebornD
 split
 ·rename_i hk
  exact⟨(h.1.reborn (has_nat hk).2).mono (by omega),h.2.1.reborn _,h.2.2.reborn _⟩
 ·exact h.mono (by omega)
theorem Bk.deliverD{s:Wd}{C:Nat}(h:Bk s C)(k:Int):Bk (s.deliverD k) (C+3):=by
 unfold Wd.deliverD
 split
 ·exact⟨(h.1.deliver _).mono (by omega),h.2.1.deliver _,h.2.2.deliver _⟩
 ·exact h.mono (by omega)
theorem Bk.loseD{s:Wd}{C:Nat}(h:Bk s C)(k:Int):Bk (s.loseD k) (C+3):=by
 unfold Wd.loseD
 split
 ·exact⟨(h.1.lose _).mono (by omega),h.2.1.lose _,h.2.2.lose _⟩
 ·exact h.mono (by omega)
theorem Bk.twiceD{s:Wd}{C:Nat}(h:Bk s C)(k:Int):Bk (s.twiceD k) (C+3):=by
 unfold Wd.twiceD
 split
 ·exact⟨(h.1.twice _).mono (by omega),h.2.1.twice _,h.2.2.twice _⟩
 ·exact h.mono (by omega)
theorem Bk.readD{s:Wd}{C:Nat}(h:Bk s C)(k o:Int):Bk (s.readD k o) (C+3):=by
 unfold Wd.readD
 split
 ·rename_i hk
  split
  ·rename_i he
   have hSB:=h.1.st k.toNat (has_nat hk).2
   have hK:=readK_KB hSB.k o hSB.c0 hSB.c1
   unfold K.readK at hK
   rw[if_pos he] at hK
   exact⟨h.1.begin (has_nat hk).2 hK,h.2.1.begin _ _,h.2.2.begin (has_nat hk).2 ((h.2.2.ks _ (has_nat hk).2).reads _ (freeE_range he).1 (freeE_range he).2)⟩
  ·exact h.mono (by omega)
 ·exact h.mono (by omega)
theorem Bk.writeD{s:Wd}{C:Nat}(h:Bk s C)(k o:Int)(d:ByteArray):Bk (s.writeD k o d) (C+3):=by
 unfold Wd.writeD
 split
 ·rename_i hk
  split
  ·rename_i he
   have hSB:=h.1.st k.toNat (has_nat hk).2
   have hK:=writeK_KB hSB.k o d hSB.c0 hSB.c1
   unfold K.writeK at hK
   rw[if_pos he] at hK
   exact⟨h.1.begin (has_nat hk).2 hK,h.2.1.begin _ _,h.2.2.begin (has_nat hk).2 ((h.2.2.ks _ (has_nat hk).2).begin _ 2 (writeE_range he).2.2 I64.zero false false (writeE_range he).1 (writeE_range he).2.1)⟩
  ·exact h.mono (by omega)
 ·exact h.mono (by omega)
theorem badG_pos{l:List Int}(h:l.any badG=false)(i:Nat):0≤l.getD i 0:=by
 rw[List.getD_eq_getElem?_getD]
 cases hi:l[i]? with
 | none=>exact Int.le_refl 0
 | some x=>
  have h1:=List.any_eq_false.1 h x (List.mem_of_getElem? hi)
  unfold badG at h1
  simp at h1
  exact h1.1
theorem Bk.goesD{s:Wd}{C:Nat}(h:Bk s C)(l:List Int):Bk (s.goesD l) (C+3):=by
 unfold Wd.goesD
 split
 ·rename_i hk
  unfold Wd.goesB at hk
  rw[Bool.and_eq_true] at hk
  have h3:l.any badG=false:=by simpa using hk.2
  exact⟨(h.1.goes (badG_pos h3 0) (fun i _=>badG_pos h3 (1+i))).mono (by omega),h.2.1.goes _ _,h.2.2.goes _ _⟩
 ·exact h.mono (by omega)
theorem Bk.failing{s:Wd}{C:Nat}(h:Bk s C){x:Int}(hx:x≤9223372036854775807)(t:Int):Bk (s.failing x t) (C+3):=⟨(h.1.failing hx t).mono (by omega),h.2.1.failing x t,h.2.2.failing x t⟩
theorem Bk.crash{s:Wd}{C:Nat}(h:Bk s C):Bk s.crash (C+3):=⟨h.1.crash.mono (by omega),h.2.1.crash,h.2.2.crash⟩
theorem Bk.restart{s:Wd}{C:Nat}(h:Bk s C):Bk s.restart (C+3):=⟨h.1.restartA.mono (by omega),h.2.1.restart,h.2.2.restart⟩
theorem Bk.calm{s:Wd}{C:Nat}(h:Bk s C)(n4:s.n≤4)(r:Nat):Bk (s.calm r) (C+18000*r):=⟨h.1.calmA n4 r,h.2.1.calm r,h.2.2.calm r⟩
theorem Bk.fresh{tob tv td n:Int}(h:beginB tob tv td n=true)(C:Nat):Bk (Wd.bare tob tv td n.toNat).start C:=by
 unfold beginB mayT at h
 simp at h
 obtain⟨⟨h1,h2,h3,h4,h5⟩,h6,h7⟩:=h
 exact⟨((WdB.bare h1 h2 h3 h4 h5).start (by simp[Wd.bare])).mono (Nat.zero_le _),Rk.start ⟨fun r hr=>by simp[Wd.bare] at hr,fun v hv=>by cases hv⟩,Em.fresh _ _ _ (by omega)⟩
theorem Ds.bk{B N d:Nat}{M:Value}{w:World}{A:Wa}{s:Wd}{C:Nat}(h:Ds B N d M w A s C):Bk s C:=⟨h.num,h.rk,h.em⟩
theorem Wd.hasE_pos(s:Wd)(k:Int):0≤s.hasE k:=by unfold Wd.hasE;split<;>omega
theorem Wd.netE_pos(s:Wd)(k:Int):0≤s.netE k:=by unfold Wd.netE;split<;>omega
theorem K.freeE_pos(k:K)(o:Int):0≤k.freeE o:=by
 unfold K.freeE
 split
 ·omega
 ·split<;>omega
theorem Wd.readE_pos(s:Wd)(k o:Int):0≤s.readE k o:=by
 unfold Wd.readE
 split
 ·exact K.freeE_pos _ _
 ·omega
theorem Wd.writeE_pos(s:Wd)(k o:Int)(d:ByteArray):0≤s.writeE k o d:=by
 unfold Wd.writeE K.writeE
 split
 ·split
  ·exact K.freeE_pos _ _
  ·split<;>omega
 ·omega
theorem Wd.goesE_pos(s:Wd)(l:List Int):0≤s.goesE l:=by unfold Wd.goesE;split<;>omega
theorem Ds.done{B N d:Nat}{M:Value}{w w2 w3 w4:World}{A A':Wa}{s s':Wd}{C C':Nat}(h:Ds B N d M w A s C)(hb:Below w.heap.size w w2)(hw:WdIs w3 A' s')(f:Fz A s w2 A' s' w3)(hk:Bk s' C')(hb4:Below w3.heap.size w3 w4):Ds B N d M w4 A' s' C'∧Dz N d w w4:=by
 obtain⟨x1,z1⟩:=h.below hb
 obtain⟨x2,z2⟩:=x1.fz hw f hk.1 hk.2.1 hk.2.2
 obtain⟨x3,z3⟩:=x2.below hb4
 exact⟨x3,z1.trans (z2.trans z3)⟩
end Wld
end
end Go.Proofs.YtbebfliimjjohabGreatDoor
