/- Parts of the proof. -/
import Derived.Test.YtbebfliimjjohabGreatDoorLc35
import Derived.Test.YtbebfliimjjohabGreatDoorLc33
import Derived.Laws.Tables
set_option maxRecDepth 100000
set_option maxHeartbeats 8000000
namespace Go.Proofs.YtbebfliimjjohabGreatDoor
section
namespace Wld
open Go.RowKit Go.Maps
open Lease (upd zae zad hol dels mx kk isH)
open Cache (E era putL)
open Wal (R mayB timeB)
open Num (M okB)
theorem zji(w:Wd)(k:Nat)(c0 c:K)(h0:c0.over=false):w.began k c=((w.began k c0).setK k c).note k:=by
 have hs:(w.opens k c).seat k=⟨c,(w.seat k).clock,(w.seat k).life,w.events.length⟩:=zaa _ _ _
 have hb:=zca w k c0 h0
 have hs2:(w.began k c0).seat k=⟨c0,(w.seat k).clock,(w.seat k).life,w.events.length⟩:=by rw[hb];exact zaa _ _ _
 rw[zej _ _ _ (by rw[hs2];dsimp only;omega)]
 unfold Wd.wrote
 rw[hs2,hb]
 unfold Wd.began Wd.note
 rw[if_neg (by rw[hs];dsimp only;omega),hs]
 unfold Wd.opens
 dsimp only
 have e1:∀ (e e2:Ev),e.client=e2.client->e.began=e2.began->e.ended=e2.ended->e.life=e2.life->(w.events++[e]).modify ((w.events.length:Int)).toNat (fun e=>e.noted c (w.step+1))=(w.events++[e2]).modify ((w.events.length:Int)).toNat (fun e=>e.noted c (w.step+1)):=by
  intro e e2 q1 q2 q3 q4
  apply List.ext_getElem?
  intro i
  rw[zb1,zb1]
  by_cases hi:i<w.events.length
  ·have hq:¬ ((w.events.length:Int)).toNat=i:=by omega
   simp only[hq,if_false,List.getElem?_append_left hi]
  ·rw[List.getElem?_append_right (by omega),List.getElem?_append_right (by omega)]
   by_cases h0:i-w.events.length=0
   ·have hq:((w.events.length:Int)).toNat=i:=by omega
    simp only[hq,if_true,h0]
    show some (e.noted c (w.step+1))=some (e2.noted c (w.step+1))
    unfold Ev.noted
    rw[q1,q2,q3,q4]
   ·have hq:¬ ((w.events.length:Int)).toNat=i:=by omega
    simp only[hq,if_false,List.getElem?_singleton,h0]
 have e2:∀ (a b d:St),zy9 (zy9 w.seat k a) k d=zy9 (zy9 w.seat k b) k d:=by
  intro a b d
  funext j
  unfold zy9
  split<;>simp_all
 rw[e1 ⟨k,0,0,⟨#[]⟩,0,false,false,w.step+1,0,(w.seat k).life⟩ ⟨k,c0.kind,c0.cob,c0.d,c0.ver,false,c0.hit,w.step+1,0,(w.seat k).life⟩ rfl rfl rfl rfl,e2 ⟨c,(w.seat k).clock,(w.seat k).life,w.events.length⟩ ⟨c0,(w.seat k).clock,(w.seat k).life,w.events.length⟩ _]
theorem zqy{k:K}{o:Int}{x:E}(h:x∈(k.looked o).kept):x∈k.kept:=by
 unfold K.looked at h
 split at h
 ·exact h
 ·rename_i y hy
  rcases zdz h with q|q
  ·rw[q];exact List.mem_of_find?_eq_some hy
  ·exact q
theorem zch(k:K)(o:Int):(k.looked o).id=k.id/\(k.looked o).num=k.num/\(k.looked o).kind=k.kind/\(k.looked o).cob=k.cob/\(k.looked o).d=k.d/\(k.looked o).seen=k.seen/\(k.looked o).over=k.over/\(k.looked o).ep=k.ep/\(k.looked o).ses=k.ses/\(k.looked o).til=k.til/\(k.looked o).sent=k.sent/\(k.looked o).obj=k.obj/\(k.looked o).vol=k.vol/\(k.looked o).asked=k.asked/\(k.looked o).renewal=k.renewal/\(k.looked o).coming=k.coming:=by
 unfold K.looked
 split<;>exact⟨rfl,rfl,rfl,rfl,rfl,rfl,rfl,rfl,rfl,rfl,rfl,rfl,rfl,rfl,rfl,rfl⟩
theorem zmy{k:K}{o now:Int}{x:E}(h:k.has o now=some x):x∈k.kept/\x.o=o/\now<x.u/\now<k.til/\k.seen o<=x.v:=by
 unfold K.has at h
 split at h
 ·cases h
 ·rename_i y hy
  split at h
  ·cases h
  ·rename_i hn
   have e:y=x:=Option.some.inj h
   subst e
   have h1:=List.find?_some hy
   have h2:=List.mem_of_find?_eq_some hy
   exact⟨h2,of_decide_eq_true h1,by omega,by omega,by omega⟩
def K.readB(k:K)(o now:Int):K:=(k.begin 1 o ⟨#[]⟩ 0 false false now).looked o
theorem zio(k:K)(o now:Int):(k.readB o now).id=k.id/\(k.readB o now).num=k.num+1/\(k.readB o now).kind=1/\(k.readB o now).cob=o/\(k.readB o now).seen=k.seen/\(k.readB o now).over=false/\(k.readB o now).ep=k.ep/\(k.readB o now).ses=k.ses/\(k.readB o now).til=k.til/\(k.readB o now).sent=now/\(k.readB o now).obj=k.obj/\(k.readB o now).vol=k.vol/\(k.readB o now).asked=k.asked/\(k.readB o now).renewal=k.renewal/\(k.readB o now).coming=0/\∀ x∈(k.readB o now).kept,x∈k.kept:=by
 obtain⟨h1,h2,h3,h4,_,h6,h7,h8,h9,h10,h11,h12,h13,h14,h15,h16⟩:=zch (k.begin 1 o ⟨#[]⟩ 0 false false now) o
 exact⟨h1,h2,h3,h4,h6,h7,h8,h9,h10,h11,h12,h13,h14,h15,h16,fun x hx=>zqy (k:=k.begin 1 o ⟨#[]⟩ 0 false false now) (o:=o) hx⟩
theorem Inv.readBegan{w:Wd}{H:List Hc}{L:List M}{B:Nat}(h:Inv w H L B){k:Nat}(hk:k<w.n)(hst:0<=w.step){o:Int}(ho:0<=o)(ho8:o<8)(hf:(w.seat k).k.zy2=false):Inv (w.began k ((w.seat k).k.reads o (w.seat k).clock)) (H++[w.hc k ((w.seat k).k.readB o (w.seat k).clock)]) L B:=by
 have hs:=h.st k hk
 obtain⟨r1,r2,r3,r4,r5,r6,_,_,_,_,_,_,_,_,_,r16⟩:=zio (w.seat k).k o (w.seat k).clock
 have hb:KBegin w k ((w.seat k).k.readB o (w.seat k).clock):=⟨r1,r2,.inl r3,by rw[r4];exact ho,by rw[r4];exact ho8,fun x hx=>hs.kept x (r16 x hx),r5,r6⟩
 have h1:=h.began hk hst hb hf fun q=>by rw[r3] at q;exact absurd q (by decide)
 unfold K.reads
 split
 ·exact h1
 ·rename_i x hx
  obtain⟨x1,x2,x3,x4,x5⟩:=zmy hx
  rw[zji w k ((w.seat k).k.readB o (w.seat k).clock) _ r6]
  have hs2:(w.began k ((w.seat k).k.readB o (w.seat k).clock)).seat k=⟨(w.seat k).k.readB o (w.seat k).clock,(w.seat k).clock,(w.seat k).life,w.events.length⟩:=by rw[zca w k _ r6];exact zaa _ _ _
  have hrs:(w.began k ((w.seat k).k.readB o (w.seat k).clock)).rs=w.rs:=by rw[zca w k _ r6]
  have hn:(w.began k ((w.seat k).k.readB o (w.seat k).clock)).n=w.n:=by rw[zca w k _ r6]
  refine h1.noted (by rw[hn];exact hk) ?_
  have hval:IsVal w.rs o x.v x.d:=by rw[<- x2];exact hs.kept x x1
  refine⟨by rw[hs2];rfl,by rw[hs2];rfl,by rw[hs2];rfl,by rw[hs2];rfl,fun q=>?_,?_,?_,.inr ⟨?_,rfl,?_,fun _=>⟨?_,?_⟩,fun q=>?_⟩⟩
  ·rw[hs2] at q;dsimp only at q;rw[r3] at q;exact absurd q (by decide)
  ·rw[hrs];exact fun y hy=>hs.kept y (r16 y hy)
  ·rw[hs2];exact fun y=>zmx (zd2 _ _) y
  ·rw[hs2];show K.zy2 _=true;rw[K.isOpen_iff,r3,r6];exact⟨by decide,rfl⟩
  ·show x.v<=upd _ _ _ _
   exact Int.le_trans (zfc _ _) (Int.le_of_eq (zae _ _ _).symm)
  ·rw[hrs];show IsVal w.rs ((w.seat k).k.readB o (w.seat k).clock).cob x.v x.d;rw[r4];exact hval
  ·rw[hs2];show ((w.seat k).k.readB o (w.seat k).clock).seen ((w.seat k).k.readB o (w.seat k).clock).cob<=x.v;rw[r4,r5];exact x5
  ·rw[hs2] at q;dsimp only at q;rw[r3] at q;exact absurd q (by decide)
theorem zo3(w:Wd)(k:Nat)(c:K):(w.began k c).n=w.n:=zmt _ k
theorem Inv.writeBegan{w:Wd}{H:List Hc}{L:List M}{B:Nat}(h:Inv w H L B){k:Nat}(hk:k<w.n)(hst:0<=w.step){o:Int}(ho:0<=o)(ho8:o<8)(hf:(w.seat k).k.zy2=false){d:ByteArray}(hd:d≠⟨#[]⟩)(hdd:∀ g∈H,g.kd=2->g.d≠d):Inv (w.began k ((w.seat k).k.begin 2 o d 0 false false (w.seat k).clock)) (H++[w.hc k ((w.seat k).k.begin 2 o d 0 false false (w.seat k).clock)]) L B:=by
 have hs:=h.st k hk
 exact h.began hk hst ⟨rfl,rfl,.inr rfl,ho,ho8,hs.kept,rfl,rfl⟩ hf fun _=>⟨hd,hdd⟩
theorem Inv.enter{w:Wd}{H:List Hc}{L:List M}{B:Nat}(h:Inv w H L B){k:Nat}(hk:k<w.n):Inv (w.enter k ((w.seat k).life+1)) H L B:=by
 have hs:=h.st k hk
 have hn4:=h.n4
 refine⟨h.n4,h.len,h.eh,h.an,h.bg,h.mo,h.bef,h.lol,h.hs,h.hd,h.hne,h.n1,h.net,h.msg,h.sv,h.log,h.epc,fun j hj=>?_⟩
 by_cases e:j=k
 ·subst e
  obtain⟨sj,hsj⟩:∃ sj:St,sj = { w.seat j with k:=K.new (((w.seat j).life+1)*4+j) (short w.td w.to) (short w.td w.tv),life:=(w.seat j).life+1,call:=-1 }:=⟨_,rfl⟩
  have es:(w.enter j ((w.seat j).life+1)).seat j=sj:=by rw[hsj];exact zaa _ _ _
  have f1:sj.k=K.new (((w.seat j).life+1)*4+j) (short w.td w.to) (short w.td w.tv)/\sj.life=(w.seat j).life+1/\sj.call = -1:=by rw[hsj];exact⟨rfl,rfl,rfl⟩
  obtain⟨f1,f2,f3⟩:=f1
  have hid:=hs.id
  have hno:∀ (i:Nat) x g,w.events[i]?=some x->H[i]?=some g->x.client=j->x.life<=(w.seat j).life:=fun i x g hx hg e1=>by
   have hE:=h.eh i x g hx hg
   have h1:=hE.c
   have h2:zy8 g.c=j:=by
    unfold zy8
    rw[h1,e1]
    have:=hE.l0
    omega
   have h3:=hs.liv g (List.mem_of_getElem? hg) h2
   omega
  refine⟨by rw[es,f1,f2];rfl,by rw[es,f2];have:=hs.l0;omega,by rw[es,f1];exact Int.le_refl 0,?_,?_,by rw[es,f3];intro q;omega,by rw[es,f1,f3];rfl,by rw[es,f1];intro x hx;exact(by cases hx),?_⟩
  ·rw[es,f1]
   intro g hg e1
   exfalso
   have e1':g.c=((w.seat j).life+1)*4+j:=e1
   have h2:zy8 g.c=j:=by
    unfold zy8
    rw[e1']
    have:=hs.l0
    omega
   have h3:=hs.liv g hg h2
   omega
  ·rw[es,f1]
   intro g hg e1
   have h3:=hs.liv g hg e1
   show g.c<=((w.seat j).life+1)*4+j
   omega
  ·rw[es,f2]
   intro x hx e1 e2 e3
   exfalso
   obtain⟨i,hi⟩:=List.getElem?_of_mem hx
   have hl:i<H.length:=by rw[h.len];exact(List.getElem?_eq_some_iff.1 hi).1
   have:=hno i x _ hi (List.getElem?_eq_getElem hl) e1
   omega
 ·have hsj:=h.st j hj
  have es:(w.enter k ((w.seat k).life+1)).seat j=w.seat j:=zag _ _ e
  exact⟨by rw[es];exact hsj.id,by rw[es];exact hsj.l0,by rw[es];exact hsj.n0,by rw[es];exact hsj.num,by rw[es];exact hsj.liv,by rw[es];exact hsj.opn,by rw[es];exact hsj.isO,by rw[es];exact hsj.kept,by rw[es];exact hsj.seen⟩
theorem Inv.reborn{w:Wd}{H:List Hc}{L:List M}{B:Nat}(h:Inv w H L B){k:Nat}(hk:k<w.n):Inv (w.reborn k) H L B:=Inv.enter (w:={ w with step:=w.step+1 }) h.stepped hk
def Wd.bare(to' tv td:Int)(n:Nat):Wd:=⟨to',tv,td,[],false,0,[],none,0,n,fun k=>⟨K.new k (short td to') (short td tv),0,0,-1⟩,[],0⟩
theorem Inv.bare(to' tv td:Int){n:Nat}(hn:n<=4):Inv (Wd.bare to' tv td n) [] [] 0:=
 ⟨hn,rfl,fun i e h he _=>by simp[Wd.bare] at he,fun i e h he _=>by simp[Wd.bare] at he,fun e he=>by simp[Wd.bare] at he,fun i j e x _ he _=>by simp[Wd.bare] at he,fun e he=>by simp[Wd.bare] at he,fun h hh=>by simp at hh,by simp,by simp,by simp,by simp,fun p hp=>by simp[Wd.bare] at hp,by simp,fun s hs=>by simp[Wd.bare] at hs,LogIs.zero [],by simp[Wd.bare],
  fun k _=>⟨by simp[Wd.bare,K.new],Int.le_refl 0,Int.le_refl 0,by simp,by simp,fun q=>by simp[Wd.bare] at q,rfl,fun x hx=>by simp[Wd.bare,K.new] at hx,fun e he=>by simp[Wd.bare] at he⟩⟩
theorem zg4{s:Sv}(m:M)(o:Nat)(hd:s.down=false)(hf:s.fails=false):(s.commit m o).2.2=true/\(s.commit m o).1.down=false/\(s.commit m o).1.fails=false:=by
 have ha:s.add (s.recd m o)=if s.rs.length=200 then (s,12) else ({ s with rs:=s.rs++[s.recd m o],left:=if s.fails=true then s.left-1 else s.left },0):=by
  unfold Sv.add
  rw[if_neg (by rw[hd];decide)]
  split
  ·rfl
  ·rw[if_neg (by rw[hf];simp)]
 unfold Sv.commit
 rw[ha]
 by_cases h:s.rs.length=200
 ·rw[if_pos h,if_neg (show ¬ (12:Int)=0 by decide)]
  exact⟨by dsimp only;rw[hd];rfl,hd,hf⟩
 ·rw[if_neg h,if_pos rfl]
  obtain⟨_,_,_,h4,h5,_⟩:=za7 { s with rs:=s.rs++[s.recd m o],left:=if s.fails=true then s.left-1 else s.left } (s.recd m o)
  exact⟨rfl,h4.trans hd,h5.trans hf⟩
theorem S1.up{T:Int}{s s':Sv}{L L':List M}(k:S1 T s L s' L')(hd:s.down=false)(hf:s.fails=false):s'.down=false/\s'.fails=false:=by
 cases k with
 | flush=>exact⟨hd,hf⟩
 | commit o m rest=>exact⟨(zg4 m o hd hf).2.1,(zg4 m o hd hf).2.2⟩
 | fall o m rest ho hd' hw ok=>rw[(zg4 m o hd hf).1] at ok;cases ok
 | enq=>exact⟨hd,hf⟩
 | value o m=>unfold Sv.lent;split<;>exact⟨hd,hf⟩
 | grant=>exact⟨hd,hf⟩
 | flushM=>exact⟨hd,hf⟩
 | inval=>exact⟨hd,hf⟩
 | drop=>exact⟨hd,hf⟩
 | redone=>exact⟨hd,hf⟩
theorem Ss.up{T:Int}{s s':Sv}{L L':List M}(k:Ss T s L s' L'):s.down=false->s.fails=false->s'.down=false/\s'.fails=false:=by
 induction k with
 | refl=>exact fun a b=>⟨a,b⟩
 | head k1 _ ih=>exact fun a b=>ih (k1.up a b).1 (k1.up a b).2
def Wd.pen(w:Wd):Nat:=match w.sv with
 | none=>1
 | some s=>if s.fails=true then 1 else 0
theorem zmz(w:Wd):w.pen<=1:=by unfold Wd.pen;split<;>(try split)<;>omega
structure InvB(w:Wd)(H:List Hc)(L:List M)(b:Nat):Prop where
 inv:∃ B,Inv w H L B/\B+w.pen<=b
 up:∀ s,w.sv=some s->s.down=false
 st:0<=w.step
theorem zjj(w:Wd)(t:Int)(m:M):(w.put t m).sv=w.sv/\(w.put t m).step=w.step/\(w.put t m).n=w.n:=by
 unfold Wd.put
 split<;>exact⟨rfl,rfl,rfl⟩
theorem zdu(t:Int):∀ (l:List M) (w:Wd),(w.send t l).sv=w.sv/\(w.send t l).step=w.step
 | [],_=>⟨rfl,rfl⟩
 | m :: l,w=>⟨(zdu t l (w.put t m)).1.trans (zjj w t m).1,(zdu t l (w.put t m)).2.trans (zjj w t m).2.1⟩
theorem zek:∀ (l:List M) (w:Wd),(w.tells l).sv=w.sv/\(w.tells l).step=w.step
 | [],_=>⟨rfl,rfl⟩
 | m :: l,w=>⟨(zek l (w.put (zy8 m.c:Nat) m)).1.trans (zjj w _ m).1,(zek l (w.put (zy8 m.c:Nat) m)).2.trans (zjj w _ m).2.1⟩
theorem zfd(w:Wd)(k:Nat):(w.note k).sv=w.sv/\(w.note k).step=w.step:=by
 unfold Wd.note
 split<;>exact⟨rfl,rfl⟩
theorem InvB.same{w w':Wd}{H H':List Hc}{L L':List M}{b:Nat}(h:InvB w H L b)(hs:w'.sv=w.sv)(ht:w.step<=w'.step)(hi:∀ B,Inv w H L B->Inv w' H' L' B):InvB w' H' L' b:=
 ⟨h.inv.imp fun B k=>⟨hi B k.1,by
                   have:w'.pen=w.pen:=by unfold Wd.pen;rw[hs]
                   omega⟩,fun s hq=>h.up s (by rw[<- hs];exact hq),by have:=h.st;omega⟩
theorem InvB.mono{w:Wd}{H:List Hc}{L:List M}{b c:Nat}(h:InvB w H L b)(hb:b<=c):InvB w H L c:=⟨h.inv.imp fun B k=>⟨k.1,by omega⟩,h.up,h.st⟩
theorem ztp(w:Wd)(r:Sv×List M):(w.answer r).sv=(if r.1.down=true then none else some r.1)/\(w.answer r).step=w.step:=by
 have e1:((w.served r.1).tells r.2).sv=some r.1:=(zek r.2 _).1
 have e2:((w.served r.1).tells r.2).step=w.step:=(zek r.2 _).2
 unfold Wd.answer Wd.fallen
 rw[e1]
 dsimp only
 by_cases h:r.1.down=true
 ·rw[if_pos h,if_pos h];exact⟨rfl,e2⟩
 ·rw[if_neg h,if_neg h];exact⟨e1,e2⟩
theorem InvB.answer{w:Wd}{H:List Hc}{L:List M}{b:Nat}(h:InvB w H L b)(hb:H.length+b<200){s:Sv}(hs:w.sv=some s){r:Sv×List M}(hr:Ss w.clock s L r.1 (L++r.2)):InvB (w.answer r) H (L++r.2) b:=by
 obtain⟨e1,e2⟩:=ztp w r
 refine⟨h.inv.imp fun B k=>⟨k.1.answer (by omega) hs hr,?_⟩,?_,by rw[e2];exact h.st⟩
 ·have hp:(w.answer r).pen<=w.pen:=by
   cases hf:s.fails
   ·have:=hr.up (h.up s hs) hf
    unfold Wd.pen
    rw[e1,if_neg (by rw[this.1];decide)]
    dsimp only
    rw[this.2]
    simp
   ·have:w.pen=1:=by unfold Wd.pen;rw[hs];dsimp only;rw[hf];rfl
    rw[this]
    exact zmz _
  omega
 ·intro s' hs'
  rw[e1] at hs'
  split at hs'
  ·cases hs'
  ·rename_i q
   rw[<- Option.some.inj hs']
   simpa using q
end Wld
end
section
namespace Wld
open Go.RowKit Go.Maps
open Lease (Ob I64 upd TabIs hol dels objB HasI zaj zaw mx)
open Cache (tp zab zac)
open Wal (R WalIs zzb Oq Fw rcells)
open Num (M okB strOf ints)
open Net (NetIs Only pcells)
def isZ:Value->Bool
 | .int .u8 0=>true
 | _=>false
theorem zys{v:Value}(h:isZ v=true):v = .int .u8 0:=by
 unfold isZ at h
 split at h
 ·rfl
 ·cases h
theorem zx2:((Tryz.zeroCells81.toList.drop 3).take 12400).all isZ=true:=by kernel_rfl
theorem zo4:Tryz.zeroCells81.toList.drop 12403 = [.bool false,.int .i64 0,.slice none 0 0,.int .i64 0,.pointer none,.int .i64 0,.slice none 0 0,.slice none 0 0,.int .i64 0]:=by kernel_rfl
theorem ztq:Tryz.zeroCells81.toList.length=12412:=by
 have:=congrArg List.length zo4
 rw[List.length_drop] at this
 simp only[List.length_cons,List.length_nil] at this
 omega
theorem zwx(i:Nat)(h:i<12400):Tryz.zeroCells81[3+i]?=some (.int .u8 0):=by
 have hl:=ztq
 rw[<- Array.getElem?_toList]
 have hi:3+i<Tryz.zeroCells81.toList.length:=by omega
 have hm:((Tryz.zeroCells81.toList.drop 3).take 12400)[i]?=some Tryz.zeroCells81.toList[3+i]:=by
  rw[List.getElem?_take,if_pos h,List.getElem?_drop,List.getElem?_eq_getElem hi]
 rw[List.getElem?_eq_getElem hi,zys (List.all_eq_true.1 zx2 _ (List.mem_of_getElem? hm))]
theorem zcs(i:Nat):Tryz.zeroCells81[12403+i]? = [Value.bool false,.int .i64 0,.slice none 0 0,.int .i64 0,.pointer none,.int .i64 0,.slice none 0 0,.slice none 0 0,.int .i64 0][i]?:=by
 rw[<- Array.getElem?_toList,<- List.getElem?_drop,zo4]
def wcells(z:Array Value)(tob tv td:Int)(G n:Nat):Array Value:=(((z.setIfInBounds 0 (.int .i64 tob)).setIfInBounds 1 (.int .i64 tv)).setIfInBounds 2 (.int .i64 td)).setIfInBounds 12409 (.slice (some ⟨G,0,none⟩) n n)
theorem zg5(tob tv td:Int)(G n i:Nat)(h0:3<=i)(h1:i≠12409):(wcells Tryz.zeroCells81 tob tv td G n)[i]?=Tryz.zeroCells81[i]?:=by
 unfold wcells
 rw[Array.getElem?_setIfInBounds_ne (by omega),Array.getElem?_setIfInBounds_ne (by omega),Array.getElem?_setIfInBounds_ne (by omega),Array.getElem?_setIfInBounds_ne (by omega)]
theorem zfe:Tryz.zeroCells81.size=12412:=by rw[<- Array.length_toList];exact ztq
theorem zm0(tob tv td:Int)(G n:Nat):(wcells Tryz.zeroCells81 tob tv td G n)[0]?=some (.int .i64 tob):=by
 unfold wcells
 rw[Array.getElem?_setIfInBounds_ne (by omega),Array.getElem?_setIfInBounds_ne (by omega),Array.getElem?_setIfInBounds_ne (by omega),Array.getElem?_setIfInBounds_self_of_lt (by rw[zfe];omega)]
theorem zm1(tob tv td:Int)(G n:Nat):(wcells Tryz.zeroCells81 tob tv td G n)[1]?=some (.int .i64 tv):=by
 unfold wcells
 rw[Array.getElem?_setIfInBounds_ne (by omega),Array.getElem?_setIfInBounds_ne (by omega),Array.getElem?_setIfInBounds_self_of_lt (by rw[Array.size_setIfInBounds,zfe];omega)]
theorem zm2(tob tv td:Int)(G n:Nat):(wcells Tryz.zeroCells81 tob tv td G n)[2]?=some (.int .i64 td):=by
 unfold wcells
 rw[Array.getElem?_setIfInBounds_ne (by omega),Array.getElem?_setIfInBounds_self_of_lt (by rw[Array.size_setIfInBounds,Array.size_setIfInBounds,zfe];omega)]
theorem zip(tob tv td:Int)(G n:Nat):(wcells Tryz.zeroCells81 tob tv td G n)[12409]?=some (.slice (some ⟨G,0,none⟩) n n):=by
 unfold wcells
 rw[Array.getElem?_setIfInBounds_self_of_lt (by rw[Array.size_setIfInBounds,Array.size_setIfInBounds,Array.size_setIfInBounds,zfe];omega)]
structure Nb(w wr:World)(Q G n k:Nat)(tob tv td:Int)(c m:Nat->Nat):Prop where
 bl:Below w.heap.size w wr
 q:wr.heap[Q]?=some (.cells (wcells Tryz.zeroCells81 tob tv td G n) 81)
 g:isC wr G 90
 gf:∀ i,wr.frozen? ⟨G,i,none⟩=false
 seats:∀ i,i<k->SeatIs wr G i (c i) ⟨K.new i (short td tob) (short td tv),0,0,-1⟩
 rest:∀ i,k<=i->i<n->wr.cell? ⟨G,i*4,none⟩=some (.pointer none)/\wr.cell? ⟨G,i*4+1,none⟩=some (.int .i64 0)/\wr.cell? ⟨G,i*4+2,none⟩=some (.int .i64 0)/\wr.cell? ⟨G,i*4+3,none⟩=some (.int .i64 0)
 cli:∀ i,i<k->zza wr (c i) (m i) (K.new i (short td tob) (short td tv))
 lo:∀ i,i<k->Q<c i/\Q<m i
 ap:∀ i j,i<k->j<k->i≠j->c i≠c j/\m i≠m j
theorem Nb.cell{w wr:World}{Q G n k:Nat}{tob tv td:Int}{c m:Nat->Nat}(h:Nb w wr Q G n k tob tv td c m)(i:Nat):wr.cell? ⟨Q,i,none⟩=(wcells Tryz.zeroCells81 tob tv td G n)[i]?:=cell_of_row _ _ _ _ _ _ h.q
theorem Nb.done{w wr:World}{Q G n:Nat}{tob tv td:Int}{c m:Nat->Nat}(h:Nb w wr Q G n n tob tv td c m)(hn1:1<=n)(hn4:n<=4)(a:Ad):WdIs wr ⟨Q,G,c,m,a⟩ (Wd.bare tob tv td n):=by
 have hQ:Q<wr.heap.size:=(Array.getElem?_eq_some_iff.1 h.q).1
 have hf:∀ i,wr.frozen? ⟨Q,i,none⟩=false:=fun i=>by
  simp[World.frozen?,h.q]
 have e:∀ i,3<=i->i≠12409->wr.cell? ⟨Q,i,none⟩=Tryz.zeroCells81[i]?:=fun i h0 h1=>(h.cell i).trans (zg5 _ _ _ _ _ _ h0 h1)
 refine⟨⟨⟨_,_,h.q⟩,hf,(h.cell 0).trans (zm0 ..),(h.cell 1).trans (zm1 ..),(h.cell 2).trans (zm2 ..),(e 12407 (by omega) (by omega)).trans (zcs 4),(e 12408 (by omega) (by omega)).trans (zcs 5),(h.cell 12409).trans (zip ..),(e 12411 (by omega) (by omega)).trans (zcs 8)⟩,?_,?_,⟨.slice none 0 0,(e 12410 (by omega) (by omega)).trans (zcs 7),?_⟩,h.g,h.gf,h.seats,h.cli,h.ap,fun v hv=>(by cases hv),hn1,hn4⟩
 ·refine⟨fun k hk=>(by simp[Wd.bare] at hk),fun k hk j hj=>⟨by rw[e _ (by omega) (by omega),show 3+k*62+j=3+(k*62+j) by omega,zwx _ (by omega)];rfl,hf _⟩,fun k _ hk=>?_,(e 12403 (by omega) (by omega)).trans (zcs 0),(e 12404 (by omega) (by omega)).trans (zcs 1),hf,by simp[Wd.bare],by simp[Wd.bare]⟩
  rw[e _ (by omega) (by omega),show 3+k*62+61=3+(k*62+61) by omega,zwx _ (by omega)]
 ·exact⟨⟨.slice none 0 0,(e 12405 (by omega) (by omega)).trans (zcs 2),⟨rfl,.inl ⟨rfl,rfl⟩⟩⟩,⟨0,(e 12406 (by omega) (by omega)).trans (zcs 3)⟩,hf,by show Q<Q+1;omega,by show Q+1<=wr.heap.size;omega,by simp[Wd.bare]⟩
 ·exact⟨rfl,.inl ⟨rfl,rfl⟩⟩
theorem Nb.more{w wr w2:World}{Q G n k:Nat}{tob tv td:Int}{c m:Nat->Nat}(h:Nb w wr Q G n k tob tv td c m)(hk:k<n)(hQG:G<Q)(hw:w.heap.size<=G){x q:Nat}(hb:Below wr.heap.size wr w2)(hC:zza w2 x q (K.new k (short td tob) (short td tv)))(hx:wr.heap.size<=x)(hq:wr.heap.size<=q) :
  Nb w (seated w2 G k x 0) Q G n (k+1) tob tv td (zy9 c k x) (zy9 m k q):=by
 have hQ:Q<wr.heap.size:=(Array.getElem?_eq_some_iff.1 h.q).1
 obtain⟨m1,m2,m3,m4⟩:=zh6 w2 G k x 0
 have hs2:=hb.size
 have o:∀ y,y≠G->(seated w2 G k x 0).heap[y]?=w2.heap[y]?:=fun y hy=>zg1 w2 G k x 0 y hy
 have r:=h.rest k (by omega) hk
 have hG:G<wr.heap.size:=h.g.lt
 have cG:∀ i,w2.cell? ⟨G,i,none⟩=wr.cell? ⟨G,i,none⟩:=fun i=>hb.cell (p:=⟨G,i,none⟩) hG
 obtain⟨n0,n2,n3⟩:=zjd w2 G k x 0 ((cG _).trans r.1) ((cG _).trans r.2.2.1) ((cG _).trans r.2.2.2)
 have ot:∀ i,i≠k->∀ j,j<4->(seated w2 G k x 0).cell? ⟨G,i*4+j,none⟩=wr.cell? ⟨G,i*4+j,none⟩:=fun i hi j hj=>(zbe w2 G k x 0 _ (by omega) (by omega) (by omega)).trans (cG _)
 have hbl:=h.bl.size
 refine⟨⟨m2.trans (hb.os.trans h.bl.os),m3.trans (hb.tape.trans h.bl.tape),m4.trans (hb.output.trans h.bl.output),by omega,fun y hy=>(o y (by omega)).trans ((hb.block y (by omega)).trans (h.bl.block y hy))⟩,(o Q (by omega)).trans ((hb.block Q hQ).trans h.q),?_,fun i=>?_,fun i hi=>?_,fun i h1 h2=>?_,fun i hi=>?_,fun i hi=>?_,fun i j hi hj hij=>?_⟩
 ·unfold seated
  exact Wal.zai (Wal.zai (Wal.zai (h.g.same (hb.block G hG))))
 ·rw[zje,hb.frozen (p:=⟨G,i,none⟩) hG];exact h.gf i
 ·by_cases e:i=k
  ·subst e
   rw[zaa]
   exact⟨n0,(zbe w2 G i x 0 (i*4+1) (by omega) (by omega) (by omega)).trans ((cG _).trans r.2.1),n2,n3⟩
  ·rw[zag _ _ e]
   have y:=h.seats i (by omega)
   exact⟨(ot i e 0 (by omega)).trans y.c0,(ot i e 1 (by omega)).trans y.c1,(ot i e 2 (by omega)).trans y.c2,(ot i e 3 (by omega)).trans y.c3⟩
 ·have y:=h.rest i (by omega) h2
  have e:i≠k:=by omega
  exact⟨(ot i e 0 (by omega)).trans y.1,(ot i e 1 (by omega)).trans y.2.1,(ot i e 2 (by omega)).trans y.2.2.1,(ot i e 3 (by omega)).trans y.2.2.2⟩
 ·by_cases e:i=k
  ·subst e
   rw[zaa,zaa]
   exact hC.blocks (o x (by omega)) (o q (by omega))
  ·rw[zag _ _ e,zag _ _ e]
   have y:=h.cli i (by omega)
   have lo:=h.lo i (by omega)
   have lt:=y.lt
   exact y.blocks ((o _ (by omega)).trans (hb.block _ lt.1)) ((o _ (by omega)).trans (hb.block _ lt.2))
 ·by_cases e:i=k
  ·subst e;rw[zaa,zaa];omega
  ·rw[zag _ _ e,zag _ _ e];exact h.lo i (by omega)
 ·unfold zy9
  have li:i≠k->c i<wr.heap.size/\m i<wr.heap.size:=fun e=>(h.cli i (by omega)).lt
  have lj:j≠k->c j<wr.heap.size/\m j<wr.heap.size:=fun e=>(h.cli j (by omega)).lt
  by_cases e1:i=k
  ·have e2:j≠k:=by omega
   have:=lj e2
   rw[if_pos e1,if_neg e2,if_pos e1,if_neg e2]
   omega
  ·by_cases e2:j=k
   ·have:=li e1
    rw[if_neg e1,if_pos e2,if_neg e1,if_pos e2]
    omega
   ·rw[if_neg e1,if_neg e2,if_neg e1,if_neg e2]
    exact h.ap i j (by omega) (by omega) hij
theorem WdB.bare{tob tv td:Int}{n:Nat}(h1:1<=tv)(h2:tv<=tob)(h3:tob<=274877906944)(h4:0<=td)(h5:td<=500):WdB (Wd.bare tob tv td n) 0:=by
 have s1:=zbw h4 h5 (t:=tob) (by omega) h3
 have s2:=zbw h4 h5 (t:=tv) (by omega) (by omega)
 refine⟨by show 0<=tob;omega,h3,by show 0<=tv;omega,by show tv<=_;omega,h4,h5,Int.le_refl 0,by simp[Wd.bare,K.new],fun i _=>⟨⟨by simp[Wd.bare,K.new],by simp[Wd.bare,K.new],by simp[Wd.bare,K.new],by simp[Wd.bare,K.new],by simp[Wd.bare,K.new],by simp[Wd.bare,K.new],by simp[Wd.bare,K.new],s1.1,?_,s2.1,?_,by simp[Wd.bare,K.new],by simp[Wd.bare,K.new],by simp[Wd.bare,K.new],by simp[Wd.bare,K.new],fun x hx=>(by cases hx),by show (⟨#[]⟩:ByteArray).size<=20;decide⟩,by simp[Wd.bare,K.new],by simp[Wd.bare,K.new],by simp[Wd.bare,K.new],by simp[Wd.bare,K.new],by simp[Wd.bare,K.new],by show (-1:Int)<_;simp[Wd.bare]⟩,by simp[Wd.bare,K.new],by simp[Wd.bare,K.new],by simp[Wd.bare],fun p hp=>(by simp[Wd.bare] at hp),by simp[Wd.bare],fun v hv=>(by cases hv),fun r hr=>(by simp[Wd.bare] at hr),by simp[Wd.bare],by simp[Wd.bare,K.new],by simp[Wd.bare,K.new]⟩
 ·show short td tob<=_;omega
 ·show short td tv<=_;omega
theorem zwe(tob tv td:Int)(w:World)(h1:1<=tv)(h2:tv<=tob)(h3:tob<=274877906944)(h4:0<=td)(h5:td<=500) :
  Calls Tryz.prog 56 #[.agg #[.int .i64 tob,.int .i64 tv,.int .i64 td]] w fun e w'=>e = .returned (.bool true)/\Below w.heap.size w w'/\w'.heap.size=w.heap.size+1:=by
 have hb:Below w.heap.size w (w.alloc (.cells #[.int .i64 tob,.int .i64 tv,.int .i64 td] 29)):=(Below.refl _ _).alloc (Nat.le_refl _) _
 go_enter Tryz.func56,Tryz.ntmps56
 go_wp2
 go_ret
 exact⟨by simp,hb,by simp⟩
end Wld
end
end Go.Proofs.YtbebfliimjjohabGreatDoor
