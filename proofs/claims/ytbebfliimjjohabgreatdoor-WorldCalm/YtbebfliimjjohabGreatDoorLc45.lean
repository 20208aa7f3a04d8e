/- Parts of the proof. -/
import Derived.Test.YtbebfliimjjohabGreatDoorLc44
set_option maxRecDepth 100000
set_option maxHeartbeats 8000000
namespace Go.Proofs.YtbebfliimjjohabGreatDoor
section
namespace Wld
open Go.Maps
open Lease (I64 upd zae zad mx hol isH kk dels)
open Cache (E era putL)
open Wal (R timeB)
open Num (M okB)
theorem ziy{f:Nat->List M}(h:∀ o,(f o).length<=10):total f<=80:=by
 have h0:=h 0
 have h1:=h 1
 have h2:=h 2
 have h3:=h 3
 have h4:=h 4
 have h5:=h 5
 have h6:=h 6
 have h7:=h 7
 unfold total
 omega
theorem zdq(k:K)(now:Int):wts (k.againL now)<=29:=by
 unfold K.againL
 rw[zfa]
 have h1:wts (if k.til<=now+2 then [k.renewM] else [])<=17:=by
  split
  ·rw[za0,zap];have:=zwv k.renewM;omega
  ·rw[zap];omega
 have h2:wts (if k.zy2=true then [k.request] else [])<=12:=by
  split
  ·rw[za0,zap]
   unfold K.request
   split
   ·have e:wt ⟨2,k.id,k.num,0,0,k.cob,0,false,k.d⟩=12:=rfl
    omega
   ·have e:wt ⟨1,k.id,k.num,0,0,k.cob,0,false,⟨#[]⟩⟩=2:=rfl
    omega
  ·rw[zap];omega
 omega
theorem Cm.again{w:Wd}{H:List Hc}{L:List M}{b C:Nat}{cb:Int}(h:Cm w H L b C cb)(hl:Lb w)(hC:C+2<=100000000){k:Nat}(hk:k<w.n)(hn:w.net = []):∃ L',Cm (w.again k) H L' b (C+2) cb:=by
 obtain⟨L',hs⟩:=h.safe.again hk
 obtain⟨s,hsv,_⟩:=h.up
 obtain⟨e1,e2,_⟩:=zf6 h hl hk hn
 refine⟨L',hs,h.hb,h.ex.again hk,h.up.again k,h.wb.again hk,hC,?_⟩
 have ht:=ziy (h.wb.sv s hsv).1.wlen
 have hw:=zdq (w.seat k).k (w.seat k).clock
 have em:(w.again k).mu=wnet (w.again k).net+2*total s.zzf:=by unfold Wd.mu;rw[e2,hsv]
 have en:wnet (w.again k).net=wts ((w.seat k).k.againL (w.seat k).clock):=by rw[e1];unfold wnet;rw[List.map_map];exact congrArg wts (List.map_id _)
 omega
def Clean(w:Wd)(c:Nat):Prop:=∀ s,w.sv=some s->∀ o:Nat,o<8->s.zzf o≠[]->¬ aw s w.clock o c
theorem Clean.of{w:Wd}{c:Nat}(h:ClP w c)(hn:w.net = []):Clean w c:=fun s hs o ho hw ha=>by
 rcases h s hs o ho hw ha with (⟨x,hx,_⟩|⟨x,hx,_⟩)|⟨x,hx,_⟩<;>rw[hn] at hx<;>cases hx
structure Tn(w0 w:Wd)(k:Nat)(S:Nat->Prop):Prop where
 lb:Lb w
 ho:HoldW w
 rd:RdP w k
 cl:∀ c,c<w0.n->S c->ClP w c
 ck:w.clock=w0.clock
 n:w.n=w0.n
 ov:∀ j,j<w0.n->(w0.seat j).k.zy2=false->(w.seat j).k.zy2=false
 wr:w0.mu<=29->w.mu<=29/\WrP w k
theorem Tn.deliver{w0 w:Wd}{k:Nat}{S:Nat->Prop}{H:List Hc}{L:List M}{b C:Nat}{cb:Int}(hH:H.length+b<=150)(hk:k<w0.n)(h:Cm w H L b C cb)(t:Tn w0 w k S){p:Int×M}{rest:List (Int×M)}(hn:w.net=p :: rest):Tn w0 (w.deliver 0) k S:=by
 have hk':k<w.n:=by rw[t.n];exact hk
 have e:(w.deliver 0).clock=w.clock/\(w.deliver 0).n=w.n/\∀ j,(w.seat j).k.zy2=false->((w.deliver 0).seat j).k.zy2=false:=by
  refine h.cases hn (P:=fun w'=>w'.clock=w.clock/\w'.n=w.n/\∀ j,(w.seat j).k.zy2=false->(w'.seat j).k.zy2=false) (fun s hs hp w' e1 e2 e3 e4 e5=>⟨e4,e5,fun j q=>by rw[e3];exact q⟩) (fun j hj hp w' e1 e2 e3 e4 e5=>⟨e4,e5,fun i q=>?_⟩) (fun hp hq w' e1 e2 e3 e4 e5=>⟨e4,e5,fun j q=>by rw[e3];exact q⟩)
  rw[e3]
  split
  ·rename_i ei;subst ei;exact zha q
  ·exact q
 refine⟨t.lb.deliver h hn,t.ho.deliver h hH hn,t.rd.deliver h hk' hn,fun c hc hS=>(t.cl c hc hS).deliver h hH (by rw[t.n];exact hc) hn,e.1.trans t.ck,e.2.1.trans t.n,fun j hj q=>e.2.2 j (t.ov j hj q),fun q=>?_⟩
 obtain⟨a,b'⟩:=t.wr q
 exact⟨Nat.le_of_lt (Nat.lt_of_lt_of_le (zcq h.wb (k:=0) (by rw[hn];simp)) a),b'.deliver h hH a hk' hn⟩
theorem turn{w:Wd}{H:List Hc}{L:List M}{b C:Nat}{cb:Int}(h:Cm w H L b C cb)(hH:H.length+b<=150)(hC:C+300<=100000000)(hl:Lb w)(hh:HoldW w){k:Nat}(hk:k<w.n)(hn:w.net = []) :
  ∃ L' C',C'<=C+300/\Cm (w.again k).zy5 H L' b C' cb/\(w.again k).zy5.net = []/\Tn (w.again k) (w.again k).zy5 k (fun c=>Clean w c\/(c=k/\(w.seat k).k.til<=(w.seat k).clock+2)):=by
 obtain⟨L1,h1⟩:=h.again hl (by omega) hk hn
 obtain⟨e1,e2,e3,e4,e5⟩:=zf6 h hl hk hn
 have hk1:k<(w.again k).n:=by rw[e4];exact hk
 have hop:∀ i,((w.again k).seat i).k.zy2=(w.seat i).k.zy2/\((w.again k).seat i).k.id=(w.seat i).k.id/\((w.again k).seat i).k.num=(w.seat i).k.num/\((w.again k).seat i).k.kind=(w.seat i).k.kind/\((w.again k).seat i).k.cob=(w.seat i).k.cob/\((w.again k).seat i).k.ep=(w.seat i).k.ep/\((w.again k).seat i).k.ses=(w.seat i).k.ses:=fun i=>by
  rw[e5]
  split
  ·rename_i ei;subst ei
   show ((w.seat i).k.again _).zy2=_/\_
   unfold K.again
   split<;>exact⟨rfl,rfl,rfl,rfl,rfl,rfl,rfl⟩
  ·exact⟨rfl,rfl,rfl,rfl,rfl,rfl,rfl⟩
 obtain⟨o1,o2,o3,o4,o5,_⟩:=hop k
 have hreq:(w.seat k).k.zy2=true->((-1:Int),(w.seat k).k.request)∈(w.again k).net:=fun q=>by
  rw[e1]
  refine List.mem_map.2 ⟨_,?_,rfl⟩
  unfold K.againL
  rw[if_pos q]
  exact List.mem_append_right _ (List.mem_singleton.2 rfl)
 have t0:Tn (w.again k) (w.again k) k (fun c=>Clean w c\/(c=k/\(w.seat k).k.til<=(w.seat k).clock+2)):=by
  refine⟨hl.same e4 fun i=>⟨(hop i).2.2.2.2.2.1,(hop i).2.2.2.2.2.2⟩,fun s hs=>by rw[e3];exact hh s (e2▸hs),fun ho hk1=>?_,fun c hc hS s hs o ho hw ha=>?_,rfl,rfl,fun _ _ q=>q,fun q=>⟨q,fun ho hk2=>?_⟩⟩
  ·rw[o1] at ho
   rw[o4] at hk1
   left
   refine⟨_,hreq ho,?_⟩
   rw[o2,o3,o5]
   unfold K.request
   rw[if_neg (by omega)]
   exact⟨rfl,rfl,rfl,rfl⟩
  ·rw[e2] at hs
   rw[e3] at ha
   rcases hS with q|⟨q,ht⟩
   ·exact absurd ha (q s hs o ho hw)
   ·subst q
    right
    refine⟨(w.seat c).k.renewM,?_,rfl,(h.id hk).2.2,(h.id hk).1,rfl⟩
    rw[e1]
    refine List.mem_map.2 ⟨_,?_,rfl⟩
    unfold K.againL
    rw[if_pos ht]
    exact List.mem_append_left _ (List.mem_singleton.2 rfl)
  ·rw[o1] at ho
   rw[o4] at hk2
   left
   refine⟨_,hreq ho,?_⟩
   rw[o2,o3,o5]
   unfold K.request
   rw[if_pos hk2]
   exact⟨rfl,rfl,rfl,rfl⟩
 have hmu:=h1.mu
 obtain⟨L',C',a1,a2,a3,a4⟩:=zbx (P:=fun w'=>Tn (w.again k) w' k (fun c=>Clean w c\/(c=k/\(w.seat k).k.til<=(w.seat k).clock+2))) (fun w' L2 C2 p rest hc ht hnn=>ht.deliver hH hk1 hc hnn) (w.again k).mu (w.again k) L1 (C+2) h1 (by omega) t0 (Nat.le_refl _)
 exact⟨L',C',by omega,a2,a4,a3⟩
theorem allEmpty{w:Wd}{s:Sv}(hs:w.sv=some s)(hh:HoldW w)(hd:Dn w.n s)(hc:∀ c,c<w.n->Clean w c)(hr:s.ready<=w.clock):∀ o:Nat,o<8->s.zzf o = []:=fun o ho=>by
 cases hw:s.zzf o with
 | nil=>rfl
 | cons a l=>
  exfalso
  have hne:s.zzf o≠[]:=by rw[hw];simp
  obtain⟨c,hc4,ha⟩:=hh s hs hr o ho hne
  exact hc c (hd.aw ho hc4 ha) s hs o ho hne ha
theorem Tn.readOver{w0 w:Wd}{k:Nat}{S:Nat->Prop}(t:Tn w0 w k S)(hn:w.net = []):¬ ((w.seat k).k.zy2=true/\(w.seat k).k.kind=1):=fun q=>by
 rcases t.rd q.1 q.2 with ⟨x,hx,_⟩|⟨x,hx,_⟩<;>rw[hn] at hx<;>cases hx
theorem Tn.writeOver{w0 w:Wd}{k:Nat}{S:Nat->Prop}(t:Tn w0 w k S)(hn:w.net = [])(hmu:w0.mu<=29){s:Sv}(hs:w.sv=some s)(he:∀ o:Nat,o<8->s.zzf o = [])(hc0:0<=(w.seat k).k.cob)(hc7:(w.seat k).k.cob<=7):¬ ((w.seat k).k.zy2=true/\(w.seat k).k.kind=2):=fun q=>by
 rcases(t.wr hmu).2 q.1 q.2 with ⟨x,hx,_⟩|⟨x,hx,_⟩|⟨s0,hs0,x,hx,_⟩
 ·rw[hn] at hx;cases hx
 ·rw[hn] at hx;cases hx
 ·obtain rfl:s0=s:=Option.some.inj (hs0.symm.trans hs)
  rw[he _ (by omega)] at hx
  cases hx
theorem zdv{w:Wd}{H:List Hc}{L:List M}{b C:Nat}{cb:Int}(h:Cm w H L b C cb)(hn:w.net = []){s:Sv}(hs:w.sv=some s)(f:Nat->Int){r:Sv×List M}(hr:s.tickN (stop (w.clock+1)) 8=r) :
  (w.goes 1 f).net=r.2.map (fun x=>(((zy8 x.c:Nat):Int),x))/\(w.goes 1 f).sv=some r.1/\(w.goes 1 f).clock=stop (w.clock+1)/\(w.goes 1 f).n=w.n/\∀ k,((w.goes 1 f).seat k).k=(w.seat k).k:=by
 obtain⟨B,hi,hB⟩:=h.inv
 obtain⟨s0,hs0,hp⟩:=h.up
 obtain rfl:s0=s:=Option.some.inj (hs0.symm.trans hs)
 obtain⟨hsv,_⟩:=h.wb.sv s0 hs
 have hall:=zo9 hsv (by have:=h.cC;omega) (stop (w.clock+1)) 8 (Nat.le_refl _)
 have hp':=Pw.ss hB (zc1 (stop (w.clock+1)) s0 L 8 (Nat.le_refl _)) (w:=w.gone 1 f) rfl (hi.gone 1 f) hs hp
 have hlen:=(SvB.tick hsv (stop (w.clock+1)) 8).2
 have e:w.goes 1 f=(w.gone 1 f).answer r:=by
  show (w.gone 1 f).ticked=_
  unfold Wd.ticked
  have hs':(w.gone 1 f).sv=some s0:=hs
  have hc':(w.gone 1 f).clock=stop (w.clock+1):=rfl
  rw[hs',hc',<- hr]
 rw[hr] at hall hp' hlen
 rw[e,zg7 hp'.up]
 have hnet:((w.gone 1 f).served r.1).net = []:=hn
 rw[zf3 _ hall (by rw[hnet];simp only[List.length_nil];omega),hnet]
 exact⟨rfl,rfl,rfl,rfl,fun k=>rfl⟩
def DnW(w:Wd):Prop:=∀ s,w.sv=some s->Dn w.n s
theorem zdb{w:Wd}{r:Sv×List M}:(w.answer r).n=w.n/\∀ s,(w.answer r).sv=some s->s=r.1:=by
 unfold Wd.answer
 have a:=ze1 ((w.served r.1).tells r.2)
 have b:=zb3 r.2 (w.served r.1)
 refine⟨a.2.2.1.trans b.2.2.1,fun s' q=>?_⟩
 have:=a.2.2.2.2.2 s' q
 rw[b.2.2.2.2.2] at this
 exact(Option.some.inj this).symm
theorem DnW.zy6{w:Wd}{H:List Hc}{L:List M}{B:Nat}(d:DnW w)(h:Inv w H L B)(hB:H.length+B<200){m:M}(hm:m∈L):DnW (w.zy6 m):=by
 unfold Wd.zy6
 split
 ·exact d
 ·rename_i s hs
  intro s' hs'
  rw[zdb.1,zdb.2 s' hs']
  exact Dn.ss hB (zdt w.clock s L m hm) rfl h hs (d s hs)
theorem DnW.ticked{w:Wd}{H:List Hc}{L:List M}{B:Nat}(d:DnW w)(h:Inv w H L B)(hB:H.length+B<200):DnW w.ticked:=by
 unfold Wd.ticked
 split
 ·exact d
 ·rename_i s hs
  intro s' hs'
  rw[zdb.1,zdb.2 s' hs']
  exact Dn.ss hB (zc1 w.clock s L 8 (Nat.le_refl _)) rfl h hs (d s hs)
theorem DnW.sv{w w':Wd}(d:DnW w)(hs:w'.sv=w.sv)(hn:w'.n=w.n):DnW w':=fun s q=>by rw[hn];exact d s (hs▸q)
theorem DnW.start{w:Wd}{H:List Hc}{L:List M}{B:Nat}(h:Inv w H L B)(hB:H.length+B<200):DnW w.start:=by
 have hroom:=h.room
 obtain⟨e,_,_,_,_,_,_,_,_,h9,_⟩:=zcr w.to w.tv w.td w.clock w.rs (by omega)
 intro s hs
 have hs':some (Sv.new w.to w.tv w.td w.rs false 0 w.clock)=some s:=hs
 rw[<- Option.some.inj hs']
 intro c o _ _ _
 rw[h9]
 rfl
theorem zwr{D:Lease.Dat}{o T T':Int}{c:Nat}(h:isH D o T' c=true)(ht:T<=T'):isH D o T c=true:=by
 unfold Lease.isH at h ⊢
 split at h
 ·rename_i x hx
  simp only[Bool.and_eq_true,decide_eq_true_eq] at h ⊢
  exact⟨h.1,by omega⟩
 ·cases h
theorem zx9{s:Sv}{T T':Int}{o c:Nat}(h:aw s T' o c)(ht:T<=T'):aw s T o c:=⟨zwr h.1 ht,Int.lt_of_le_of_lt ht h.2⟩
theorem zpc{T:Int}(hT:0<=T){s:Sv}(hp:Pw s)(hq:∀ o,(s.zzf o).length<=10)(hl:s.rs.length<=110):∀ k,k<=8->(∀ x c:Nat,x<8->c<4->(aw (s.tickN T k).1 T x c↔aw s T x c))/\∀ x:Nat,(s.tickN T k).1.zzf x≠[]->s.zzf x≠[]
 | 0,_=>⟨fun _ _ _ _=>Iff.rfl,fun _ h=>h⟩
 | k+1,hk=>by
  obtain⟨i1,i2⟩:=zpc hT hp hq hl k (by omega)
  obtain⟨h1,h2,h3,h4,_⟩:=zhc hT hp hq hl k (by omega)
  have hw:=h4 k
  have a:=zda hT (o:=k) (by omega) h1 (by omega)
  have e:(s.tickN T (k+1)).1=((s.tickN T k).1.zy1 k T).1:=rfl
  rw[e]
  refine⟨fun x c hx hc=>(a.aw x c hx hc).trans (i1 x c hx hc),fun x hx=>i2 x ?_⟩
  by_cases ex:x=k
  ·subst ex
   intro q
   have:=znb T (s.tickN T x).1 x
   rw[q] at this
   exact hx (List.length_eq_zero_iff.1 (by simpa using this))
  ·rw[(a.oth x ex).1] at hx;exact hx
theorem zt6{w:Wd}{H:List Hc}{L:List M}{b C:Nat}{cb:Int}(h:Cm w H L b C cb)(hH:H.length+b<=110)(hn:w.net = [])(hlt:w.clock<549755813888)(f:Nat->Int) :
  HoldW (w.goes 1 f)/\∀ c,c<4->Clean w c->Clean (w.goes 1 f) c:=by
 obtain⟨s,hs,hp⟩:=h.up
 obtain⟨B,hi,hB⟩:=h.safe.inv.inv
 have hroom:=hi.room
 rw[<- (hi.sv s hs).2] at hroom
 have hT:stop (w.clock+1)=w.clock+1\/stop (w.clock+1)=w.clock+1:=by
  left;unfold stop;split<;>omega
 have hT':stop (w.clock+1)=w.clock+1:=hT.elim id id
 have h0:=h.wb.c0
 have hq:=(h.wb.sv s hs).1.wlen
 have ht:=zhc (T:=stop (w.clock+1)) (by omega) hp hq (by omega) 8 (Nat.le_refl _)
 have ha:=zpc (T:=stop (w.clock+1)) (by omega) hp hq (by omega) 8 (Nat.le_refl _)
 obtain⟨r,hr⟩:∃ r,s.tickN (stop (w.clock+1)) 8=r:=⟨_,rfl⟩
 rw[hr] at ht ha
 obtain⟨e1,e2,e3,e4,e5⟩:=zdv h hn hs f hr
 refine⟨fun s' hs'=>?_,fun c hc hcl s' hs' o ho hw haw=>?_⟩
 ·obtain rfl:r.1=s':=Option.some.inj (e2.symm.trans hs')
  rw[e3]
  intro hrd o ho hw
  exact ht.2.2.2.2 o ho (by rw[<- ht.2.1];exact hrd) hw
 ·obtain rfl:r.1=s':=Option.some.inj (e2.symm.trans hs')
  rw[e3] at haw
  exact hcl s hs o ho (ha.2 o hw) (zx9 ((ha.1 o c ho hc).1 haw) (by omega))
theorem zpd(T:Int):∀ (k:Nat) {s:Sv} {B:Nat},SvB s B->k<=8->wts (s.tickN T k).2+2*total (s.tickN T k).1.zzf<=2*total s.zzf
 | 0,s,B,_,_=>by show wts []+2*total s.zzf<=_;rw[zap];omega
 | k+1,s,B,h,hk=>by
  have i:=zpd T k h (by omega)
  have a:=zft (SvB.tick h T k).1 (o:=k) (by omega) T
  have e:s.tickN T (k+1)=(((s.tickN T k).1.zy1 k T).1,(s.tickN T k).2++((s.tickN T k).1.zy1 k T).2):=rfl
  rw[e]
  show wts ((s.tickN T k).2++((s.tickN T k).1.zy1 k T).2)+2*total ((s.tickN T k).1.zy1 k T).1.zzf<=_
  rw[zfa]
  omega
theorem Cm.goes{w:Wd}{H:List Hc}{L:List M}{b C:Nat}{cb:Int}(h:Cm w H L b C cb)(hC:C+1<=100000000)(hn:w.net = [])(hcb:cb+1<549755813888):∃ L',Cm (w.goes 1 fun k=>if k<w.n then 1 else 0) H L' b (C+1) (cb+1):=by
 obtain⟨s,hs,hp⟩:=h.up
 obtain⟨B,hi,hB⟩:=h.inv
 obtain⟨L',hL⟩:=h.safe.goes (a:=1) (f:=fun k=>if k<w.n then 1 else 0) (g:=1) h.hb (by omega) (fun k _=>by split<;>omega) hcb (fun q k hk=>by
  rw[if_pos hk]
  have:=(h.safe.fr q).d0
  omega)
 obtain⟨hsv,_⟩:=h.wb.sv s hs
 have hm:=zpd (stop (w.clock+1)) 8 hsv (Nat.le_refl _)
 have ht:=ziy hsv.wlen
 obtain⟨r,hr⟩:∃ r,s.tickN (stop (w.clock+1)) 8=r:=⟨_,rfl⟩
 rw[hr] at hm
 obtain⟨e1,e2,_⟩:=zdv h hn hs (fun k=>if k<w.n then 1 else 0) hr
 refine⟨L',hL,h.hb,h.ex.goes hi hB (by omega) h.wb.c1 _,h.up.goes hi hB 1 _,h.wb.goes (by omega) (fun i _=>by split<;>omega),hC,?_⟩
 have em:(w.goes 1 fun k=>if k<w.n then 1 else 0).mu=wnet (w.goes 1 fun k=>if k<w.n then 1 else 0).net+2*total r.1.zzf:=by unfold Wd.mu;rw[e2]
 have en:wnet (w.goes 1 fun k=>if k<w.n then 1 else 0).net=wts r.2:=by rw[e1];unfold wnet;rw[List.map_map];exact congrArg wts (List.map_id _)
 omega
structure Rn(w0 w:Wd)(S:Nat->Prop):Prop where
 lb:Lb w
 ho:HoldW w
 cl:∀ c,c<w0.n->S c->ClP w c
 ck:w.clock=w0.clock
 n:w.n=w0.n
 ov:∀ j,j<w0.n->(w0.seat j).k.zy2=false->(w.seat j).k.zy2=false
theorem Rn.deliver{w0 w:Wd}{S:Nat->Prop}{H:List Hc}{L:List M}{b C:Nat}{cb:Int}(hH:H.length+b<=150)(h:Cm w H L b C cb)(t:Rn w0 w S){p:Int×M}{rest:List (Int×M)}(hn:w.net=p :: rest):Rn w0 (w.deliver 0) S:=by
 have e:(w.deliver 0).clock=w.clock/\(w.deliver 0).n=w.n/\∀ j,(w.seat j).k.zy2=false->((w.deliver 0).seat j).k.zy2=false:=by
  refine h.cases hn (P:=fun w'=>w'.clock=w.clock/\w'.n=w.n/\∀ j,(w.seat j).k.zy2=false->(w'.seat j).k.zy2=false) (fun s hs hp w' e1 e2 e3 e4 e5=>⟨e4,e5,fun j q=>by rw[e3];exact q⟩) (fun j hj hp w' e1 e2 e3 e4 e5=>⟨e4,e5,fun i q=>?_⟩) (fun hp hq w' e1 e2 e3 e4 e5=>⟨e4,e5,fun j q=>by rw[e3];exact q⟩)
  rw[e3]
  split
  ·rename_i ei;subst ei;exact zha q
  ·exact q
 exact⟨t.lb.deliver h hn,t.ho.deliver h hH hn,fun c hc hS=>(t.cl c hc hS).deliver h hH (by rw[t.n];exact hc) hn,e.1.trans t.ck,e.2.1.trans t.n,fun j hj q=>e.2.2 j (t.ov j hj q)⟩
theorem clockPart{w:Wd}{H:List Hc}{L:List M}{b C:Nat}{cb:Int}(h:Cm w H L b C cb)(hH:H.length+b<=110)(hC:C+300<=100000000)(hl:Lb w)(hn:w.net = [])(hcb:cb+1<549755813888)(hlt:w.clock<549755813888)(h4:w.n<=4) :
  ∃ L' C',C'<=C+300/\Cm (w.goes 1 fun k=>if k<w.n then 1 else 0).zy5 H L' b C' (cb+1)/\(w.goes 1 fun k=>if k<w.n then 1 else 0).zy5.net = []/\Rn (w.goes 1 fun k=>if k<w.n then 1 else 0) (w.goes 1 fun k=>if k<w.n then 1 else 0).zy5 (Clean w):=by
 obtain⟨L1,h1⟩:=h.goes (by omega) hn hcb
 obtain⟨g1,g2⟩:=zt6 h hH hn hlt (fun k=>if k<w.n then 1 else 0)
 obtain⟨s,hs,_⟩:=h.up
 obtain⟨r,hr⟩:∃ r,s.tickN (stop (w.clock+1)) 8=r:=⟨_,rfl⟩
 obtain⟨_,_,e3,e4,e5⟩:=zdv h hn hs (fun k=>if k<w.n then 1 else 0) hr
 have t0:Rn (w.goes 1 fun k=>if k<w.n then 1 else 0) (w.goes 1 fun k=>if k<w.n then 1 else 0) (Clean w):=
  ⟨hl.same e4 fun k=>by rw[e5];exact⟨rfl,rfl⟩,g1,fun c hc hS s' hs' o ho hw ha=>absurd ha (g2 c (by rw[e4] at hc;omega) hS s' hs' o ho hw),rfl,rfl,fun _ _ q=>q⟩
 have hmu:=h1.mu
 obtain⟨L',C',a1,a2,a3,a4⟩:=zbx (P:=fun w'=>Rn (w.goes 1 fun k=>if k<w.n then 1 else 0) w' (Clean w)) (fun w' L2 C2 p rest hc ht hnn=>ht.deliver (by omega) hc hnn) (w.goes 1 fun k=>if k<w.n then 1 else 0).mu _ L1 (C+1) h1 (by omega) t0 (Nat.le_refl _)
 exact⟨L',C',by omega,a2,a4,a3⟩
structure Evs(w w':Wd):Prop where
 ev:w'.events=w.events
 n:w'.n=w.n
 st:∀ k,(w'.seat k).call=(w.seat k).call/\(w'.seat k).life=(w.seat k).life
theorem Evs.refl(w:Wd):Evs w w:=⟨rfl,rfl,fun _=>⟨rfl,rfl⟩⟩
theorem Evs.trans{a b c:Wd}(h:Evs a b)(k:Evs b c):Evs a c:=⟨k.ev.trans h.ev,k.n.trans h.n,fun i=>⟨(k.st i).1.trans (h.st i).1,(k.st i).2.trans (h.st i).2⟩⟩
theorem zpe(w:Wd)(t:Int)(m:M):Evs w (w.put t m):=by
 unfold Wd.put
 split<;>exact⟨rfl,rfl,fun _=>⟨rfl,rfl⟩⟩
theorem zc4(t:Int):∀ (l:List M) (w:Wd),Evs w (w.send t l)
 | [],w=>.refl w
 | m :: l,w=>(zpe w t m).trans (zc4 t l _)
theorem zlf:∀ (l:List M) (w:Wd),Evs w (w.tells l)
 | [],w=>.refl w
 | m :: l,w=>(zpe w _ m).trans (zlf l _)
theorem zrb(w:Wd):Evs w w.fallen:=by
 unfold Wd.fallen
 split
 ·exact .refl w
 ·split<;>exact⟨rfl,rfl,fun _=>⟨rfl,rfl⟩⟩
theorem zrc(w:Wd)(s:Sv):Evs w (w.served s):=⟨rfl,rfl,fun _=>⟨rfl,rfl⟩⟩
theorem zdr(w:Wd)(r:Sv×List M):Evs w (w.answer r):=((zrc w r.1).trans (zlf r.2 _)).trans (zrb _)
theorem zc5(w:Wd)(m:M):Evs w (w.zy6 m):=by
 unfold Wd.zy6
 split
 ·exact .refl w
 ·exact zdr w _
theorem zf7(w:Wd)(k:Nat)(c:K):Evs w (w.setK k c):=⟨rfl,rfl,fun j=>by
 rw[setK_seat]
 split
 ·rename_i e;rw[e];exact⟨rfl,rfl⟩
 ·exact⟨rfl,rfl⟩⟩
theorem zfj(w:Wd)(k:Nat):Evs w (w.ask k):=(zf7 w k _).trans (zc4 _ _ _)
theorem znf(w:Wd)(b:Int)(f:Nat->Int):Evs w (w.gone b f):=⟨rfl,rfl,fun _=>⟨rfl,rfl⟩⟩
theorem zrd(w:Wd):Evs w w.ticked:=by
 unfold Wd.ticked
 split
 ·exact .refl w
 ·exact zdr w _
theorem zd7(w:Wd)(b:Int)(f:Nat->Int):Evs w (w.goes b f):=(znf w b f).trans (zrd _)
theorem ze3(w:Wd):Evs w w.restart:=by
 unfold Wd.restart
 split<;>exact⟨rfl,rfl,fun _=>⟨rfl,rfl⟩⟩
theorem zbt(w:Wd)(x t:Int):Evs w (w.zy3 x t):=by
 unfold Wd.zy3
 split<;>exact⟨rfl,rfl,fun _=>⟨rfl,rfl⟩⟩
theorem zt7(w:Wd)(k:Nat):Evs w (w.twice k):=by
 unfold Wd.twice
 split
 ·exact .refl w
 ·split<;>exact⟨rfl,rfl,fun _=>⟨rfl,rfl⟩⟩
def Eo(w:Wd):Prop:=∀ (i:Nat) e,w.events[i]?=some e->e.ended=0->∀ k:Nat,k<w.n->e.client=(k:Int)->e.life=(w.seat k).life->(w.seat k).call=(i:Int)
theorem Eo.same{w w':Wd}(h:Eo w)(e:Evs w w'):Eo w':=fun i x hx hz k hk hc hl=>by
 rw[e.ev] at hx
 rw[(e.st k).2] at hl
 rw[(e.st k).1]
 exact h i x hx hz k (by rw[<- e.n];exact hk) hc hl
theorem zf8{l:List Ev}{j i:Nat}{f:Ev->Ev}:(l.modify j f)[i]?=if j=i then (l[i]?).map f else l[i]?:=by
 rw[List.getElem?_modify]
 split<;>simp_all
theorem Eo.noted{w:Wd}(h:Eo w)(hs:0<w.step)(k:Nat):Eo (w.note k):=by
 unfold Wd.note
 split
 ·exact h
 ·rename_i hcall
  intro i x hx hz j hj hc hl
  have hx':(w.events.modify (w.seat k).call.toNat fun e=>e.noted (w.seat k).k w.step)[i]?=some x:=hx
  rw[zf8] at hx'
  have hl':x.life=(w.seat j).life:=by
   have q:x.life=(zy9 w.seat k _ j).life:=hl
   unfold zy9 at q
   split at q
   ·rename_i e;rw[e];exact q
   ·exact q
  show (zy9 w.seat k _ j).call=(i:Int)
  unfold zy9
  split at hx'
  ·rename_i ei
   obtain⟨y,hy,rfl⟩:=Option.map_eq_some_iff.1 hx'
   have hz':(if (w.seat k).k.over=true then w.step else y.ended)=0:=hz
   split at hz'
   ·omega
   ·rename_i hov
    have q:=h i y hy hz' j hj hc hl'
    split
    ·rename_i e
     show (w.seat k).call=_
     rw[<- e];exact q
    ·exact q
  ·rename_i ei
   have q:=h i x hx' hz j hj hc hl'
   split
   ·rename_i e
    rw[e] at q
    omega
   ·exact q
theorem Eo.opens{w:Wd}(h:Eo w){k:Nat}(c:K)(hcl:(w.seat k).call<0):Eo (w.opens k c):=by
 intro i x hx hz j hj hc hl
 have hx':(w.events++[⟨k,0,0,⟨#[]⟩,0,false,false,w.step+1,0,(w.seat k).life⟩])[i]?=some x:=hx
 have hl':x.life=(w.seat j).life:=by
  have q:x.life=(zy9 w.seat k _ j).life:=hl
  unfold zy9 at q
  split at q
  ·rename_i e;rw[e];exact q
  ·exact q
 show (zy9 w.seat k _ j).call=(i:Int)
 unfold zy9
 rw[List.getElem?_append] at hx'
 split at hx'
 ·rename_i hi
  have q:=h i x hx' hz j hj hc hl'
  split
  ·rename_i e;rw[e] at q;omega
  ·exact q
 ·rename_i hi
  have hi2:i-w.events.length=0:=by
   rcases Nat.eq_zero_or_pos (i-w.events.length) with q|q
   ·exact q
   ·rw[List.getElem?_eq_none (by simp;omega)] at hx';cases hx'
  rw[hi2] at hx'
  have ex:=Option.some.inj hx'
  have ej:j=k:=by
   have:x.client=(k:Int):=by rw[<- ex]
   omega
  rw[if_pos ej]
  show ((w.events.length:Nat):Int)=_
  omega
theorem Eo.enter{w:Wd}{H:List Hc}{L:List M}{B:Nat}(h:Eo w)(hi:Inv w H L B){k:Nat}(hk:k<w.n){life:Int}(hl0:(w.seat k).life<life):Eo (w.enter k life):=by
 intro i x hx hz j hj hc hl
 have hx':w.events[i]?=some x:=hx
 show (zy9 w.seat k _ j).call=(i:Int)
 have hl':x.life=(zy9 w.seat k _ j).life:=hl
 unfold zy9 at hl' ⊢
 split at hl'
 ·rename_i e
  exfalso
  have hlen:i<H.length:=by rw[hi.len];exact(List.getElem?_eq_some_iff.1 hx').1
  have hE:=hi.eh i x _ hx' (List.getElem?_eq_getElem hlen)
  have h4:=hi.n4
  have hq:=(hi.st k hk).liv _ (List.getElem_mem hlen) (by
   have a1:=hE.c
   have a2:=hE.l0
   rw[a1,hc,e]
   unfold zy8
   omega)
  have hid:=(hi.st k hk).id
  have a1:=hE.c
  have hl2:x.life=life:=hl'
  rw[hc,e] at a1
  omega
 ·rename_i e
  rw[if_neg e]
  exact h i x hx' hz j hj hc hl'
def Stay(w w':Wd):Prop:=∀ (i:Nat) e,w.events[i]?=some e->e.ended≠0->w'.events[i]?=some e
theorem Stay.refl(w:Wd):Stay w w:=fun _ _ h _=>h
theorem Stay.trans{a b c:Wd}(h:Stay a b)(k:Stay b c):Stay a c:=fun i e q r=>k i e (h i e q r) r
theorem Stay.same{w w':Wd}(e:w'.events=w.events):Stay w w':=fun i x h _=>by rw[e];exact h
theorem Stay.noted{w:Wd}(k:Nat)(hs:0<=(w.seat k).call->∃ e,w.events[(w.seat k).call.toNat]?=some e/\e.ended=0):Stay w (w.note k):=by
 unfold Wd.note
 split
 ·exact .refl w
 ·rename_i hcall
  intro i x hx hz
  show (w.events.modify (w.seat k).call.toNat fun e=>e.noted (w.seat k).k w.step)[i]?=some x
  rw[zf8]
  split
  ·rename_i ei
   obtain⟨e,he,h0⟩:=hs (by omega)
   rw[ei] at he
   rw[hx] at he
   have:=Option.some.inj he
   rw[this] at hz
   exact absurd h0 hz
  ·exact hx
theorem Stay.told{w:Wd}{H:List Hc}{L:List M}{B:Nat}(h:Inv w H L B){k:Nat}(hk:k<w.n)(m:M):Stay w (w.zy7 k m):=by
 unfold Wd.zy7
 have e:=(zf7 w k ((w.seat k).k.hear m).1).trans (zc4 (-1) ((w.seat k).k.hear m).2 _)
 refine(Stay.same e.ev).trans (Stay.noted k fun q=>?_)
 rw[(e.st k).1] at q ⊢
 rw[e.ev]
 obtain⟨x,g,h1,_,_,_,_,_,_,h2⟩:=(h.st k hk).opn q
 exact⟨x,h1,h2⟩
theorem Stay.deliver{w:Wd}{H:List Hc}{L:List M}{B:Nat}(h:Inv w H L B)(k:Nat):Stay w (w.deliver k):=by
 unfold Wd.deliver
 split
 ·exact .refl w
 ·rename_i p hp
  have h1:=(h.lose k).stepped
  unfold Wd.told
  split
  ·exact Stay.same (zc5 ({ w with net:=w.net.eraseIdx k,step:=w.step+1 }:Wd) p.2).ev
  ·split
   ·rename_i hh
    have:=of_decide_eq_true hh
    exact Stay.told (w:={ w.lose k with step:=w.step+1 }) h1 (k:=p.1.toNat) (by show p.1.toNat<w.n;have:0<=p.1/\p.1<(w.n:Int):=this;omega) p.2
   ·exact Stay.same rfl
theorem Stay.drain{hon:Prop}{H:List Hc}{b:Nat}{cb:Int}(hb:H.length+b<200):∀ (f:Nat) {w:Wd} {L:List M},Safe hon w H L b cb->Stay w (w.drain f)
 | 0,w,_,_=>.refl w
 | f+1,w,L,h=>by
  unfold Wd.drain
  split
  ·exact .refl w
  ·obtain⟨B,i,_⟩:=h.inv.inv
   obtain⟨L1,h1⟩:=h.deliver hb 0
   exact(Stay.deliver i 0).trans (Stay.drain hb f h1)
def Lif(w w':Wd):Prop:=∀ k,(w'.seat k).life=(w.seat k).life
theorem Lif.trans{a b c:Wd}(h:Lif a b)(k:Lif b c):Lif a c:=fun i=>(k i).trans (h i)
theorem Evs.lif{w w':Wd}(h:Evs w w'):Lif w w':=fun k=>(h.st k).2
theorem zng(w:Wd)(k:Nat):Lif w (w.note k):=fun j=>by
 unfold Wd.note
 split
 ·rfl
 ·show (zy9 w.seat k _ j).life=_
  unfold zy9
  split
  ·rename_i e;rw[e]
  ·rfl
theorem zia(w:Wd)(k:Nat):Lif w (w.deliver k):=by
 unfold Wd.deliver
 split
 ·exact fun _=>rfl
 ·rename_i p hp
  unfold Wd.told
  refine Lif.trans (b:={ w with net:=w.net.eraseIdx k,step:=w.step+1 }) (fun _=>rfl) ?_
  split
  ·exact(zc5 _ _).lif
  ·split
   ·exact((zf7 _ _ _).lif.trans (zc4 _ _ _).lif).trans (zng _ _)
   ·exact fun _=>rfl
theorem zhe:∀ (f:Nat) (w:Wd),Lif w (w.drain f)
 | 0,_=>fun _=>rfl
 | f+1,w=>by
  unfold Wd.drain
  split
  ·exact fun _=>rfl
  ·exact(zia w 0).trans (zhe f _)
theorem zhf(w:Wd)(k:Nat):Lif w (w.again k):=Lif.trans (b:={ w with step:=w.step+1 }) (fun _=>rfl) (zfj _ k).lif
theorem zlg(w:Wd):∀ k,Lif w (w.calmK k)
 | 0=>fun _=>rfl
 | k+1=>((zlg w k).trans (zhf _ k)).trans (zhe _ _)
theorem zt8(w:Wd):Lif w w.calm1:=(((ze3 w).lif.trans (zlg _ _)).trans (zd7 _ _ _).lif).trans (zhe _ _)
theorem zd8(w:Wd):∀ r,Lif w (w.calm r)
 | 0=>fun _=>rfl
 | r+1=>(zd8 w r).trans (zt8 _)
theorem zen(w:Wd)(k:Nat)(c:K):Lif w (w.begin k c):=by
 unfold Wd.begin Wd.asked
 have h:Lif w ((w.opens k c).note k):=Lif.trans (b:=w.opens k c) (fun j=>by
  show (zy9 w.seat k _ j).life=_
  unfold zy9
  split
  ·rename_i e;rw[e]
  ·rfl) (zng _ k)
 split
 ·exact h
 ·exact h.trans (zfj _ k).lif
def Lfs(rb:Option Nat)(w w':Wd):Prop:=∀ k:Nat,(w'.seat k).life=(w.seat k).life+if rb=some k then 1 else 0
theorem Lfs.none{w w':Wd}(h:Lif w w'):Lfs none w w':=fun k=>by rw[h k,if_neg (by simp)];omega
theorem zre(w:Wd)(k:Nat):Lfs (some k) w (w.reborn k):=fun j=>by
 show (zy9 w.seat k _ j).life=_
 unfold zy9
 split
 ·rename_i e;rw[e,if_pos rfl]
 ·rename_i e;rw[if_neg (by simp;omega)];omega
end Wld
end
end Go.Proofs.YtbebfliimjjohabGreatDoor
