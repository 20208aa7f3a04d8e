/- Parts of the proof. -/
import Derived.Test.YtbebfliimjjohabGreatDoorLc43
set_option maxRecDepth 100000
set_option maxHeartbeats 8000000
namespace Go.Proofs.YtbebfliimjjohabGreatDoor
section
namespace Wld
open Go.Maps
open Lease (I64 upd zae zad mx hol isH kk dels)
open Cache (E era putL)
open Wal (R timeB)
open Num (M okB)
theorem zdj{T:Int}{o:Int}{d:Nat}:∀ (cs:List Int) (s:Sv),isH (s.await T cs).1.D o T d=true->isH s.D o T d=true
 | [],s,h=>h
 | c :: cs,s,h=>by
  rw[za1] at h
  split at h
  ·exact zdj cs s h
  ·exact(zfx 8 (zdj cs (s.flushed c) h)).1
theorem zhd{T:Int}{d:Int}:∀ (cs:List Int) (s:Sv),d∉cs->(s.await T cs).1.vol d=s.vol d
 | [],s,_=>rfl
 | c :: cs,s,h=>by
  have h1:d≠c:=fun q=>h (q▸List.mem_cons_self ..)
  have h2:d∉cs:=fun q=>h (List.mem_cons_of_mem _ q)
  rw[za1]
  split
  ·exact zhd cs s h2
  ·rw[zhd cs (s.flushed c) h2];exact zad h1
theorem zq7{T:Int}{o d:Nat}(ho:o<8)(cs:List Int):∀ (s:Sv),cs.Nodup->(d:Int)∈cs->isH (s.await T cs).1.D o T d=true->T<(s.await T cs).1.vol d:=by
 induction cs with
 | nil=>intro s _ hm;cases hm
 | cons c cs ih=>
  intro s hn hm h
  obtain⟨n1,n2⟩:=List.nodup_cons.1 hn
  rw[za1] at h ⊢
  by_cases hv:T<s.vol c
  ·rw[if_pos hv] at h ⊢
   rcases List.mem_cons.1 hm with q|q
   ·have e:=zhd (T:=T) cs s n1
    show T<(s.await T cs).1.vol d
    rw[q,e];exact hv
   ·exact ih s n2 q h
  ·rw[if_neg hv] at h ⊢
   rcases List.mem_cons.1 hm with q|q
   ·exfalso
    have h1:=zdj cs (s.flushed c) h
    exact(zfx 8 h1).2 o ho (by rw[q])
   ·exact ih _ n2 q h
theorem znc{T:Int}{o d:Nat}(ho:o<8)(hd:d<4){s:Sv}(hup:s.down=false)(hw:s.zzf o≠[])(h:isH (s.zyz o T).1.D o T d=true):T<(s.zyz o T).1.vol d:=by
 unfold Sv.zyz at h ⊢
 have hn:¬ (s.down=true\/(s.zzf o).length=0):=fun q=>by
  rcases q with q|q
  ·rw[hup] at q;cases q
  ·exact hw (List.length_eq_zero_iff.1 q)
 rw[if_neg hn] at h ⊢
 exact zq7 ho _ s (zlb _ _ _ _) (zj1 (zdj _ s h) hd) h
theorem zn9{T:Int}{o:Int}{d x:Nat}{s:Sv}(h:isH (s.zyz x T).1.D o T d=true):isH s.D o T d=true:=by
 unfold Sv.zyz at h
 split at h
 ·exact h
 ·exact zdj _ s h
theorem Pw.zyz{s:Sv}(h:Pw s){o:Nat}(ho:o<8)(T:Int):Pw (s.zyz o T).1:=by
 obtain⟨_,a2,_⟩:=zb0 T ho [] s
 have hk:=za8 s o T
 refine⟨a2.trans h.up,fun q=>?_⟩
 rw[hk.1] at q
 rw[hk.2.1,hk.2.2]
 exact h.pw q
theorem zwp{x:Int}{l:List Int}(h:x∈l):hasN x l=true:=List.any_eq_true.2 ⟨x,h,by simp⟩
structure Rm(T:Int)(d k:Nat)(s s':Sv)(l:List M):Prop where
 aw:∀ (x c:Nat),x<8->c<4->(aw s' T x c↔aw s T x c)
 w:s'.zzf=s.zzf
 vv:s'.vv=s.vv
 ep:s'.epoch=s.epoch
 rdy:s'.ready=s.ready
 pw:Pw s'
 inv:∀ o:Nat,o<k->s.zzf o≠[]->Wld.aw s T o d->∃ x∈l,IsInv s d o x
 lft:∀ o:Nat,o<k->s.zzf o≠[]->isH s'.D o T d=true->T<s'.vol d
theorem zlc{T:Int}(hT:0<=T){d:Nat}(hd:d<4){s:Sv}(hp:Pw s):∀ k,k<=8->Rm T d k s (s.zy0 (d:Nat) T k).1 (s.zy0 (d:Nat) T k).2
 | 0,_=>⟨fun _ _ _ _=>Iff.rfl,rfl,rfl,rfl,rfl,hp,fun o h=>absurd h (Nat.not_lt_zero _),fun o h=>absurd h (Nat.not_lt_zero _)⟩
 | k+1,hk=>by
  have r:=zlc hT hd hp k (by omega)
  have e:s.zy0 (d:Nat) T (k+1)=(((s.zy0 (d:Nat) T k).1.zyz k T).1,(s.zy0 (d:Nat) T k).2++(if hasN (d:Nat) ((s.zy0 (d:Nat) T k).1.zyz k T).2=true then [((s.zy0 (d:Nat) T k).1.zyz k T).1.invalM (d:Nat) k] else [])):=rfl
  rw[e]
  obtain⟨e1,e2,e3,e4,e5⟩:=zak (s.zy0 (d:Nat) T k).1 k T
  have hA:=fun (x c:Nat) (hx:x<8) (hc:c<4)=>zf4 hT hx hc (s.zy0 (d:Nat) T k).1 k
  refine⟨fun x c hx hc=>(hA x c hx hc).trans (r.aw x c hx hc),e1.trans r.w,e2.trans r.vv,e5.trans r.ep,e4.trans r.rdy,r.pw.zyz (by omega) T,fun o ho hw ha=>?_,fun o ho hw hh=>?_⟩
  ·by_cases eo:o=k
   ·subst eo
    have hm:(d:Int)∈((s.zy0 (d:Nat) T o).1.zyz o T).2:=(zc9 r.pw.up).2 ⟨by rw[r.w];exact hw,d,hd,rfl,(r.aw o d (by omega) hd).2 ha⟩
    rw[if_pos (zwp hm)]
    exact⟨_,List.mem_append_right _ (List.mem_singleton.2 rfl),rfl,rfl,e5.trans r.ep,rfl,by show (((s.zy0 (d:Nat) T o).1.zyz o T).1).vv o+1=_;rw[e2,r.vv]⟩
   ·obtain⟨x,hx,q⟩:=r.inv o (by omega) hw ha
    exact⟨x,List.mem_append_left _ hx,q⟩
  ·by_cases eo:o=k
   ·subst eo
    exact znc (by omega) hd r.pw.up (by rw[r.w];exact hw) hh
   ·have h1:=zn9 hh
    have h2:=r.lft o (by omega) hw h1
    exact((hA o d (by omega) hd).2 ⟨h1,h2⟩).2
theorem zwq{T:Int}(hT:0<=T){m:M}{s:Sv}(hp:Pw s)(hk:m.k=3):Hr T m s (s.renewS m T).1 (s.renewS m T).2:=by
 have r:=zlc hT (seat4 m.c) hp 8 (Nat.le_refl _)
 have hh:Hold s T->Hold (s.zy0 (zy8 m.c:Nat) T 8).1 T:=fun h hr o ho hw=>by
  rw[r.w] at hw
  rw[r.rdy] at hr
  obtain⟨c,hc,q⟩:=h hr o ho hw
  exact⟨c,hc,(r.aw o c ho hc).2 q⟩
 have other:∀ c o:Nat,c<4->o<8->c≠zy8 m.c->(s.zy0 (zy8 m.c:Nat) T 8).1.zzf o≠[]->aw (s.zy0 (zy8 m.c:Nat) T 8).1 T o c->s.zzf o≠[]/\aw s T o c/\(s.zy0 (zy8 m.c:Nat) T 8).1.vv o=s.vv o/\¬ (m.k=3/\zy8 m.c=c)/\¬ IsAck s c o m:=fun c o hc ho hne hw ha=>
  ⟨by rw[<- r.w];exact hw,(r.aw o c ho hc).1 ha,by rw[r.vv],fun q=>hne q.2.symm,noAck (by omega) c o⟩
 unfold Sv.renewS
 split
 ·refine⟨r.rdy,r.ep,r.pw,hh,fun c o hc ho hw ha=>?_⟩
  by_cases e:c=zy8 m.c
  ·subst e
   right
   obtain⟨x,hx,q1,q2,q3,q4,q5⟩:=r.inv o ho (by rw[<- r.w];exact hw) ((r.aw o _ ho hc).1 ha)
   exact⟨x,hx,q1,q2,q3.trans r.ep.symm,q4,by rw[r.vv];exact q5⟩
  ·exact .inl (other c o hc ho e hw ha)
 ·rename_i hemp
  have hemp':(s.zy0 (zy8 m.c:Nat) T 8).2 = []:=by
   cases h:(s.zy0 (zy8 m.c:Nat) T 8).2 with
   | nil=>rfl
   | cons a b=>rw[h] at hemp;exact absurd (by simp) hemp
  have none:∀ o:Nat,o<8->s.zzf o≠[]->¬ aw s T o (zy8 m.c):=fun o ho hw ha=>by
   obtain⟨x,hx,_⟩:=r.inv o ho hw ha
   rw[hemp'] at hx
   cases hx
  split
  ·refine⟨r.rdy,r.ep,r.pw,hh,fun c o hc ho hw ha=>?_⟩
   by_cases e:c=zy8 m.c
   ·subst e
    exact absurd ((r.aw o _ ho hc).1 ha) (none o ho (by rw[<- r.w];exact hw))
   ·exact .inl (other c o hc ho e hw ha)
  ·refine⟨r.rdy,r.ep,⟨r.pw.up,r.pw.pw⟩,fun h hr o ho hw=>?_,fun c o hc ho hw ha=>?_⟩
   ·obtain⟨c,hc,q1,q2⟩:=hh h hr o ho hw
    refine⟨c,hc,q1,?_⟩
    show T<upd _ _ _ (c:Int)
    by_cases e:(c:Int)=(zy8 m.c:Nat)
    ·rw[e,zae];rw[e] at q2;exact Int.lt_of_lt_of_le q2 (zd2 _ _)
    ·rw[zad e];exact q2
   ·by_cases e:c=zy8 m.c
    ·subst e
     exfalso
     have hw':s.zzf o≠[]:=by rw[<- r.w];exact hw
     have h1:isH (s.zy0 (zy8 m.c:Nat) T 8).1.D o T (zy8 m.c)=true:=ha.1
     have h2:=r.lft o ho hw' h1
     exact none o ho hw' ((r.aw o _ ho hc).1 ⟨h1,h2⟩)
    ·refine .inl (other c o hc ho e hw ⟨ha.1,?_⟩)
     have h2:T<upd (s.zy0 (zy8 m.c:Nat) T 8).1.vol (zy8 m.c:Nat) (mx ((s.zy0 (zy8 m.c:Nat) T 8).1.vol (zy8 m.c:Nat)) (T+(s.zy0 (zy8 m.c:Nat) T 8).1.tv)) (c:Int):=ha.2
     rw[zad (by omega)] at h2
     exact h2
theorem zx8{T:Int}(hT:0<=T)(m:M){s:Sv}(hp:Pw s)(hq:∀ o,(s.zzf o).length<=10)(hl:s.rs.length<=188)(hc:0<=m.c)(h0:0<=m.o)(h8:m.o<8):Hr T m s (s.hear m T).1 (s.hear m T).2:=by
 unfold Sv.hear
 have ho:m.o.toNat<8:=by omega
 have hw:=hq m.o.toNat
 rw[if_neg (by rw[hp.up];simp only[Bool.false_eq_true,false_or];omega)]
 split
 ·rename_i hk;exact zx7 hp hk ho
 ·split
  ·rename_i hk;exact zwo hT hp hk ho (by omega)
  ·split
   ·rename_i hk;exact zwq hT hp hk
   ·split
    ·rename_i hk;exact zyt hT hp hk ho (by omega) (by omega)
    ·rename_i h1 h2 h3 h4
     exact Hr.same hp h3 (noAck h4)
def Pen(w:Wd)(s:Sv)(c o:Nat):Prop:=(∃ x:M,((c:Int),x)∈w.net/\IsInv s c o x)\/∃ x:M,((-1:Int),x)∈w.net/\IsAck s c o x
def Ren(w:Wd)(c:Nat):Prop:=∃ x:M,((-1:Int),x)∈w.net/\x.k=3/\zy8 x.c=c/\0<=x.c/\x.o=0
def ClP(w:Wd)(c:Nat):Prop:=∀ s,w.sv=some s->∀ o:Nat,o<8->s.zzf o≠[]->aw s w.clock o c->Pen w s c o\/Ren w c
theorem zq8{c:Nat}(h:c<4):zy8 (c:Int)=c:=by unfold zy8;omega
theorem Cm.hr{w:Wd}{H:List Hc}{L:List M}{b C:Nat}{cb:Int}(h:Cm w H L b C cb)(hH:H.length+b<=150){s:Sv}(hs:w.sv=some s)(m:M)(hc:0<=m.c)(h0:0<=m.o)(h8:m.o<8):Hr w.clock m s (s.hear m w.clock).1 (s.hear m w.clock).2:=by
 obtain⟨s0,hs0,hp⟩:=h.up
 obtain rfl:s0=s:=Option.some.inj (hs0.symm.trans hs)
 obtain⟨B,hi,hB⟩:=h.safe.inv.inv
 have hroom:=hi.room
 rw[<- (hi.sv s0 hs).2] at hroom
 exact zx8 h.wb.c0 m hp (h.wb.sv s0 hs).1.wlen (by omega) hc h0 h8
theorem znd{s:Sv}{m:M}{T:Int}(h:8<=m.o):s.hear m T=(s,[]):=by
 unfold Sv.hear
 rw[if_pos (.inr (.inr (.inr h)))]
theorem ClP.deliver{w:Wd}{H:List Hc}{L:List M}{b C:Nat}{cb:Int}(h:Cm w H L b C cb)(hH:H.length+b<=150){c:Nat}(hc:c<w.n)(hr:ClP w c){p:Int×M}{rest:List (Int×M)}(hn:w.net=p :: rest):ClP (w.deliver 0) c:=by
 obtain⟨B,hi,_⟩:=h.inv
 have hc4:c<4:=by have:=hi.n4;omega
 have hok:okB p.2=true:=h.wb.net p (by rw[hn];exact List.mem_cons_self ..)
 refine h.cases hn (P:=fun w'=>ClP w' c) (fun s hs hp w' e1 e2 e3 e4 e5=>?_) (fun j hj hp w' e1 e2 e3 e4 e5=>?_) (fun hp hq w' e1 e2 e3 e4 e5=>?_)
 ·intro s' hs' o ho hw ha
  obtain rfl:(s.hear p.2 w.clock).1=s':=Option.some.inj (e2.symm.trans hs')
  rw[e4] at ha
  have hmem:∀ {t:Int} {x:M},(t,x)∈rest->(t,x)∈w'.net:=fun q=>by rw[e1];exact List.mem_append_left _ q
  by_cases h8:p.2.o<8
  ·have r:=h.hr hH hs p.2 (zdi (zbf hok).1).1.1 (zd6 hok).2.1.1 h8
   rcases r.cl c o hc4 ho hw ha with ⟨q1,q2,q3,q4,q5⟩|⟨x,hx,q1,q2,q3,q4,q5⟩
   ·rcases hr s hs o ho q1 q2 with (⟨x,hx,x1,x2,x3,x4,x5⟩|⟨x,hx,xa⟩)|⟨x,hx,x1,x2,x3,x4⟩
    ·rw[hn] at hx
     rcases List.mem_cons.1 hx with q|q
     ·have:(c:Int)=p.1:=by rw[<- q]
      omega
     ·exact .inl (.inl ⟨x,hmem q,x1,x2,x3.trans r.ep.symm,x4,by rw[q3];exact x5⟩)
    ·rw[hn] at hx
     rcases List.mem_cons.1 hx with q|q
     ·have e:p.2=x:=by rw[<- q]
      exact absurd (e▸xa) q5
     ·obtain⟨x1,x2,x3,x4,x5⟩:=xa
      exact .inl (.inr ⟨x,hmem q,x1,x2,x3.trans r.ep.symm,x4,by rw[q3];exact x5⟩)
    ·rw[hn] at hx
     rcases List.mem_cons.1 hx with q|q
     ·have e:p.2=x:=by rw[<- q]
      exact absurd ⟨by rw[e];exact x1,by rw[e];exact x2⟩ q4
     ·exact .inr ⟨x,hmem q,x1,x2,x3,x4⟩
   ·refine .inl (.inl ⟨x,?_,q1,q2,q3,q4,q5⟩)
    rw[e1]
    exact List.mem_append_right _ (List.mem_map.2 ⟨x,hx,by rw[q2,zq8 hc4]⟩)
  ·have hf:=znd (s:=s) (T:=w.clock) (m:=p.2) (by omega)
   rw[hf] at hw ha ⊢
   rcases hr s hs o ho hw ha with (⟨x,hx,xa⟩|⟨x,hx,xa⟩)|⟨x,hx,x1,x2,x3,x4⟩
   ·rw[hn] at hx
    rcases List.mem_cons.1 hx with q|q
    ·have:(c:Int)=p.1:=by rw[<- q]
     omega
    ·exact .inl (.inl ⟨x,hmem q,xa⟩)
   ·rw[hn] at hx
    rcases List.mem_cons.1 hx with q|q
    ·have e:p.2=x:=by rw[<- q]
     have:=xa.2.2.2.1
     rw[e] at h8
     omega
    ·exact .inl (.inr ⟨x,hmem q,xa⟩)
   ·rw[hn] at hx
    rcases List.mem_cons.1 hx with q|q
    ·have e:p.2=x:=by rw[<- q]
     rw[e] at h8
     omega
    ·exact .inr ⟨x,hmem q,x1,x2,x3,x4⟩
 ·intro s' hs' o ho hw ha
  rw[e2] at hs'
  rw[e4] at ha
  have hmem:∀ {t:Int} {x:M},(t,x)∈rest->(t,x)∈w'.net:=fun q=>by rw[e1];exact List.mem_append_left _ q
  rcases hr s' hs' o ho hw ha with (⟨x,hx,xa⟩|⟨x,hx,xa⟩)|⟨x,hx,xa⟩
  ·rw[hn] at hx
   rcases List.mem_cons.1 hx with q|q
   ·have e:p.2=x:=by rw[<- q]
    have ej:(c:Int)=p.1:=by rw[<- q]
    have ej':j=c:=by omega
    subst ej'
    obtain⟨x1,x2,x3,x4,x5⟩:=xa
    refine .inl (.inr ⟨(w.seat j).k.ackM x,?_,rfl,(h.id hj).2.2,x3,x4,x5⟩)
    rw[e1]
    refine List.mem_append_right _ (List.mem_map.2 ⟨(w.seat j).k.ackM x,?_,rfl⟩)
    rw[e]
    unfold K.hear
    rw[if_pos x1]
    exact List.mem_singleton.2 rfl
   ·exact .inl (.inl ⟨x,hmem q,xa⟩)
  ·rw[hn] at hx
   rcases List.mem_cons.1 hx with q|q
   ·have:(-1:Int)=p.1:=by rw[<- q]
    omega
   ·exact .inl (.inr ⟨x,hmem q,xa⟩)
  ·rw[hn] at hx
   rcases List.mem_cons.1 hx with q|q
   ·have:(-1:Int)=p.1:=by rw[<- q]
    omega
   ·exact .inr ⟨x,hmem q,xa⟩
 ·intro s' hs' o ho hw ha
  rw[e2] at hs'
  rw[e4] at ha
  rcases hr s' hs' o ho hw ha with (⟨x,hx,xa⟩|⟨x,hx,xa⟩)|⟨x,hx,xa⟩
  ·rw[hn] at hx
   rcases List.mem_cons.1 hx with q|q
   ·exfalso
    have e:p.1=(c:Int):=by rw[<- q]
    rw[e] at hq
    have:w.has (c:Int)=true:=decide_eq_true ⟨by omega,by omega⟩
    rw[this] at hq
    cases hq
   ·exact .inl (.inl ⟨x,by rw[e1];exact q,xa⟩)
  ·rw[hn] at hx
   rcases List.mem_cons.1 hx with q|q
   ·exact absurd (by rw[<- q]) hp
   ·exact .inl (.inr ⟨x,by rw[e1];exact q,xa⟩)
  ·rw[hn] at hx
   rcases List.mem_cons.1 hx with q|q
   ·exact absurd (by rw[<- q]) hp
   ·exact .inr ⟨x,by rw[e1];exact q,xa⟩
def HoldW(w:Wd):Prop:=∀ s,w.sv=some s->Hold s w.clock
theorem HoldW.deliver{w:Wd}{H:List Hc}{L:List M}{b C:Nat}{cb:Int}(h:Cm w H L b C cb)(hH:H.length+b<=150)(hr:HoldW w){p:Int×M}{rest:List (Int×M)}(hn:w.net=p :: rest):HoldW (w.deliver 0):=by
 have hok:okB p.2=true:=h.wb.net p (by rw[hn];exact List.mem_cons_self ..)
 refine h.cases hn (P:=HoldW) (fun s hs hp w' e1 e2 e3 e4 e5=>?_) (fun j hj hp w' e1 e2 e3 e4 e5=>?_) (fun hp hq w' e1 e2 e3 e4 e5=>?_)
 ·intro s' hs'
  obtain rfl:(s.hear p.2 w.clock).1=s':=Option.some.inj (e2.symm.trans hs')
  rw[e4]
  by_cases h8:p.2.o<8
  ·exact(h.hr hH hs p.2 (zdi (zbf hok).1).1.1 (zd6 hok).2.1.1 h8).hold (hr s hs)
  ·rw[znd (by omega)];exact hr s hs
 ·intro s' hs'
  rw[e4];exact hr s' (e2▸hs')
 ·intro s' hs'
  rw[e4];exact hr s' (e2▸hs')
theorem zt3(rs:List R)(k:Nat):(logL rs).last k=⟨0,0,0,0,⟨#[]⟩,0⟩\/zy8 ((logL rs).last k).c=k:=by
 have key:∀ (l:List R) (x:L4),(x.last k=⟨0,0,0,0,⟨#[]⟩,0⟩\/zy8 (x.last k).c=k)->((l.foldl L4.app x).last k=⟨0,0,0,0,⟨#[]⟩,0⟩\/zy8 ((l.foldl L4.app x).last k).c=k):=fun l=>by
  induction l with
  | nil=>exact fun x h=>h
  | cons r l ih=>
   intro x h
   refine ih (x.app r) ?_
   unfold L4.app
   split
   ·exact h
   ·split
    ·show zy9 x.last (zy8 r.c) r k=_\/zy8 (zy9 x.last (zy8 r.c) r k).c=k
     unfold zy9
     split
     ·rename_i e;exact .inr e.symm
     ·exact h
    ·exact h
 exact key rs L4.zero (.inl rfl)
theorem zix(o:Nat)(T:Int):∀ (f:Nat) (s:Sv),Pw s->s.rs.length+f<=200->o<8->∀ m∈s.zzf o,m∈(s.adv o T f).1.zzf o\/∃ x∈(s.adv o T f).2,x.k=6/\x.c=m.c/\x.n=m.n
 | 0,s,_,_,_,m,hm=>.inl hm
 | f+1,s,hp,hl,ho,m,hm=>by
  obtain⟨e1,_⟩:=zak s o T
  have hrs:=(za8 s o T).2.2
  have hp1:=hp.zyz ho T
  unfold Sv.adv
  split
  ·exact .inl hm
  ·split
   ·left;rw[e1];exact hm
   ·split
    ·left;rw[e1];exact hm
    ·rename_i m0 rest hm0
     have hlen:(s.zyz o T).1.rs.length<200:=by rw[hrs];omega
     have hok:((s.zyz o T).1.commit m0 o).2.2=true:=by rw[zcj hp1 hlen]
     rw[if_neg (by rw[hok];decide)]
     rw[<- e1,hm0] at hm
     rcases List.mem_cons.1 hm with q|q
     ·right
      exact⟨_,List.mem_cons_self ..,rfl,by rw[q];rfl,by rw[q];rfl⟩
     ·have hp2:=hp1.commit hlen m0 o
      have hr2:((s.zyz o T).1.commit m0 o).1.rs.length=s.rs.length+1:=by
       rw[zcj hp1 hlen]
       dsimp only
       rw[zbb]
       simp[hrs]
      rcases zix o T f ({ ((s.zyz o T).1.commit m0 o).1 with zzf:=zy9 ((s.zyz o T).1.commit m0 o).1.zzf o rest }:Sv) ⟨hp2.up,hp2.pw⟩ (by show ((s.zyz o T).1.commit m0 o).1.rs.length+f<=200;omega) ho m (by show m∈zy9 _ o rest o;rw[zaa];exact q) with a|⟨x,hx,a⟩
      ·exact .inl a
      ·exact .inr ⟨x,List.mem_cons_of_mem _ hx,a⟩
theorem zq9{T:Int}{s:Sv}(hp:Pw s)(hq:∀ o,(s.zzf o).length<=10)(hl:s.rs.length<=188)(p:M){o:Nat}(ho:o<8){m:M}(hm:m∈s.zzf o):m∈(s.hear p T).1.zzf o\/∃ x∈(s.hear p T).2,x.k=6/\x.c=m.c/\x.n=m.n:=by
 have adv:∀ (s1:Sv) (o1:Nat),Pw s1->s1.rs.length+(s1.zzf o1).length+1<=200->o1<8->m∈s1.zzf o->m∈(s1.zy1 o1 T).1.zzf o\/∃ x∈(s1.zy1 o1 T).2,x.k=6/\x.c=m.c/\x.n=m.n:=fun s1 o1 hp1 hl1 ho1 hm1=>by
  by_cases e:o=o1
  ·subst e;exact zix o T _ s1 hp1 (by omega) ho m hm1
  ·left
   show m∈(s1.adv o1 T _).1.zzf o
   rw[zeh o1 T _ s1 o e];exact hm1
 unfold Sv.hear
 split
 ·exact .inl hm
 ·rename_i hn
  have ho1:p.o.toNat<8:=by omega
  have hw1:=hq p.o.toNat
  split
  ·left
   show m∈(s.lent p p.o.toNat T).zzf o
   unfold Sv.lent
   split<;>exact hm
  ·split
   ·unfold Sv.writeS
    split
    ·exact .inl hm
    ·split
     ·exact .inl hm
     ·have hq1:Pw (s.enq p p.o.toNat).1/\(s.enq p p.o.toNat).1.rs=s.rs/\((s.enq p p.o.toNat).1.zzf p.o.toNat).length<=(s.zzf p.o.toNat).length+1/\m∈(s.enq p p.o.toNat).1.zzf o:=by
       unfold Sv.enq
       split
       ·exact⟨hp,rfl,Nat.le_succ _,hm⟩
       ·split
        ·exact⟨hp,rfl,Nat.le_succ _,hm⟩
        ·refine⟨⟨hp.up,hp.pw⟩,rfl,?_,?_⟩
         ·show (zy9 s.zzf p.o.toNat _ p.o.toNat).length<=_;rw[zaa];simp
         ·show m∈zy9 s.zzf p.o.toNat _ o
          unfold zy9
          split
          ·rename_i e;rw[e] at hm;exact List.mem_append_left _ hm
          ·exact hm
      obtain⟨a1,a2,a3,a4⟩:=hq1
      split
      ·exact .inl a4
      ·unfold Sv.wrote
       rcases adv _ p.o.toNat a1 (by rw[a2];omega) ho1 a4 with q|⟨x,hx,q⟩
       ·left
        show m∈(Sv.zyz _ _ _).1.zzf o
        rw[(zak _ _ _).1];exact q
       ·exact .inr ⟨x,List.mem_append_left _ hx,q⟩
   ·split
    ·left
     have e:=(zfu s (zy8 p.c:Nat) T 8).2
     unfold Sv.renewS
     split
     ·rw[e];exact hm
     ·split
      ·show m∈(s.zy0 _ _ _).1.zzf o;rw[e];exact hm
      ·show m∈(s.zy0 _ _ _).1.zzf o;rw[e];exact hm
    ·split
     ·unfold Sv.release
      split
      ·exact adv (s.dropped (zy8 p.c) p.o.toNat) p.o.toNat ⟨hp.up,hp.pw⟩ (by show s.rs.length+(s.zzf p.o.toNat).length+1<=200;omega) ho1 hm
      ·exact .inl hm
     ·exact .inl hm
def WrP(w:Wd)(k:Nat):Prop:=(w.seat k).k.zy2=true->(w.seat k).k.kind=2 ->
 (∃ m:M,((-1:Int),m)∈w.net/\m.k=2/\m.c=(w.seat k).k.id/\m.n=(w.seat k).k.num/\m.o=(w.seat k).k.cob)\/(∃ m:M,((k:Int),m)∈w.net/\m.k=6/\m.c=(w.seat k).k.id/\m.n=(w.seat k).k.num)\/∃ s,w.sv=some s/\∃ m∈s.zzf (w.seat k).k.cob.toNat,m.c=(w.seat k).k.id/\m.n=(w.seat k).k.num
theorem Inv.notLate{w:Wd}{H:List Hc}{L:List M}{B:Nat}(h:Inv w H L B){k:Nat}(hk:k<w.n)(ho:(w.seat k).k.zy2=true){s:Sv}(hs:w.sv=some s):later (w.seat k).k.id (w.seat k).k.num (s.last k)=true\/((w.seat k).k.id=(s.last k).c/\(w.seat k).k.num=(s.last k).n):=by
 obtain⟨hi,hrs⟩:=h.sv s hs
 have e:s.last=(logL w.rs).last:=by rw[<- hrs];exact congrArg L4.last hi.l4
 have st:=h.st k hk
 have hcall:0<=(w.seat k).call:=by rw[st.isO] at ho;exact of_decide_eq_true ho
 obtain⟨e0,g0,a1,a2,a3,a4,_⟩:=st.opn hcall
 have hn:=h.n1 g0 (List.mem_of_getElem? a2)
 have hid:=st.id
 have hl0:=st.l0
 rw[e]
 unfold later
 rcases h.log.lin k with q|⟨q,q0⟩
 ·rw[q]
  simp only[Bool.or_eq_true,Bool.and_eq_true,decide_eq_true_eq]
  left
  by_cases hz:0<(w.seat k).k.id
  ·exact .inl hz
  ·exact .inr ⟨by omega,by omega⟩
 ·obtain⟨_,g,hg,g1,g2,_⟩:=h.log.wr _ q q0
  simp only[Bool.or_eq_true,Bool.and_eq_true,decide_eq_true_eq]
  rcases zt3 w.rs k with z|z
  ·rw[z]
   left
   by_cases hz:0<(w.seat k).k.id
   ·exact .inl hz
   ·exact .inr ⟨by show (w.seat k).k.id=0;omega,by show (0:Int)<(w.seat k).k.num;omega⟩
  ·have h1:=st.liv g hg (by rw[g1];exact z)
   have h2:=st.num g hg
   by_cases hlt:((logL w.rs).last k).c<(w.seat k).k.id
   ·exact .inl (.inl hlt)
   ·have heq:(w.seat k).k.id=((logL w.rs).last k).c:=by omega
    have h3:=h2 (by omega)
    by_cases hnn:((logL w.rs).last k).n<(w.seat k).k.num
    ·exact .inl (.inr ⟨heq,hnn⟩)
    ·exact .inr ⟨heq,by omega⟩
theorem zt4(f:Nat->List M){o:Nat}(ho:o<8):(f o).length<=total f:=by
 have h:=zgz f o ho []
 simp only[List.length_nil] at h
 omega
theorem zoa{T:Int}{m:M}{s:Sv}(hp:Pw s)(hk:m.k=2)(hc:0<=m.c)(h0:0<=m.o)(h8:m.o<8)(hw:(s.zzf m.o.toNat).length<10)(hl:s.rs.length<=188)(hlate:later m.c m.n (s.last (zy8 m.c))=true\/(m.c=(s.last (zy8 m.c)).c/\m.n=(s.last (zy8 m.c)).n)) :
  (∃ x∈(s.hear m T).2,x.k=6/\x.c=m.c/\x.n=m.n)\/∃ x∈(s.hear m T).1.zzf m.o.toNat,x.c=m.c/\x.n=m.n:=by
 have ho:m.o.toNat<8:=by omega
 have e:s.hear m T=s.writeS m m.o.toNat T:=by
  unfold Sv.hear
  rw[if_neg (by rw[hp.up];simp only[Bool.false_eq_true,false_or];omega),if_neg (by omega),if_pos hk]
 rw[e]
 unfold Sv.writeS
 split
 ·exact .inl ⟨_,List.mem_singleton.2 rfl,rfl,rfl,rfl⟩
 ·rename_i hne
  have hl':later m.c m.n (s.last (zy8 m.c))=true:=hlate.resolve_right hne
  rw[if_neg (by rw[hl'];decide)]
  have hq:(s.enq m m.o.toNat).2=true/\Pw (s.enq m m.o.toNat).1/\(s.enq m m.o.toNat).1.rs=s.rs/\((s.enq m m.o.toNat).1.zzf m.o.toNat).length<=10/\∃ x∈(s.enq m m.o.toNat).1.zzf m.o.toNat,x.c=m.c/\x.n=m.n:=by
   unfold Sv.enq
   split
   ·rename_i ha
    obtain⟨x,hx,hs⟩:=List.any_eq_true.1 ha
    unfold sameW at hs
    simp only[Bool.and_eq_true,decide_eq_true_eq] at hs
    exact⟨rfl,hp,rfl,by show (s.zzf _).length<=10;omega,x,hx,hs⟩
   ·rw[if_neg (by omega)]
    refine⟨rfl,⟨hp.up,hp.pw⟩,rfl,?_,m,?_,rfl,rfl⟩
    ·show (zy9 s.zzf m.o.toNat _ m.o.toNat).length<=10;rw[zaa];simp;omega
    ·show m∈zy9 s.zzf m.o.toNat _ m.o.toNat;rw[zaa];exact List.mem_append_right _ (List.mem_singleton.2 rfl)
  obtain⟨q1,q2,q3,q4,x,hx,hx1⟩:=hq
  rw[if_neg (by rw[q1];decide)]
  unfold Sv.wrote
  rcases zix m.o.toNat T (((s.enq m m.o.toNat).1.zzf m.o.toNat).length+1) (s.enq m m.o.toNat).1 q2 (by rw[q3];omega) ho x hx with a|⟨y,hy,a1,a2,a3⟩
  ·right
   refine⟨x,?_,hx1⟩
   show x∈(Sv.zyz _ _ _).1.zzf _
   rw[(zak _ _ _).1];exact a
  ·exact .inl ⟨y,List.mem_append_left _ hy,a1,a2.trans hx1.1,a3.trans hx1.2⟩
theorem zyy{l:List (Int×M)}{p:Int×M}(h:p∈l):wt p.2<=wnet l:=by
 induction l with
 | nil=>cases h
 | cons a l ih=>
  have e:wnet (a :: l)=wt a.2+wnet l:=by simp[wnet,wts]
  rcases List.mem_cons.1 h with q|q
  ·rw[q,e];omega
  ·have:=ih q;omega
theorem WrP.deliver{w:Wd}{H:List Hc}{L:List M}{b C:Nat}{cb:Int}(h:Cm w H L b C cb)(hH:H.length+b<=150)(hmu:w.mu<=29){k:Nat}(hk:k<w.n)(hr:WrP w k){p:Int×M}{rest:List (Int×M)}(hn:w.net=p :: rest):WrP (w.deliver 0) k:=by
 obtain⟨B,hi,hB⟩:=h.safe.inv.inv
 have hid:=h.id hk
 refine h.cases hn (P:=fun w'=>WrP w' k) (fun s hs hp w' e1 e2 e3 e4 e5=>?_) (fun j hj hp w' e1 e2 e3 e4 e5=>?_) (fun hp hq w' e1 e2 e3 e4 e5=>?_)
 ·intro ho hk2
  rw[e3] at ho hk2 ⊢
  have hpw:Pw s:=by obtain⟨s1,hs1,hp1⟩:=h.up;rw[Option.some.inj (hs.symm.trans hs1)];exact hp1
  have hroom:=hi.room
  rw[<- (hi.sv s hs).2] at hroom
  have hb:=(h.wb.st k hk).k
  have hc0:=hb.cob0
  have hc7:=hb.cob7
  have toNet:∀ x∈(s.hear p.2 w.clock).2,x.c=(w.seat k).k.id->((k:Int),x)∈w'.net:=fun x hx hxc=>by
   rw[e1]
   refine List.mem_append_right _ (List.mem_map.2 ⟨x,hx,?_⟩)
   rw[hxc,hid.2.2]
  rcases hr ho hk2 with ⟨x,hx,x1,x2,x3,x4⟩|⟨x,hx,x1,x2,x3⟩|⟨s0,hs0,x,hx,x1,x2⟩
  ·rw[hn] at hx
   rcases List.mem_cons.1 hx with q|q
   ·have e:p.2=x:=by rw[<- q]
    have hwt:wt p.2<=wnet w.net:=zyy (by rw[hn];exact List.mem_cons_self ..)
    have hw12:wt p.2=12:=by rw[e];unfold wt;rw[if_neg (by omega),if_pos x1]
    have hm:w.mu=wnet w.net+2*total s.zzf:=by unfold Wd.mu;rw[hs]
    have hone:=zt4 s.zzf (o:=x.o.toNat) (by omega)
    have hl:=hi.notLate hk ho hs
    have hsx:zy8 x.c=k:=by rw[x2];exact hid.2.2
    rcases zoa (T:=w.clock) hpw x1 (by omega) (by omega) (by omega) (by omega) (by omega) (by rw[hsx,x2,x3];exact hl) with ⟨y,hy,y1,y2,y3⟩|⟨y,hy,y2,y3⟩
    ·rw[<- e] at hy
     exact .inr (.inl ⟨y,toNet y hy (y2.trans x2),y1,y2.trans x2,y3.trans x3⟩)
    ·rw[<- e] at hy
     refine .inr (.inr ⟨_,e2,y,?_,y2.trans x2,y3.trans x3⟩)
     rw[<- x4,<- e];exact hy
   ·exact .inl ⟨x,by rw[e1];exact List.mem_append_left _ q,x1,x2,x3,x4⟩
  ·rw[hn] at hx
   rcases List.mem_cons.1 hx with q|q
   ·have:(k:Int)=p.1:=by rw[<- q]
    omega
   ·exact .inr (.inl ⟨x,by rw[e1];exact List.mem_append_left _ q,x1,x2,x3⟩)
  ·obtain rfl:s0=s:=Option.some.inj (hs0.symm.trans hs)
   rcases zq9 (T:=w.clock) hpw (h.wb.sv s0 hs).1.wlen (by omega) p.2 (o:=(w.seat k).k.cob.toNat) (by omega) hx with q|⟨y,hy,y1,y2,y3⟩
   ·exact .inr (.inr ⟨_,e2,x,q,x1,x2⟩)
   ·exact .inr (.inl ⟨y,toNet y hy (y2.trans x1),y1,y2.trans x1,y3.trans x2⟩)
 ·intro ho hk2
  have hmem:∀ {t:Int} {x:M},(t,x)∈rest->(t,x)∈w'.net:=fun q=>by rw[e1];exact List.mem_append_left _ q
  rw[e3] at ho hk2 ⊢
  rw[e2]
  by_cases e:k=j
  ·subst e
   rw[if_pos rfl] at ho hk2 ⊢
   obtain⟨o1,o2,o3,o4,o5,o6,_⟩:=zg9 ho
   rw[o4] at hk2
   rw[o2,o3,o5]
   rcases hr o1 hk2 with ⟨x,hx,x1⟩|⟨x,hx,x1,x2,x3⟩|q
   ·rw[hn] at hx
    rcases List.mem_cons.1 hx with q|q
    ·have:(-1:Int)=p.1:=by rw[<- q]
     omega
    ·exact .inl ⟨x,hmem q,x1⟩
   ·rw[hn] at hx
    rcases List.mem_cons.1 hx with q|q
    ·exfalso
     have e:p.2=x:=by rw[<- q]
     rw[e] at ho
     unfold K.hear at ho
     rw[if_neg (by omega),if_neg (by omega),if_neg (by omega),if_neg (by omega),if_neg (fun q=>by omega),if_pos ⟨x1,by unfold K.zzf;rw[o1];simp[hk2,x3]⟩] at ho
     simp[K.zy2,K.overWith] at ho
    ·exact .inr (.inl ⟨x,hmem q,x1,x2,x3⟩)
   ·exact .inr (.inr q)
  ·rw[if_neg e] at ho hk2 ⊢
   rcases hr ho hk2 with ⟨x,hx,x1⟩|⟨x,hx,x1⟩|q
   ·rw[hn] at hx
    rcases List.mem_cons.1 hx with q|q
    ·have:(-1:Int)=p.1:=by rw[<- q]
     omega
    ·exact .inl ⟨x,hmem q,x1⟩
   ·rw[hn] at hx
    rcases List.mem_cons.1 hx with q|q
    ·have:(k:Int)=p.1:=by rw[<- q]
     omega
    ·exact .inr (.inl ⟨x,hmem q,x1⟩)
   ·exact .inr (.inr q)
 ·intro ho hk2
  rw[e3] at ho hk2 ⊢
  rw[e1,e2]
  rcases hr ho hk2 with ⟨x,hx,x1⟩|⟨x,hx,x1⟩|q
  ·rw[hn] at hx
   rcases List.mem_cons.1 hx with q|q
   ·exact absurd (by rw[<- q]) hp
   ·exact .inl ⟨x,q,x1⟩
  ·rw[hn] at hx
   rcases List.mem_cons.1 hx with q|q
   ·exfalso
    have e:p.1=(k:Int):=by rw[<- q]
    rw[e] at hq
    have:w.has (k:Int)=true:=decide_eq_true ⟨by omega,by omega⟩
    rw[this] at hq
    cases hq
   ·exact .inr (.inl ⟨x,q,x1⟩)
  ·exact .inr (.inr q)
def Dn(n:Nat)(s:Sv):Prop:=∀ c o:Nat,n<=c->c<4->o<8->has s.D (kk c o)=false
theorem zne{D:Lease.Dat}{x:Int}{k:Lit}(h:has D k=false):∀ n:Nat,has (dels D x n) k=false
 | 0=>h
 | n+1=>by
  cases q:has (dels D x (n+1)) k with
  | false=>rfl
  | true=>
   have:=(zfw (D:=dels D x n) (k:=kk x n) (j:=k) q).1
   rw[zne h n] at this
   cases this
theorem Dn.s1{w:Wd}{H:List Hc}{L:List M}{B:Nat}(h:Inv w H L B){s s':Sv}{L':List M}(d:Dn w.n s)(k:S1 w.clock s L s' L'):Dn w.n s':=by
 cases k with
 | flush c hc hv=>exact fun c' o h1 h2 h3=>zne (d c' o h1 h2 h3) 8
 | commit o m rest=>intro c' o' h1 h2 h3;show has (s.commit m o).1.D _=false;rw[(zar s m o).2.2.2.2.2.1];exact d c' o' h1 h2 h3
 | fall o m rest=>intro c' o' h1 h2 h3;rw[(zar s m o).2.2.2.2.2.1];exact d c' o' h1 h2 h3
 | value o m ho hd hm hk h0 hc=>
  obtain⟨g,hg,g1,g2,g3,g4⟩:=(h.msg m hm).rd hk
  obtain⟨i,hi⟩:=List.getElem?_of_mem hg
  have hl:i<w.events.length:=by rw[<- h.len];exact(List.getElem?_eq_some_iff.1 hi).1
  have hE:=h.eh i _ g (List.getElem?_eq_getElem hl) hi
  have hs:zy8 m.c<w.n:=by
   have:=hE.c
   have:=hE.c0
   have:=hE.c4
   have:=hE.l0
   have:=h.n4
   rw[<- g1]
   unfold zy8
   omega
  intro c' o' h1 h2 h3
  unfold Sv.lent
  split
  ·show has (s.D.put _ _) _=false
   rw[has_put_other (fun q=>by have:=(zd3 h2 (seat4 m.c) h3 ho q).1;omega)]
   exact d c' o' h1 h2 h3
  ·exact d c' o' h1 h2 h3
 | drop o m ho hd hm hk h0 hc he hv=>
  intro c' o' h1 h2 h3
  cases q:has (s.dropped (zy8 m.c) o).D (kk c' o') with
  | false=>rfl
  | true=>
   have:=(zfw (D:=s.D) (j:=kk c' o') q).1
   rw[d c' o' h1 h2 h3] at this
   cases this
 | _=>exact d
theorem Dn.ss{H:List Hc}{B:Nat}(hB:H.length+B<200){T:Int}{s s':Sv}{L L':List M}(k:Ss T s L s' L'):∀ {w:Wd},w.clock=T->Inv w H L B->w.sv=some s->Dn w.n s->Dn w.n s':=by
 induction k with
 | refl s L=>exact fun _ _ _ h=>h
 | head k1 _ ih=>
  intro w hT h hs hd
  subst hT
  exact ih (w:=w.served _) rfl (h.s1 hB hs k1) rfl (Dn.s1 h hd k1)
theorem Dn.aw{n:Nat}{s:Sv}(d:Dn n s){T:Int}{o c:Nat}(ho:o<8)(hc:c<4)(h:aw s T o c):c<n:=by
 rcases Nat.lt_or_ge c n with q|q
 ·exact q
 ·have:=zj0 h.1
  rw[d c o q hc ho] at this
  cases this
def Lb(w:Wd):Prop:=∀ k,k<w.n->(0<=(w.seat k).k.ep/\(w.seat k).k.ep<=1099511627776)/\0<=(w.seat k).k.ses/\(w.seat k).k.ses<=1099511627776
theorem zwy{m:M}(h:okB m=true):0<=m.s/\m.s<=1099511627776:=by
 simp only[okB,Num.M.nums,Num.numB,Num.inB,List.all_cons,List.all_nil,Bool.and_eq_true,decide_eq_true_eq,and_true] at h
 exact h.2.2.2.2.2.1
theorem zld(k:K)(m:M):((k.hear m).1.ep=k.ep/\(k.hear m).1.ses=k.ses)\/((k.hear m).1.ep=m.e/\(k.hear m).1.ses=m.s):=by
 have ov:∀ (c:K) (d:ByteArray) (v:Int),(c.overWith d v).ep=c.ep/\(c.overWith d v).ses=c.ses:=fun _ _ _=>⟨rfl,rfl⟩
 unfold K.hear
 split
 ·left;unfold K.forget;split<;>exact⟨rfl,rfl⟩
 ·split
  ·exact .inl ⟨rfl,rfl⟩
  ·split
   ·left;unfold K.granted;split<;>exact⟨rfl,rfl⟩
   ·split
    ·unfold K.flush;split
     ·exact .inl ⟨rfl,rfl⟩
     ·exact .inr ⟨rfl,rfl⟩
    ·split
     ·left;unfold K.read;split
      ·exact⟨rfl,rfl⟩
      ·split<;>exact⟨rfl,rfl⟩
     ·split
      ·exact .inl (ov _ _ _)
      ·exact .inl ⟨rfl,rfl⟩
theorem Lb.same{w w':Wd}(h:Lb w)(hn:w'.n=w.n)(hk:∀ k,(w'.seat k).k.ep=(w.seat k).k.ep/\(w'.seat k).k.ses=(w.seat k).k.ses):Lb w':=fun k hk'=>by
 rw[(hk k).1,(hk k).2];exact h k (by omega)
theorem Lb.deliver{w:Wd}{H:List Hc}{L:List M}{b C:Nat}{cb:Int}(h:Cm w H L b C cb)(hl:Lb w){p:Int×M}{rest:List (Int×M)}(hn:w.net=p :: rest):Lb (w.deliver 0):=by
 have hok:okB p.2=true:=h.wb.net p (by rw[hn];exact List.mem_cons_self ..)
 refine h.cases hn (P:=Lb) (fun s hs hp w' e1 e2 e3 e4 e5=>hl.same e5 fun k=>by rw[e3];exact⟨rfl,rfl⟩) (fun j hj hp w' e1 e2 e3 e4 e5=>?_) (fun hp hq w' e1 e2 e3 e4 e5=>hl.same e5 fun k=>by rw[e3];exact⟨rfl,rfl⟩)
 intro k hk
 rw[e3]
 split
 ·rcases zld (w.seat j).k p.2 with q|q
  ·rw[q.1,q.2];exact hl j hj
  ·rw[q.1,q.2];exact⟨(zd6 hok).1,zwy hok⟩
 ·exact hl k (by omega)
theorem zra{k:K}{C:Nat}(h:KB k C)(hC:C<=100000000)(hid:0<=k.id/\k.id<=1099511627776):okB k.request=true:=by
 have h1:=h.num0
 have h2:=h.num
 have h3:=h.cob0
 have h4:=h.cob7
 unfold K.request
 split
 ·exact zdh (by omega) hid ⟨h1,by omega⟩ (by omega) (by omega) ⟨h3,by omega⟩ (by omega) h.dd
 ·exact zdh (by omega) hid ⟨h1,by omega⟩ (by omega) (by omega) ⟨h3,by omega⟩ (by omega) none20
theorem zt5{k:K}{C:Nat}(h:KB k C)(hC:C<=100000000)(hid:0<=k.id/\k.id<=1099511627776)(hl:(0<=k.ep/\k.ep<=1099511627776)/\0<=k.ses/\k.ses<=1099511627776):okB k.renewM=true:=by
 have h1:=h.ren0
 have h2:=h.ren
 exact zdh (by omega) hid ⟨by omega,by omega⟩ hl.1 hl.2 (by omega) (by omega) none20
theorem zle{k:K}{C:Nat}(h:KB k C)(hC:C<=100000000)(hid:0<=k.id/\k.id<=1099511627776)(hl:(0<=k.ep/\k.ep<=1099511627776)/\0<=k.ses/\k.ses<=1099511627776)(now:Int):AllOk (k.againL now):=by
 unfold K.againL
 refine AllOk.app ?_ ?_
 ·split
  ·exact AllOk.one (zt5 h hC hid hl)
  ·exact AllOk.nil
 ·split
  ·exact AllOk.one (zra h hC hid)
  ·exact AllOk.nil
theorem zf6{w:Wd}{H:List Hc}{L:List M}{b C:Nat}{cb:Int}(h:Cm w H L b C cb)(hl:Lb w){k:Nat}(hk:k<w.n)(hn:w.net = []) :
  (w.again k).net=((w.seat k).k.againL (w.seat k).clock).map (fun x=>((-1:Int),x))/\(w.again k).sv=w.sv/\(w.again k).clock=w.clock/\(w.again k).n=w.n/\∀ i,(w.again k).seat i=if i=k then { w.seat k with k:=(w.seat k).k.again (w.seat k).clock } else w.seat i:=by
 have hall:=zle (h.wb.st k hk).k h.cC ⟨(h.id hk).1,(h.id hk).2.1⟩ (hl k hk) (w.seat k).clock
 have hlen:((w.seat k).k.againL (w.seat k).clock).length<=2:=by
  unfold K.againL
  rw[List.length_append]
  split<;>split<;>simp
 have e:w.again k = { (({ w with step:=w.step+1 }:Wd).setK k ((w.seat k).k.again (w.seat k).clock)) with net:=[]++((w.seat k).k.againL (w.seat k).clock).map fun x=>((-1:Int),x) }:=by
  show ((({ w with step:=w.step+1 }:Wd).setK k ((w.seat k).k.again (w.seat k).clock)).send (-1) ((w.seat k).k.againL (w.seat k).clock))=_
  have hn':(({ w with step:=w.step+1 }:Wd).setK k ((w.seat k).k.again (w.seat k).clock)).net = []:=hn
  rw[zem (-1) _ hall (by rw[hn'];simp;omega),hn']
 rw[e]
 exact⟨rfl,rfl,rfl,rfl,fun i=>rfl⟩
end Wld
end
end Go.Proofs.YtbebfliimjjohabGreatDoor
