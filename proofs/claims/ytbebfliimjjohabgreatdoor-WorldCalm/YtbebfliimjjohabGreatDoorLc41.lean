/- Parts of the proof. -/
import Derived.Test.YtbebfliimjjohabGreatDoorLc40
set_option maxRecDepth 100000
set_option maxHeartbeats 8000000
namespace Go.Proofs.YtbebfliimjjohabGreatDoor
section
namespace Wld
open Go.RowKit Go.Maps
open Lease (upd zae zad hol dels mx kk isH)
open Cache (E era putL)
open Wal (R mayB timeB)
open Num (M okB)
theorem zq3(w:Wd)(k:Nat)(c:K):((w.setK k c).note k).td=w.td/\((w.setK k c).note k).tv=w.tv/\((w.setK k c).note k).to=w.to/\((w.setK k c).note k).clock=w.clock/\((w.setK k c).note k).n=w.n/\((w.setK k c).note k).rs=w.rs/\((w.setK k c).note k).sv=w.sv/\(∀ j,j≠k->((w.setK k c).note k).seat j=w.seat j)/\(((w.setK k c).note k).seat k).k=c/\(((w.setK k c).note k).seat k).clock=(w.seat k).clock:=by
 by_cases h:(w.seat k).call<0
 ·rw[zg3 w k c h]
  exact⟨rfl,rfl,rfl,rfl,rfl,rfl,rfl,fun j hj=>by rw[setK_seat,if_neg hj],by rw[setK_seat,if_pos rfl],by rw[setK_seat,if_pos rfl]⟩
 ·rw[zej w k c h]
  exact⟨rfl,rfl,rfl,rfl,rfl,rfl,rfl,fun j hj=>zag _ _ hj,by show (zy9 w.seat k _ k).k=c;rw[zaa],by show (zy9 w.seat k _ k).clock=_;rw[zaa]⟩
theorem zwi{w:Wd}{H:List Hc}{L:List M}{B:Nat}(f:Fr w H L)(h:Inv w H L B){k:Nat}(hk:k<w.n){c:K}(hlo:(w.seat k).k.zy2=true->c.over=true->c.kind=1->∀ g∈H,g.c=(w.seat k).k.id->g.n=(w.seat k).k.num->g.lo<=c.ver) :
  ∀ (i:Nat) e g,((w.setK k c).note k).events[i]?=some e->H[i]?=some g->e.kind=1->e.ended≠0->g.lo<=e.ver:=by
 intro i e g he hg h1 h2
 by_cases hc:(w.seat k).call<0
 ·rw[zg3 w k c hc] at he
  exact f.fr i e g he hg h1 h2
 ·rw[zej w k c hc] at he
  have he':(w.events.modify (w.seat k).call.toNat fun e=>e.noted c w.step)[i]?=some e:=he
  rw[zb1] at he'
  have hs:=h.st k hk
  obtain⟨e0,g0,a1,a2,a3,a4,_,_,_,a8⟩:=hs.opn (by omega)
  by_cases hi:(w.seat k).call.toNat=i
  ·rw[if_pos hi,<- hi,a1] at he'
   rw[<- hi,a2] at hg
   have eg:g0=g:=Option.some.inj hg
   have ee:e0.noted c w.step=e:=Option.some.inj he'
   rw[<- ee] at h1 h2 ⊢
   rw[<- eg]
   have hov:c.over=true:=by
    cases q:c.over
    ·exfalso;apply h2;unfold Ev.noted;dsimp only;rw[q,a8];rfl
    ·rfl
   exact hlo (by rw[hs.isO];exact decide_eq_true (by omega)) hov h1 g0 (List.mem_of_getElem? a2) a3 a4
  ·rw[if_neg hi] at he'
   exact f.fr i e g he' hg h1 h2
theorem Fr.noted{w:Wd}{H:List Hc}{L L':List M}{B:Nat}(f:Fr w H L)(h:Inv w H L B){k:Nat}(hk:k<w.n){c:K}(t:KTurn w L L' k c)(hlo:(w.seat k).k.zy2=true->c.over=true->c.kind=1->∀ g∈H,g.c=(w.seat k).k.id->g.n=(w.seat k).k.num->g.lo<=c.ver):Fr ((w.setK k c).note k) H L':=by
 obtain⟨n1,n2,n3,n4,n5,n6,n7,n8,n9,n10⟩:=zq3 w k c
 exact f.turned t n1 n2 n3 n4 n5 n6 n7 n8 n9 n10 (zwi f h hk hlo)
theorem zx5{w:Wd}{H:List Hc}{L:List M}{B:Nat}(h:Inv w H L B){k:Nat}{m:M}(hm:m∈L):(w.seat k).k.zy2=true->((w.seat k).k.hear m).1.over=true->((w.seat k).k.hear m).1.kind=1->∀ g∈H,g.c=(w.seat k).k.id->g.n=(w.seat k).k.num->g.lo<=((w.seat k).k.hear m).1.ver:=by
 intro ho
 have hov:(w.seat k).k.over=false:=((K.isOpen_iff _).1 ho).2
 have no:∀ {P:Prop},(w.seat k).k.over=true->P:=fun q=>by rw[hov] at q;cases q
 unfold K.hear
 split
 ·unfold K.forget
  split<;>exact fun q=>no q
 ·split
  ·exact fun q=>no q
  ·rename_i hid
   split
   ·unfold K.granted
    split<;>exact fun q=>no q
   ·split
    ·unfold K.flush
     split<;>exact fun q=>no q
    ·split
     ·rename_i hw
      obtain⟨hk5,hw⟩:=hw
      unfold K.zzf at hw
      simp only[Bool.and_eq_true,decide_eq_true_eq] at hw
      obtain⟨⟨y,hy,y1,y2,_,_,y5⟩,_⟩:=(h.msg m hm).va hk5
      have key:∀ g∈H,g.c=(w.seat k).k.id->g.n=(w.seat k).k.num->g.lo<=m.v:=fun g hg g1 g2=>by
       have:y=g:=zcg h.hu hy hg ⟨by omega,by omega⟩
       rw[<- this];exact y5
      unfold K.read
      split
      ·exact fun q=>no q
      ·split<;>exact fun _ _=>key
     ·split
      ·rename_i hw
       obtain⟨_,hw⟩:=hw
       unfold K.zzf at hw
       simp only[Bool.and_eq_true,decide_eq_true_eq] at hw
       intro _ q
       have q':(w.seat k).k.kind=1:=q
       omega
      ·exact fun q=>no q
theorem Fr.zy7{w:Wd}{H:List Hc}{L:List M}{B:Nat}(f:Fr w H L)(h:Inv w H L B){k:Nat}(hk:k<w.n){m:M}(hm:m∈L):Fr (w.zy7 k m) H (L++((w.seat k).k.hear m).2):=by
 unfold Wd.zy7
 rw[zk2]
 exact Fr.send (-1) _ (f.noted h hk (.hear f h hk hm) (zx5 h hm))
theorem KTurn.again{w:Wd}{H:List Hc}{L:List M}{B:Nat}(f:Fr w H L)(h:Inv w H L B){k:Nat}(hk:k<w.n):KTurn w L (L++(w.seat k).k.againL (w.seat k).clock) k ((w.seat k).k.again (w.seat k).clock):=by
 have g:=f.st k hk
 have hs:=h.st k hk
 have hseat:=zbi hs (by have:=h.n4;omega)
 have hreq:(w.seat k).k.request.k=1\/(w.seat k).k.request.k=2:=by unfold K.request;split<;>simp
 unfold K.again K.againL
 split
 ·have hnew:∀ x∈L++([(w.seat k).k.renewM]++(if (w.seat k).k.zy2=true then [(w.seat k).k.request] else [])),x∈L\/x.k=1\/x.k=2\/x=(w.seat k).k.renewM:=fun x hx=>by
   rcases List.mem_append.1 hx with q|q
   ·exact .inl q
   ·rcases List.mem_append.1 q with p|p
    ·exact .inr (.inr (.inr (List.mem_singleton.1 p)))
    ·split at p
     ·rw[List.mem_singleton.1 p];omega
     ·cases p
  have nog:∀ y∈L,y.k=7->y.c=(w.seat k).k.id->y.n≠(w.seat k).k.renewal+1:=fun y hy y7 y1 y2=>by
   have:=(f.rb y hy (.inr (.inl y7)) k hk (by rw[y1];exact hseat)).2 y1
   omega
  refine⟨fun x hx=>?_,hseat,fun x hx h1 h2=>⟨(f.rb x hx h1 k hk h2).1,fun q=>?_⟩,g.vol,g.obj,Int.le_refl _,g.til,g.snt,g.lb,fun e ss q=>⟨q.1,fun y hy y7 y1 y2=>absurd y2 (nog y hy y7 y1)⟩,g.vk,fun s hsv y hy y7 y1 y2=>absurd y2 (nog y hy y7 y1),g.ck,fun x hx=>g.cp x ⟨hx.mem,hx.k5,hx.l,hx.c,hx.n,hx.o,hx.cm⟩,fun s hsv x hx h1 h2 h3 h4=>?_⟩
  ·rcases hnew x hx with q|q|q|q
   ·exact .inl q
   ·exact .inr (.inl q)
   ·exact .inr (.inr (.inl q))
   ·rw[q];exact .inr (.inr (.inr (.inl ⟨rfl,rfl,Int.le_refl _⟩)))
  ·have:=(f.rb x hx h1 k hk h2).2 q
   show x.n<=(w.seat k).k.renewal+1
   omega
  ·have hxL:x∈L:=by
    rcases hnew x hx with q|q|q|q
    ·exact q
    ·omega
    ·omega
    ·rw[q] at h1;exact absurd ((rfl:(3:Int)=_).trans h1) (by decide)
   have:=(f.ac s hsv x hxL h1 h3 h4).2 (by omega)
   rw[h2] at this
   exact⟨this.1,fun ec y hy=>this.2 ec y ⟨hy.mem,hy.k5,hy.l,hy.c,hy.n,hy.o,hy.cm⟩⟩
 ·have hnew:∀ x∈L++([]++(if (w.seat k).k.zy2=true then [(w.seat k).k.request] else [])),x∈L\/x.k=1\/x.k=2:=fun x hx=>by
   rcases List.mem_append.1 hx with q|q
   ·exact .inl q
   ·rw[List.nil_append] at q
    split at q
    ·rw[List.mem_singleton.1 q];omega
    ·cases q
  refine .base f h hk rfl rfl rfl rfl rfl rfl rfl rfl rfl rfl rfl (Int.le_refl _) (fun q=>q) (fun x hx=>?_) (fun x hx=>.inl hx) (fun s _ x hx hn h1=>?_)
  ·rcases hnew x hx with q|q|q
   ·exact .inl q
   ·exact .inr (.inl q)
   ·exact .inr (.inr (.inl q))
  ·rcases hnew x hx with q|q|q
   ·exact absurd q hn
   ·omega
   ·omega
theorem Fr.ask{w:Wd}{H:List Hc}{L:List M}{B:Nat}(f:Fr w H L)(h:Inv w H L B){k:Nat}(hk:k<w.n):Fr (w.ask k) H (L++(w.seat k).k.againL (w.seat k).clock):=
 Fr.send (-1) _ (f.turned (KTurn.again f h hk) rfl rfl rfl rfl rfl rfl rfl (fun j hj=>by rw[setK_seat,if_neg hj]) (by rw[setK_seat,if_pos rfl]) (by rw[setK_seat,if_pos rfl]) f.fr)
theorem KTurn.begin{w:Wd}{H:List Hc}{L:List M}{B:Nat}(f:Fr w H L)(h:Inv w H L B){k:Nat}(hk:k<w.n){c:K}(q1:c.id=(w.seat k).k.id)(q2:c.renewal=(w.seat k).k.renewal)(q3:c.asked=(w.seat k).k.asked)(q4:c.vol=(w.seat k).k.vol)(q5:c.obj=(w.seat k).k.obj)(q6:c.ep=(w.seat k).k.ep)(q7:c.ses=(w.seat k).k.ses)(q8:c.til=(w.seat k).k.til)(q9:c.sent=(w.seat k).clock)
  (q10:c.num=(w.seat k).k.num+1) (ck:∀ x∈c.kept,x∈(w.seat k).k.kept):KTurn w L L k c:=by
 have g:=f.st k hk
 have hs:=h.st k hk
 have no:∀ m,¬ PendK c L m:=fun m hm=>by
  obtain⟨⟨y,hy,y1,y2,_⟩,_⟩:=(h.msg m hm.mem).va hm.k5
  have:=hs.num y hy (by rw[y1,hm.c,q1])
  have:=hm.n
  omega
 refine⟨fun m hm=>.inl hm,by rw[q1];exact zbi hs (by have:=h.n4;omega),fun m hm h1 h2=>by rw[q1,q2];exact f.rb m hm h1 k hk h2,by rw[q4];exact g.vol,by rw[q5];exact g.obj,by rw[q3];exact g.ask,by rw[q8];exact g.til,by rw[q9];exact Int.le_refl _,by rw[q6,q7];exact g.lb,fun e ss q=>?_,fun s hs=>by rw[q6,q7,q8];exact g.vk s hs,fun s hs y hy y7 y1 y2=>by rw[q3,q4];exact g.vg s hs y hy y7 (y1.trans q1) (y2.trans q2),fun x hx=>by rw[q6,q7];exact g.ck x (ck x hx),fun m hm=>absurd hm (no m),fun s hsv m hm h1 h2 h3 h4=>⟨fun x hx=>?_,fun _ x hx=>no x hx⟩⟩
 ·unfold DeadK
  rw[q1,q2,q3,q4,q6,q7,q8]
  exact q
 ·have:=(f.ac s hsv m hm h1 h3 h4).2 (by omega)
  rw[h2] at this
  exact this.1 x (ck x hx)
theorem zh7(w:Wd)(k:Nat)(c:K)(ho:c.over=false):(w.began k c).td=w.td/\(w.began k c).tv=w.tv/\(w.began k c).to=w.to/\(w.began k c).clock=w.clock/\(w.began k c).n=w.n/\(w.began k c).rs=w.rs/\(w.began k c).sv=w.sv/\(∀ j,j≠k->(w.began k c).seat j=w.seat j)/\(w.began k c).seat k=⟨c,(w.seat k).clock,(w.seat k).life,w.events.length⟩:=by
 rw[zca w k c ho]
 exact⟨rfl,rfl,rfl,rfl,rfl,rfl,rfl,fun j hj=>zag _ _ hj,zaa _ _ _⟩
theorem Fr.began{w:Wd}{H:List Hc}{L:List M}{B:Nat}(f:Fr w H L)(h:Inv w H L B){k:Nat}{c:K}(t:KTurn w L L k c)(ho:c.over=false):Fr (w.began k c) (H++[w.hc k c]) L:=by
 obtain⟨n1,n2,n3,n4,n5,n6,n7,n8,n9⟩:=zh7 w k c ho
 refine f.turned t n1 n2 n3 n4 n5 n6 n7 n8 (by rw[n9]) (by rw[n9]) fun i e g he hg h1 h2=>?_
 rw[zca w k c ho] at he
 rcases zc2 he with ⟨p1,p2⟩|⟨p1,p2⟩
 ·rcases zc2 hg with ⟨r1,r2⟩|⟨r1,r2⟩
  ·exact f.fr i e g p2 r2 h1 h2
  ·have:=h.len;omega
 ·rw[p2] at h2;exact absurd rfl h2
theorem Fr.readBegan{w:Wd}{H:List Hc}{L:List M}{B:Nat}(f:Fr w H L)(h:Inv w H L B){k:Nat}(hk:k<w.n)(hst:0<=w.step){o:Int}(ho:0<=o)(ho8:o<8)(hf:(w.seat k).k.zy2=false):Fr (w.began k ((w.seat k).k.reads o (w.seat k).clock)) (H++[w.hc k ((w.seat k).k.readB o (w.seat k).clock)]) L:=by
 have hs:=h.st k hk
 obtain⟨r1,r2,r3,r4,r5,r6,r7,r8,r9,r10,r11,r12,r13,r14,r15,r16⟩:=zio (w.seat k).k o (w.seat k).clock
 have hb:KBegin w k ((w.seat k).k.readB o (w.seat k).clock):=⟨r1,r2,.inl r3,by rw[r4];exact ho,by rw[r4];exact ho8,fun x hx=>hs.kept x (r16 x hx),r5,r6⟩
 have h1:=h.began hk hst hb hf fun q=>by rw[r3] at q;exact absurd q (by decide)
 have f1:=f.began h (KTurn.begin f h hk r1 r14 r13 r12 r11 r7 r8 r9 r10 r2 r16) r6
 obtain⟨n1,n2,n3,n4,n5,n6,n7,n8,n9⟩:=zh7 w k ((w.seat k).k.readB o (w.seat k).clock) r6
 unfold K.reads
 split
 ·exact f1
 ·rename_i x hx
  obtain⟨x1,x2,x3,x4,x5⟩:=zmy hx
  rw[zji w k ((w.seat k).k.readB o (w.seat k).clock) _ r6]
  have hkn:k<(w.began k ((w.seat k).k.readB o (w.seat k).clock)).n:=by rw[n5];exact hk
  refine f1.noted (L':=L) h1 hkn (.base f1 h1 hkn (by rw[n9];rfl) (by rw[n9];rfl) (by rw[n9];rfl) (by rw[n9];rfl) (by rw[n9];rfl) (by rw[n9];rfl) (by rw[n9];rfl) (by rw[n9];rfl) (by rw[n9];rfl) (by rw[n9];rfl) (by rw[n9];rfl) (by rw[n9];exact Int.le_refl _) (fun q=>?_) (fun y hy=>.inl hy) (fun y hy=>.inl (by rw[n9];exact hy)) (fun s _ y hy hn=>absurd hy hn)) ?_
  ·rw[K.isOpen_iff] at q;exact absurd q.2 (by show ¬ true=false;decide)
  ·intro _ _ _ g hg g1 g2
   rw[n9] at g1 g2
   have eg:g=w.hc k ((w.seat k).k.readB o (w.seat k).clock):=zcg h1.hu hg (by simp) ⟨g1.trans r1,g2.trans r2⟩
   rw[eg]
   show (logL w.rs).vv ((w.seat k).k.readB o (w.seat k).clock).cob.toNat<=x.v
   rw[r4]
   have hcl:=(f.st k hk).ck x x1
   rw[x2] at hcl
   rcases hcl.2.2 with q|⟨q,_⟩|⟨q,_⟩
   ·omega
   ·have:=q.1 rfl rfl
    have x4':(w.seat k).clock<(w.seat k).k.til:=x4
    omega
   ·omega
theorem Fr.writeBegan{w:Wd}{H:List Hc}{L:List M}{B:Nat}(f:Fr w H L)(h:Inv w H L B){k:Nat}(hk:k<w.n){o:Int}{d:ByteArray}:Fr (w.began k ((w.seat k).k.begin 2 o d 0 false false (w.seat k).clock)) (H++[w.hc k ((w.seat k).k.begin 2 o d 0 false false (w.seat k).clock)]) L:=
 f.began h (KTurn.begin f h hk rfl rfl rfl rfl rfl rfl rfl rfl rfl rfl fun _ q=>q) rfl
theorem Fr.enter{w:Wd}{H:List Hc}{L:List M}{B:Nat}(f:Fr w H L)(h:Inv w H L B){k:Nat}(hk:k<w.n):Fr (w.enter k ((w.seat k).life+1)) H L:=by
 have g:=f.st k hk
 have hs:=h.st k hk
 have hid:=hs.id
 have hl0:=hs.l0
 have hn4:=h.n4
 obtain⟨c,hc⟩:∃ c,c=K.new (((w.seat k).life+1)*4+k) (short w.td w.to) (short w.td w.tv):=⟨_,rfl⟩
 have q:c.id=((w.seat k).life+1)*4+k/\c.renewal=0/\c.asked=0/\c.vol=short w.td w.tv/\c.obj=short w.td w.to/\c.ep=0/\c.ses=0/\c.til=0/\c.sent=0/\c.kept = []/\c.zy2=false:=by rw[hc];exact⟨rfl,rfl,rfl,rfl,rfl,rfl,rfl,rfl,rfl,rfl,rfl⟩
 obtain⟨q1,q2,q3,q4,q5,q6,q7,q8,q9,q10,q11⟩:=q
 have hseat:zy8 c.id=k:=by rw[q1];unfold zy8;omega
 have hno:∀ m∈L,m.k=3\/m.k=7\/m.k=8->m.c≠c.id:=fun m hm h1 e=>by
  have:=(f.rb m hm h1 k hk (by rw[e];exact hseat)).1
  omega
 have no:∀ m,¬ PendK c L m:=fun m hm=>by have:=hm.o;rw[q11] at this;cases this
 have t:KTurn w L L k c:=by
  refine⟨fun m hm=>.inl hm,hseat,fun m hm h1 h2=>⟨?_,fun e=>absurd e (hno m hm h1)⟩,q4,q5,by rw[q3];exact g.t0,?_,by rw[q9];exact g.t0,⟨by rw[q6];exact h.log.ep0,fun s hsv e=>?_⟩,fun e ss q=>⟨fun _ _=>by rw[q8];exact g.t0,fun y hy y7 y1=>absurd y1 (hno y hy (.inr (.inl y7)))⟩,fun s _=>.inl (by rw[q8];exact g.t0),fun s _ y hy y7 y1=>absurd y1 (hno y hy (.inr (.inl y7))),fun x hx=>?_,fun m hm=>absurd hm (no m),fun s hsv m hm h1 h2 h3 h4=>⟨fun x hx=>?_,fun _ x hx=>no x hx⟩⟩
  ·have:=(f.rb m hm h1 k hk h2).1
   omega
  ·rw[q8]
   have:=zd4 f.d0 f.d1 f.v0
   have:=g.t0
   omega
  ·exfalso
   rw[q6] at e
   obtain⟨hi,hrs⟩:=h.sv s hsv
   have e1:s.epoch=(logL w.rs).ep:=by rw[<- hrs];exact congrArg L4.ep hi.l4
   have:=f.ep
   omega
  ·rw[q10] at hx;cases hx
  ·rw[q10] at hx;cases hx
 exact f.turned t rfl rfl rfl rfl rfl rfl rfl (fun j hj=>zag _ _ hj) (by rw[hc];show (zy9 w.seat k _ k).k=_;rw[zaa]) (by show (zy9 w.seat k _ k).clock=_;rw[zaa]) f.fr
theorem Fr.first{to' tv td:Int}(hd0:0<=td)(hd1:td<1000)(hv:0<=tv)(n:Nat):Fr (Wd.bare to' tv td n).start [] []:=by
 obtain⟨e,he,h1,h2,h3,_,h5,h6,h7,h8,h9,h10,h11,_⟩:=zcr to' tv td 0 [] (by decide)
 obtain⟨s',hs'⟩:∃ s',s'=Sv.new to' tv td [] false 0 0:=⟨_,rfl⟩
 have ew:(Wd.bare to' tv td n).start=(Wd.bare to' tv td n).served s':=by rw[hs'];rfl
 rw[<- hs'] at h1 h2 h3 h5 h6 h7 h8 h9 h10 h11
 rw[ew]
 have hsv:∀ v,((Wd.bare to' tv td n).served s').sv=some v->s'=v:=fun v hv=>Option.some.inj hv
 have eE:(logL s'.rs).ep=1:=by rw[h1,logL_app,<- he];rfl
 have e1:e=1:=by rw[<- he];rfl
 refine⟨hd0,hd1,hv,fun v hv=>by rw[<- hsv v hv];exact⟨h11,h10,by rw[h8];exact DOk.empty⟩,by show 1<=(logL s'.rs).ep;rw[eE];exact Int.le_refl _,by simp,by simp,by simp,by simp,by simp,fun k _=>⟨Int.le_refl 0,rfl,rfl,Int.le_refl 0,?_,Int.le_refl 0,⟨by show (0:Int)<=(logL s'.rs).ep;rw[eE];decide,fun v hv q=>?_⟩,fun v _=>.inl (Int.le_refl 0),by simp,fun x hx=>(by cases hx),fun m hm=>by have:=hm.mem;simp at this⟩,fun i e g he=>by simp[Wd.served,Wd.bare] at he⟩
 ·show (0:Int)<=0+short td tv
  have:=zd4 hd0 hd1 hv
  omega
 ·rw[<- hsv v hv,h5,e1] at q
  exact absurd q (by show ¬ (0:Int)=1;decide)
structure Safe(hon:Prop)(w:Wd)(H:List Hc)(L:List M)(b:Nat)(cb:Int):Prop where
 inv:InvB w H L b
 fr:hon->Fr w H L
 ck:w.clock<=cb/\∀ k,k<w.n->(w.seat k).clock<=cb
structure Clk(w w':Wd):Prop where
 t:w'.clock=w.clock
 n:w'.n=w.n
 k:∀ k,(w'.seat k).clock=(w.seat k).clock
theorem Clk.refl(w:Wd):Clk w w:=⟨rfl,rfl,fun _=>rfl⟩
theorem Clk.trans{a b c:Wd}(h:Clk a b)(k:Clk b c):Clk a c:=⟨k.t.trans h.t,k.n.trans h.n,fun i=>(k.k i).trans (h.k i)⟩
theorem zo5(w:Wd)(t:Int)(m:M):Clk w (w.put t m):=by
 unfold Wd.put
 split<;>exact⟨rfl,rfl,fun _=>rfl⟩
theorem zir(t:Int):∀ (l:List M) (w:Wd),Clk w (w.send t l)
 | [],w=>.refl w
 | m :: l,w=>(zo5 w t m).trans (zir t l _)
theorem zk6:∀ (l:List M) (w:Wd),Clk w (w.tells l)
 | [],w=>.refl w
 | m :: l,w=>(zo5 w _ m).trans (zk6 l _)
theorem zq4(w:Wd):Clk w w.fallen:=by
 unfold Wd.fallen
 split
 ·exact .refl w
 ·split<;>exact⟨rfl,rfl,fun _=>rfl⟩
theorem zq5(w:Wd)(s:Sv):Clk w (w.served s):=⟨rfl,rfl,fun _=>rfl⟩
theorem zfz(w:Wd)(r:Sv×List M):Clk w (w.answer r):=((zq5 w r.1).trans (zk6 r.2 _)).trans (zq4 _)
theorem zff(w:Wd)(m:M):Clk w (w.zy6 m):=by
 unfold Wd.zy6
 split
 ·exact .refl w
 ·exact zfz w _
theorem zd5(w:Wd)(k:Nat)(s:St)(h:s.clock=(w.seat k).clock):∀ j,(zy9 w.seat k s j).clock=(w.seat j).clock:=fun j=>by
 unfold zy9
 split
 ·rename_i e;rw[e];exact h
 ·rfl
theorem zis(w:Wd)(k:Nat):Clk w (w.note k):=by
 unfold Wd.note
 split
 ·exact .refl w
 ·exact⟨rfl,rfl,zd5 w k _ rfl⟩
theorem zm4(w:Wd)(k:Nat)(c:K):Clk w (w.setK k c):=⟨rfl,rfl,zd5 w k _ rfl⟩
theorem zfg(w:Wd)(k:Nat)(m:M):Clk w (w.zy7 k m):=((zm4 w k _).trans (zir _ _ _)).trans (zis _ k)
theorem zj2(w:Wd)(k:Nat):Clk w (w.ask k):=(zm4 w k _).trans (zir _ _ _)
theorem zh8(w:Wd)(k:Nat):Clk w (w.deliver k):=by
 unfold Wd.deliver
 split
 ·exact .refl w
 ·unfold Wd.told
  refine Clk.trans (b:={ w with net:=w.net.eraseIdx k,step:=w.step+1 }) ⟨rfl,rfl,fun _=>rfl⟩ ?_
  split
  ·exact zff _ _
  ·split
   ·exact zfg _ _ _
   ·exact .refl _
theorem zk7(w:Wd)(k:Nat)(c:K):Clk w (w.begin k c):=by
 unfold Wd.begin Wd.asked
 have h:Clk w ((w.opens k c).note k):=Clk.trans (b:=w.opens k c) ⟨rfl,rfl,zd5 w k _ rfl⟩ (zis _ k)
 split
 ·exact h
 ·exact h.trans (zj2 _ k)
theorem zn8(w:Wd):Clk w w.restart:=by
 unfold Wd.restart
 split<;>exact⟨rfl,rfl,fun _=>rfl⟩
theorem Safe.ofClk{hon:Prop}{w w':Wd}{H H':List Hc}{L L':List M}{b b':Nat}{cb:Int}(h:Safe hon w H L b cb)(hc:Clk w w')(hi:InvB w' H' L' b')(hf:hon->Fr w' H' L'):Safe hon w' H' L' b' cb:=
 ⟨hi,hf,by rw[hc.t];exact h.ck.1,fun k hk=>by rw[hc.k];exact h.ck.2 k (by rw[<- hc.n];exact hk)⟩
theorem Safe.mono{hon:Prop}{w:Wd}{H:List Hc}{L:List M}{b b':Nat}{cb cb':Int}(h:Safe hon w H L b cb)(hb:b<=b')(hc:cb<=cb'):Safe hon w H L b' cb':=⟨h.inv.mono hb,h.fr,by have:=h.ck.1;omega,fun k hk=>by have:=h.ck.2 k hk;omega⟩
theorem Safe.zy6{hon:Prop}{w:Wd}{H:List Hc}{L:List M}{b:Nat}{cb:Int}(h:Safe hon w H L b cb)(hb:H.length+b<200){m:M}(hm:m∈L):∃ L',Safe hon (w.zy6 m) H L' b cb:=by
 have hc:=zff w m
 unfold Wd.zy6 at hc ⊢
 split at hc
 ·exact⟨L,h⟩
 ·rename_i s hs
  have hr:=zdt w.clock s L m hm
  exact⟨_,h.ofClk hc (h.inv.answer hb hs hr) fun q=>h.inv.inv.elim fun B k=>(h.fr q).answer k.1 (by omega) hs hr⟩
theorem zgh(w:Wd)(k:Nat)(m:M):(w.zy7 k m).sv=w.sv/\(w.zy7 k m).step=w.step:=by
 unfold Wd.zy7
 rw[(zfd _ k).1,(zfd _ k).2,(zdu _ _ _).1,(zdu _ _ _).2]
 exact⟨rfl,rfl⟩
theorem Safe.zy7{hon:Prop}{w:Wd}{H:List Hc}{L:List M}{b:Nat}{cb:Int}(h:Safe hon w H L b cb){k:Nat}(hk:k<w.n){m:M}(hm:m∈L):∃ L',Safe hon (w.zy7 k m) H L' b cb:=by
 have hacks:∀ x∈((w.seat k).k.hear m).2,x.k=4:=fun x hx=>by
  unfold K.hear at hx
  split at hx
  ·rw[List.mem_singleton.1 hx];rfl
  ·repeat' (split at hx)
   all_goals cases hx
 obtain⟨e1,e2⟩:=zgh w k m
 refine⟨L++((w.seat k).k.hear m).2,h.ofClk (zfg w k m) (h.inv.same e1 (by rw[e2];exact Int.le_refl _) fun _ q=>?_) fun q=>h.inv.inv.elim fun B p=>(h.fr q).zy7 p.1 hk hm⟩
 have h1:=(q.noted hk (zto q hk hm)).said ((w.seat k).k.hear m).2 fun x hx=>.other 4 (hacks x hx) (by decide) fun q=>absurd q (by decide)
 unfold Wd.zy7
 rw[zk2]
 exact Inv.send (-1) _ h1 fun x hx=>⟨List.mem_append_right _ hx,by rw[hacks x hx];decide⟩
theorem Safe.stepped{hon:Prop}{w:Wd}{H:List Hc}{L:List M}{b:Nat}{cb:Int}(h:Safe hon w H L b cb):Safe hon { w with step:=w.step+1 } H L b cb:=
 h.ofClk ⟨rfl,rfl,fun _=>rfl⟩ (h.inv.same rfl (by show w.step<=w.step+1;omega) fun _ q=>q.stepped) fun q=>(h.fr q).stepped
theorem Safe.lose{hon:Prop}{w:Wd}{H:List Hc}{L:List M}{b:Nat}{cb:Int}(h:Safe hon w H L b cb)(k:Nat):Safe hon (w.lose k) H L b cb:=
 h.ofClk ⟨rfl,rfl,fun _=>rfl⟩ (h.inv.same rfl (Int.le_refl _) fun _ q=>q.lose k) fun q=>(h.fr q).same rfl rfl rfl rfl rfl rfl rfl rfl rfl
theorem Safe.twice{hon:Prop}{w:Wd}{H:List Hc}{L:List M}{b:Nat}{cb:Int}(h:Safe hon w H L b cb)(k:Nat):Safe hon (w.twice k) H L b cb:=by
 have e:(w.twice k).sv=w.sv/\(w.twice k).step=w.step/\Clk w (w.twice k)/\(∀ (H:List Hc) (L:List M),Fr w H L->Fr (w.twice k) H L):=by
  unfold Wd.twice
  split
  ·exact⟨rfl,rfl,.refl w,fun _ _ f=>f⟩
  ·split
   ·exact⟨rfl,rfl,⟨rfl,rfl,fun _=>rfl⟩,fun _ _ f=>f.same rfl rfl rfl rfl rfl rfl rfl rfl rfl⟩
   ·exact⟨rfl,rfl,.refl w,fun _ _ f=>f⟩
 exact h.ofClk e.2.2.1 (h.inv.same e.1 (by rw[e.2.1];exact Int.le_refl _) fun B q=>q.twice k) fun q=>e.2.2.2 H L (h.fr q)
theorem Safe.netMem{hon:Prop}{w:Wd}{H:List Hc}{L:List M}{b:Nat}{cb:Int}(h:Safe hon w H L b cb){p:Int×M}(hp:p∈w.net):p.2∈L:=h.inv.inv.elim fun _ k=>(k.1.net p hp).1
theorem Safe.deliver{hon:Prop}{w:Wd}{H:List Hc}{L:List M}{b:Nat}{cb:Int}(h:Safe hon w H L b cb)(hb:H.length+b<200)(k:Nat):∃ L',Safe hon (w.deliver k) H L' b cb:=by
 unfold Wd.deliver
 split
 ·exact⟨L,h⟩
 ·rename_i p hp
  have h1:Safe hon { w with net:=w.net.eraseIdx k,step:=w.step+1 } H L b cb:=(h.lose k).stepped
  have hm:=h.netMem (List.mem_of_getElem? hp)
  unfold Wd.told
  split
  ·exact h1.zy6 hb hm
  ·split
   ·rename_i hh
    have:0<=p.1/\p.1<(w.n:Int):=of_decide_eq_true hh
    exact h1.zy7 (k:=p.1.toNat) (by show p.1.toNat<w.n;omega) hm
   ·exact⟨L,h1⟩
theorem Inv.ask2{w:Wd}{H:List Hc}{L:List M}{B:Nat}(h:Inv w H L B){k:Nat}(hk:k<w.n):Inv (w.ask k) H (L++(w.seat k).k.againL (w.seat k).clock) B:=by
 have hs:=h.st k hk
 have hn:KNext w k ((w.seat k).k.again (w.seat k).clock)/\((w.seat k).k.again (w.seat k).clock).over=(w.seat k).k.over:=by
  unfold K.again
  split
  ·exact⟨⟨rfl,rfl,rfl,rfl,fun _=>rfl,hs.kept,fun _=>Int.le_refl _,.inl rfl⟩,rfl⟩
  ·exact⟨hs.next,rfl⟩
 have hl:∀ x∈(w.seat k).k.againL (w.seat k).clock,MsgOk H w.rs x/\x.k≠9:=fun x hx=>by
  unfold K.againL at hx
  rcases List.mem_append.1 hx with q|q
  ·split at q
   ·rw[List.mem_singleton.1 q];exact⟨.other 3 rfl (by decide) fun q=>absurd q (by decide),by show ¬ (3:Int)=9;decide⟩
   ·cases q
  ·split at q
   ·rename_i ho
    have hcall:0<=(w.seat k).call:=by rw[hs.isO] at ho;exact of_decide_eq_true ho
    obtain⟨e0,g0,a1,a2,a3,a4,a5,a6,a7,a8⟩:=hs.opn hcall
    have hE:=h.eh _ e0 g0 a1 a2
    rw[List.mem_singleton.1 q]
    unfold K.request
    split
    ·rename_i hk2
     exact⟨⟨fun q=>absurd ((rfl:(2:Int)=_).trans q) (by decide),fun _=>⟨g0,List.mem_of_getElem? a2,a3,a4,a5.trans hk2,a6,a7 (a5.trans hk2)⟩,fun q=>absurd ((rfl:(2:Int)=_).trans q) (by decide),fun q=>absurd ((rfl:(2:Int)=_).trans q) (by decide),fun q=>absurd ((rfl:(2:Int)=_).trans q) (by decide)⟩,by show ¬ (2:Int)=9;decide⟩
    ·rename_i hk2
     have hk1:g0.kd=1:=by
      have:=hE.kk
      rw[<- hE.kd,a5] at this
      omega
     exact⟨⟨fun _=>⟨g0,List.mem_of_getElem? a2,a3,a4,hk1,a6⟩,fun q=>absurd ((rfl:(1:Int)=_).trans q) (by decide),fun q=>absurd ((rfl:(1:Int)=_).trans q) (by decide),fun q=>absurd ((rfl:(1:Int)=_).trans q) (by decide),fun q=>absurd ((rfl:(1:Int)=_).trans q) (by decide)⟩,by show ¬ (1:Int)=9;decide⟩
   ·cases q
 exact Inv.send (-1) _ ((h.setK hk hn.1 hn.2).said ((w.seat k).k.againL (w.seat k).clock) fun x hx=>(hl x hx).1) fun x hx=>⟨List.mem_append_right _ hx,(hl x hx).2⟩
theorem ztu(w:Wd)(k:Nat):(w.ask k).sv=w.sv/\(w.ask k).step=w.step:=⟨(zdu _ _ _).1,(zdu _ _ _).2⟩
theorem Safe.ask{hon:Prop}{w:Wd}{H:List Hc}{L:List M}{b:Nat}{cb:Int}(h:Safe hon w H L b cb){k:Nat}(hk:k<w.n):∃ L',Safe hon (w.ask k) H L' b cb:=
 ⟨_,h.ofClk (zj2 w k) (h.inv.same (ztu w k).1 (by rw[(ztu w k).2];exact Int.le_refl _) fun B q=>q.ask2 hk) fun q=>h.inv.inv.elim fun B p=>(h.fr q).ask p.1 hk⟩
theorem Safe.again{hon:Prop}{w:Wd}{H:List Hc}{L:List M}{b:Nat}{cb:Int}(h:Safe hon w H L b cb){k:Nat}(hk:k<w.n):∃ L',Safe hon (w.again k) H L' b cb:=h.stepped.ask hk
theorem zg6(w:Wd)(k:Nat)(c:K):Clk w (w.began k c):=Clk.trans (b:=w.opens k c) ⟨rfl,rfl,zd5 w k _ rfl⟩ (zis _ k)
theorem zf0(w:Wd)(k:Nat)(c:K):(w.began k c).sv=w.sv/\w.step<=(w.began k c).step:=by
 unfold Wd.began
 rw[(zfd _ k).1,(zfd _ k).2]
 exact⟨rfl,by show w.step<=w.step+1;omega⟩
theorem Safe.asked{hon:Prop}{w:Wd}{H:List Hc}{L:List M}{b:Nat}{cb:Int}(h:Safe hon w H L b cb){k:Nat}(hk:k<w.n):∃ L',Safe hon (w.asked k) H L' b cb:=by
 unfold Wd.asked
 split
 ·exact⟨L,h⟩
 ·exact h.ask hk
theorem Safe.read{hon:Prop}{w:Wd}{H:List Hc}{L:List M}{b:Nat}{cb:Int}(h:Safe hon w H L b cb){k:Nat}(hk:k<w.n){o:Int}(ho:0<=o)(ho8:o<8)(hf:(w.seat k).k.zy2=false):∃ g L',g.kd=1/\Safe hon (w.read k o) (H++[g]) L' b cb:=by
 have h1:Safe hon (w.began k ((w.seat k).k.reads o (w.seat k).clock)) (H++[w.hc k ((w.seat k).k.readB o (w.seat k).clock)]) L b cb:=
  h.ofClk (zg6 _ _ _) (h.inv.same (zf0 _ _ _).1 (zf0 _ _ _).2 fun B q=>q.readBegan hk h.inv.st ho ho8 hf) fun q=>h.inv.inv.elim fun B p=>(h.fr q).readBegan p.1 hk h.inv.st ho ho8 hf
 obtain⟨L',h2⟩:=h1.asked (k:=k) (by rw[zo3];exact hk)
 exact⟨_,L',(zio (w.seat k).k o (w.seat k).clock).2.2.1,h2⟩
theorem Safe.write{hon:Prop}{w:Wd}{H:List Hc}{L:List M}{b:Nat}{cb:Int}(h:Safe hon w H L b cb){k:Nat}(hk:k<w.n){o:Int}(ho:0<=o)(ho8:o<8)(hf:(w.seat k).k.zy2=false){d:ByteArray}(hd:d≠⟨#[]⟩)(hdd:∀ g∈H,g.kd=2->g.d≠d):∃ g L',g.kd=2/\g.d=d/\Safe hon (w.write k o d) (H++[g]) L' b cb:=by
 have h1:Safe hon (w.began k ((w.seat k).k.begin 2 o d 0 false false (w.seat k).clock)) (H++[w.hc k ((w.seat k).k.begin 2 o d 0 false false (w.seat k).clock)]) L b cb:=
  h.ofClk (zg6 _ _ _) (h.inv.same (zf0 _ _ _).1 (zf0 _ _ _).2 fun B q=>q.writeBegan hk h.inv.st ho ho8 hf hd hdd) fun q=>h.inv.inv.elim fun B p=>(h.fr q).writeBegan p.1 hk
 obtain⟨L',h2⟩:=h1.asked (k:=k) (by rw[zo3];exact hk)
 exact⟨_,L',rfl,rfl,h2⟩
theorem Safe.crash{hon:Prop}{w:Wd}{H:List Hc}{L:List M}{b:Nat}{cb:Int}(h:Safe hon w H L b cb):Safe hon w.crash H L (b+1) cb:=by
 refine h.ofClk ⟨rfl,rfl,fun _=>rfl⟩ ⟨h.inv.inv.imp fun B k=>⟨k.1.crash,?_⟩,fun s hs=>(by cases hs),by have:=h.inv.st;show 0<=w.step+1;omega⟩ fun q=>(h.fr q).stepped.noSv
 have:=zmz w.crash
 omega
theorem Safe.zy3{hon:Prop}{w:Wd}{H:List Hc}{L:List M}{b:Nat}{cb:Int}(h:Safe hon w H L b cb)(x t:Int):Safe hon (w.zy3 x t) H L (b+1) cb:=by
 have e:Clk w (w.zy3 x t)/\(w.zy3 x t).step=w.step:=by unfold Wd.zy3;split<;>exact⟨⟨rfl,rfl,fun _=>rfl⟩,rfl⟩
 refine h.ofClk e.1 ⟨h.inv.inv.imp fun B k=>⟨k.1.zy3 x t,?_⟩,fun s hs=>?_,by rw[e.2];exact h.inv.st⟩ fun q=>h.inv.inv.elim fun B k=>(h.fr q).zy3 k.1 x t
 ·have:=zmz (w.zy3 x t)
  omega
 ·unfold Wd.zy3 at hs
  split at hs
  ·rename_i hn;have hs':w.sv=some s:=hs;rw[hn] at hs';cases hs'
  ·rename_i v hv
   have hs':some ({ v with fails:=true,left:=mx x 0,torn:=t }:Sv)=some s:=hs
   have:=Option.some.inj hs'
   rw[<- this]
   exact h.inv.up v hv
theorem Safe.restart{hon:Prop}{w:Wd}{H:List Hc}{L:List M}{b:Nat}{cb:Int}(h:Safe hon w H L b cb)(hb:H.length+b<200):Safe hon w.restart H L b cb:=by
 have hc:=zn8 w
 unfold Wd.restart at hc ⊢
 split at hc
 ·exact h
 ·rename_i hs
  obtain⟨B,k1,k2⟩:=h.inv.inv
  have hpen:w.pen=1:=by unfold Wd.pen;rw[hs]
  have hroom:=k1.room
  obtain⟨e,he,h1,h2,h3,h4,_,_,_,_,_,_,_,h13,_⟩:=zcr w.to w.tv w.td w.clock w.rs (by omega)
  refine h.ofClk hc ⟨⟨B+1,k1.stepped.start (by omega),?_⟩,fun v hv=>?_,by have:=h.inv.st;show 0<=w.step+1;omega⟩ fun q=>Fr.start (w:={ w with step:=w.step+1 }) (h.fr q).stepped k1.stepped (by omega)
  ·have:({ w with step:=w.step+1 }:Wd).start.pen=0:=by
    show (if (Sv.new w.to w.tv w.td w.rs false 0 w.clock).fails=true then 1 else 0)=0
    rw[h13];rfl
   show B+1+({ w with step:=w.step+1 }:Wd).start.pen<=b
   omega
  ·have hv':some (Sv.new w.to w.tv w.td w.rs false 0 w.clock)=some v:=hv
   rw[<- Option.some.inj hv']
   exact h4
theorem Safe.reborn{hon:Prop}{w:Wd}{H:List Hc}{L:List M}{b:Nat}{cb:Int}(h:Safe hon w H L b cb){k:Nat}(hk:k<w.n):Safe hon (w.reborn k) H L b cb:=
 h.ofClk ⟨rfl,rfl,zd5 w k _ rfl⟩ (h.inv.same rfl (by show w.step<=w.step+1;omega) fun B q=>q.reborn hk) fun q=>h.inv.inv.elim fun B p=>Fr.enter (w:={ w with step:=w.step+1 }) (h.fr q).stepped p.1.stepped hk
theorem Safe.goes{hon:Prop}{w:Wd}{H:List Hc}{L:List M}{b:Nat}{cb:Int}(h:Safe hon w H L b cb)(hb:H.length+b<200){a:Int}{f:Nat->Int}{g:Int}(ha:a<=g)(hf:∀ k,k<w.n->0<=f k/\f k<=g)(hcb:cb+g<549755813888)(hh:hon->∀ k,k<w.n->a*(1000-w.td)<=f k*(1000+w.td)):∃ L',Safe hon (w.goes a f) H L' b (cb+g):=by
 have h1:Safe hon (w.gone a f) H L b (cb+g):=by
  refine⟨h.inv.same rfl (by show w.step<=w.step+1;omega) fun B q=>q.gone a f,fun q=>(h.fr q).gone (by have:=h.ck.1;omega) fun k hk=>⟨(hf k hk).1,by have:=h.ck.2 k hk;have:=(hf k hk).2;omega,hh q k hk⟩,?_,fun k hk=>?_⟩
  ·show stop (w.clock+a)<=cb+g
   have:=h.ck.1
   unfold stop
   split<;>omega
  ·show stop ((w.seat k).clock+f k)<=cb+g
   have:=h.ck.2 k hk
   have:=(hf k hk).2
   unfold stop
   split<;>omega
 unfold Wd.goes Wd.ticked
 split
 ·exact⟨L,h1⟩
 ·rename_i s hs
  have hr:=zc1 (w.gone a f).clock s L 8 (by omega)
  exact⟨_,h1.ofClk (zfz _ _) (h1.inv.answer hb hs hr) fun q=>h1.inv.inv.elim fun B k=>(h1.fr q).answer k.1 (by omega) hs hr⟩
theorem Safe.first{to' tv td:Int}(hd0:0<=td)(hd1:td<1000)(hv:0<=tv){n:Nat}(hn:n<=4)(hon:Prop):Safe hon (Wd.bare to' tv td n).start [] [] 1 0:=by
 obtain⟨e,he,h1,h2,h3,h4,_,_,_,_,_,_,_,h13,_⟩:=zcr to' tv td 0 [] (by decide)
 refine⟨⟨⟨1,(Inv.bare to' tv td hn).start (by decide),?_⟩,fun v hv=>?_,Int.le_refl 0⟩,fun _=>Fr.first hd0 hd1 hv n,Int.le_refl 0,fun _ _=>Int.le_refl 0⟩
 ·have:(Wd.bare to' tv td n).start.pen=0:=by
   show (if (Sv.new to' tv td [] false 0 0).fails=true then 1 else 0)=0
   rw[h13];rfl
  omega
 ·have hv':some (Sv.new to' tv td [] false 0 0)=some v:=hv
  rw[<- Option.some.inj hv']
  exact h4
end Wld
end
section
namespace Wld
open Go.RowKit Go.Maps
open Wal (R mayB timeB)
open Num (M okB)
theorem Inv.callOf{w:Wd}{H:List Hc}{L:List M}{B:Nat}(h:Inv w H L B){e:Ev}(he:e∈w.events):∃ (i:Nat) (g:Hc),w.events[i]?=some e/\H[i]?=some g/\g∈H/\EvH w.n e g:=by
 obtain⟨i,hi⟩:=List.getElem?_of_mem he
 have hl:i<H.length:=by rw[h.len];exact(List.getElem?_eq_some_iff.1 hi).1
 have hg:=List.getElem?_eq_getElem hl
 exact⟨i,H[i],hi,hg,List.getElem_mem hl,h.eh i e _ hi hg⟩
theorem Inv.objs{w:Wd}{H:List Hc}{L:List M}{B:Nat}(h:Inv w H L B){e:Ev}(he:e∈w.events):0<=e.obj/\e.obj<8/\(e.kind=1\/e.kind=2)/\0<=e.client/\e.client<w.n/\0<=e.life:=by
 obtain⟨i,g,h1,h2,h3,h4⟩:=h.callOf he
 exact⟨h4.o0,h4.o8,h4.kk,h4.c0,h4.c4,h4.l0⟩
theorem Inv.recs{w:Wd}{H:List Hc}{L:List M}{B:Nat}(h:Inv w H L B):∀ r∈w.rs,0<=r.c/\r.o<8:=fun r hr=>by
 by_cases h0:0<=r.o
 ·obtain⟨h8,g,hg,g1,_⟩:=h.log.wr r hr h0
  obtain⟨i,hi⟩:=List.getElem?_of_mem hg
  have hl:i<w.events.length:=by rw[<- h.len];exact(List.getElem?_eq_some_iff.1 hi).1
  have hE:=h.eh i _ g (List.getElem?_eq_getElem hl) hi
  have:=hE.c
  have:=hE.c0
  have:=hE.l0
  exact⟨by omega,h8⟩
 ·exact⟨(h.log.eps r hr (by omega)).2,by omega⟩
theorem Safe.calmOk{hon:Prop}{w:Wd}{H:List Hc}{L:List M}{b:Nat}{cb:Int}(h:Safe hon w H L b cb)(hb:H.length+b<200):(w.sv=none->w.rs.length<200)/\∀ r∈w.rs,0<=r.c/\r.o<8:=by
 obtain⟨B,k1,k2⟩:=h.inv.inv
 exact⟨fun _=>by have:=k1.room;omega,k1.recs⟩
end Wld
end
end Go.Proofs.YtbebfliimjjohabGreatDoor
