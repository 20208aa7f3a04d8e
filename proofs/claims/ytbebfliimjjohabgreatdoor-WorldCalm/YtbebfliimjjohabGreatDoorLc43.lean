/- Parts of the proof. -/
import Derived.Test.YtbebfliimjjohabGreatDoorLc42
set_option maxRecDepth 100000
set_option maxHeartbeats 8000000
namespace Go.Proofs.YtbebfliimjjohabGreatDoor
section
namespace Wld
open Go.Maps
open Lease (I64 upd zae zad mx hol)
open Cache (E era putL)
open Wal (R timeB)
open Num (M okB)
theorem zd6{m:M}(h:okB m=true):(0<=m.e/\m.e<=1099511627776)/\(0<=m.o/\m.o<=1099511627776)/\(0<=m.v/\m.v<=1099511627776):=by
 simp only[okB,Num.M.nums,Num.numB,Num.inB,List.all_cons,List.all_nil,Bool.and_eq_true,decide_eq_true_eq,and_true] at h
 exact⟨h.2.2.2.2.1,h.2.2.2.2.2.2.1,h.2.2.2.2.2.2.2⟩
theorem zwm{k:K}(hid:0<=k.id/\k.id<=1099511627776){m:M}(hm:okB m=true):AllOk (k.hear m).2:=by
 unfold K.hear
 split
 ·exact AllOk.one (zdh (by omega) hid (by omega) (zd6 hm).1 (by omega) (zd6 hm).2.1 (zd6 hm).2.2 none20)
 ·repeat' split
  all_goals exact AllOk.nil
theorem Cm.id{w:Wd}{H:List Hc}{L:List M}{b C:Nat}{cb:Int}(h:Cm w H L b C cb){k:Nat}(hk:k<w.n):0<=(w.seat k).k.id/\(w.seat k).k.id<=1099511627776/\zy8 (w.seat k).k.id=k:=by
 obtain⟨B,hi,_⟩:=h.inv
 have h1:=(hi.st k hk).id
 have h2:=(hi.st k hk).l0
 have h3:=(h.wb.st k hk).l1
 have h4:=hi.n4
 have h5:=h.cC
 refine⟨by omega,by omega,?_⟩
 rw[h1]
 unfold zy8
 omega
theorem zg9{k:K}{m:M}(h:(k.hear m).1.zy2=true):k.zy2=true/\(k.hear m).1.id=k.id/\(k.hear m).1.num=k.num/\(k.hear m).1.kind=k.kind/\(k.hear m).1.cob=k.cob/\(k.hear m).1.seen=k.seen/\(k.hear m).1.d=k.d:=by
 have no:∀ (c:K) (d:ByteArray) (v:Int),(c.overWith d v).zy2=true->False:=fun c d v q=>by simp[K.zy2,K.overWith] at q
 unfold K.hear at h ⊢
 split at h
 ·rename_i q;rw[if_pos q];unfold K.forget at h ⊢;split at h
  ·rename_i q2;rw[if_pos q2];exact⟨q2.1,rfl,rfl,rfl,rfl,rfl,rfl⟩
  ·rename_i q2;rw[if_neg q2];exact⟨h,rfl,rfl,rfl,rfl,rfl,rfl⟩
 ·rename_i q;rw[if_neg q]
  split at h
  ·rename_i q;rw[if_pos q];exact⟨h,rfl,rfl,rfl,rfl,rfl,rfl⟩
  ·rename_i q;rw[if_neg q]
   split at h
   ·rename_i q;rw[if_pos q];unfold K.granted at h ⊢;split at h
    ·rename_i q2;rw[if_pos q2];exact⟨h,rfl,rfl,rfl,rfl,rfl,rfl⟩
    ·rename_i q2;rw[if_neg q2];exact⟨h,rfl,rfl,rfl,rfl,rfl,rfl⟩
   ·rename_i q;rw[if_neg q]
    split at h
    ·rename_i q;rw[if_pos q];unfold K.flush at h ⊢;split at h
     ·rename_i q2;rw[if_pos q2];exact⟨h,rfl,rfl,rfl,rfl,rfl,rfl⟩
     ·rename_i q2;rw[if_neg q2];exact⟨h,rfl,rfl,rfl,rfl,rfl,rfl⟩
    ·rename_i q;rw[if_neg q]
     split at h
     ·rename_i q;rw[if_pos q];unfold K.read at h ⊢;split at h
      ·rename_i q2;rw[if_pos q2];exact⟨h,rfl,rfl,rfl,rfl,rfl,rfl⟩
      ·exact(no _ _ _ h).elim
     ·rename_i q;rw[if_neg q]
      split at h
      ·exact(no _ _ _ h).elim
      ·rename_i q;rw[if_neg q];exact⟨h,rfl,rfl,rfl,rfl,rfl,rfl⟩
theorem zha{k:K}{m:M}(h:k.zy2=false):(k.hear m).1.zy2=false:=by
 cases q:(k.hear m).1.zy2 with
 | false=>rfl
 | true=>rw[(zg9 q).1] at h;cases h
theorem Cm.cases{w:Wd}{H:List Hc}{L:List M}{b C:Nat}{cb:Int}(h:Cm w H L b C cb){P:Wd->Prop}{p:Int×M}{rest:List (Int×M)}(hn:w.net=p :: rest)
  (c1:∀ s,w.sv=some s->p.1 = -1->∀ w':Wd,w'.net=rest++(s.hear p.2 w.clock).2.map (fun x=>(((zy8 x.c:Nat):Int),x))->w'.sv=some (s.hear p.2 w.clock).1->w'.seat=w.seat->w'.clock=w.clock->w'.n=w.n->P w')
  (c2:∀ j:Nat,j<w.n->p.1=(j:Int)->∀ w':Wd,w'.net=rest++((w.seat j).k.hear p.2).2.map (fun x=>((-1:Int),x))->w'.sv=w.sv->(∀ i,(w'.seat i).k=if i=j then ((w.seat j).k.hear p.2).1 else (w.seat i).k)->w'.clock=w.clock->w'.n=w.n->P w')
  (c3:p.1≠-1->w.has p.1=false->∀ w':Wd,w'.net=rest->w'.sv=w.sv->w'.seat=w.seat->w'.clock=w.clock->w'.n=w.n->P w'):P (w.deliver 0):=by
 obtain⟨t,m⟩:=p
 by_cases h1:t = -1
 ·subst h1
  obtain⟨s,hs,_⟩:=h.up
  obtain⟨a1,a2,a3,a4,a5⟩:=zfi h hn hs
  exact c1 s hs rfl _ a1 a2 a3 a4 a5
 ·cases h2:w.has t with
  | true=>
   have h3:0<=t/\t<(w.n:Int):=of_decide_eq_true h2
   obtain⟨j,rfl⟩:∃ j:Nat,t=(j:Int):=⟨t.toNat,by omega⟩
   have hj:j<w.n:=by omega
   have hok:okB m=true:=h.wb.net (j,m) (by rw[hn];exact List.mem_cons_self ..)
   obtain⟨a1,a2,a3,a4,a5⟩:=zj6 h hj hn (zwm ⟨(h.id hj).1,(h.id hj).2.1⟩ hok)
   exact c2 j hj rfl _ a1 a2 a3 a4 a5
  | false=>
   rw[zg8 hn h1 h2]
   exact c3 h1 h2 _ rfl rfl rfl rfl rfl
def RdP(w:Wd)(k:Nat):Prop:=(w.seat k).k.zy2=true->(w.seat k).k.kind=1 ->
 (∃ m:M,((-1:Int),m)∈w.net/\m.k=1/\m.c=(w.seat k).k.id/\m.n=(w.seat k).k.num/\m.o=(w.seat k).k.cob)\/∃ m:M,((k:Int),m)∈w.net/\m.k=5/\m.c=(w.seat k).k.id/\m.n=(w.seat k).k.num/\(w.seat k).k.seen (w.seat k).k.cob<=m.v
theorem RdP.deliver{w:Wd}{H:List Hc}{L:List M}{b C:Nat}{cb:Int}(h:Cm w H L b C cb){k:Nat}(hk:k<w.n)(hr:RdP w k){p:Int×M}{rest:List (Int×M)}(hn:w.net=p :: rest):RdP (w.deliver 0) k:=by
 obtain⟨B,hi,_⟩:=h.inv
 refine h.cases hn (P:=fun w'=>RdP w' k) (fun s hs hp w' e1 e2 e3 e4 e5=>?_) (fun j hj hp w' e1 e2 e3 e4 e5=>?_) (fun hp hq w' e1 e2 e3 e4 e5=>?_)
 ·intro ho hk1
  rw[e3] at ho hk1 ⊢
  rw[e1]
  rcases hr ho hk1 with ⟨x,hx,x1,x2,x3,x4⟩|⟨x,hx,x1,x2,x3,x4⟩
  ·rw[hn] at hx
   rcases List.mem_cons.1 hx with q|q
   ·right
    have e:p.2=x:=by rw[<- q]
    have hb:=h.wb.st k hk
    have hv:s.hear x w.clock=s.readS x x.o.toNat w.clock:=by
     unfold Sv.hear
     have hup:s.down=false:=by obtain⟨s1,hs1,hp1⟩:=h.up;rw[Option.some.inj (hs.symm.trans hs1)];exact hp1.up
     have hid:=(h.id hk).1
     have c0:=hb.k.cob0
     have c7:=hb.k.cob7
     rw[if_neg (by rw[hup];simp only[Bool.false_eq_true,false_or];omega),if_pos x1]
    refine⟨s.valueM x x.o.toNat,List.mem_append_right _ (List.mem_map.2 ⟨s.valueM x x.o.toNat,by rw[e,hv];exact List.mem_singleton.2 rfl,?_⟩),rfl,x2,x3,?_⟩
    ·show (((zy8 x.c:Nat):Int),_)=_
     rw[x2,(h.id hk).2.2]
    ·show _<=s.vv x.o.toNat
     rw[x4]
     have:=h.ex.seen k hk (w.seat k).k.cob
     rw[<- (hi.sv s hs).2,<- congrArg L4.vv (hi.sv s hs).1.l4] at this
     exact this
   ·exact .inl ⟨x,List.mem_append_left _ q,x1,x2,x3,x4⟩
  ·rw[hn] at hx
   rcases List.mem_cons.1 hx with q|q
   ·have:(k:Int)=p.1:=by rw[<- q]
    omega
   ·exact .inr ⟨x,List.mem_append_left _ q,x1,x2,x3,x4⟩
 ·intro ho hk1
  rw[e1]
  rw[e3] at ho hk1 ⊢
  by_cases e:k=j
  ·subst e
   rw[if_pos rfl] at ho hk1 ⊢
   obtain⟨o1,o2,o3,o4,o5,o6,_⟩:=zg9 ho
   rw[o4] at hk1
   rw[o2,o3,o5,o6]
   rcases hr o1 hk1 with ⟨x,hx,x1,x2,x3,x4⟩|⟨x,hx,x1,x2,x3,x4⟩
   ·rw[hn] at hx
    rcases List.mem_cons.1 hx with q|q
    ·have:(-1:Int)=p.1:=by rw[<- q]
     omega
    ·exact .inl ⟨x,List.mem_append_left _ q,x1,x2,x3,x4⟩
   ·rw[hn] at hx
    rcases List.mem_cons.1 hx with q|q
    ·exfalso
     have e:p.2=x:=by rw[<- q]
     rw[e] at ho
     unfold K.hear at ho
     rw[if_neg (by omega),if_neg (by omega),if_neg (by omega),if_neg (by omega),if_pos ⟨x1,by unfold K.zzf;rw[o1];simp[hk1,x3]⟩] at ho
     unfold K.read at ho
     rw[if_neg (by omega)] at ho
     simp[K.zy2,K.overWith] at ho
    ·exact .inr ⟨x,List.mem_append_left _ q,x1,x2,x3,x4⟩
  ·rw[if_neg e] at ho hk1 ⊢
   rcases hr ho hk1 with ⟨x,hx,x1⟩|⟨x,hx,x1⟩
   ·rw[hn] at hx
    rcases List.mem_cons.1 hx with q|q
    ·have:(-1:Int)=p.1:=by rw[<- q]
     omega
    ·exact .inl ⟨x,List.mem_append_left _ q,x1⟩
   ·rw[hn] at hx
    rcases List.mem_cons.1 hx with q|q
    ·have:(k:Int)=p.1:=by rw[<- q]
     omega
    ·exact .inr ⟨x,List.mem_append_left _ q,x1⟩
 ·intro ho hk1
  rw[e3] at ho hk1 ⊢
  rw[e1]
  rcases hr ho hk1 with ⟨x,hx,x1⟩|⟨x,hx,x1⟩
  ·rw[hn] at hx
   rcases List.mem_cons.1 hx with q|q
   ·exact absurd (by rw[<- q]) hp
   ·exact .inl ⟨x,q,x1⟩
  ·rw[hn] at hx
   rcases List.mem_cons.1 hx with q|q
   ·exfalso
    have e:p.1=(k:Int):=by rw[<- q]
    rw[e] at hq
    have:w.has (k:Int)=true:=decide_eq_true ⟨by omega,by omega⟩
    rw[this] at hq
    cases hq
   ·exact .inr ⟨x,q,x1⟩
theorem zbx{H:List Hc}{b:Nat}{cb:Int}{P:Wd->Prop}(hP:∀ (w:Wd) (L:List M) (C:Nat) (p:Int×M) (rest:List (Int×M)),Cm w H L b C cb->P w->w.net=p :: rest->P (w.deliver 0)) :
  ∀ (f:Nat) (w:Wd) (L:List M) (C:Nat),Cm w H L b C cb->C+f<=100000000->P w->w.mu<=f->∃ L' C',C'<=C+f/\Cm (w.drain f) H L' b C' cb/\P (w.drain f)/\(w.drain f).net = []
 | 0,w,L,C,h,hC,hp,hf=>⟨L,C,by omega,h,hp,by
   have:w.net.length<=wnet w.net:=zfh _
   have e:wnet w.net<=w.mu:=by unfold Wd.mu;split<;>omega
   exact List.length_eq_zero_iff.1 (by show w.net.length=0;omega)⟩
 | f+1,w,L,C,h,hC,hp,hf=>by
  unfold Wd.drain
  split
  ·rename_i e
   exact⟨L,C,by omega,h,hp,List.length_eq_zero_iff.1 e⟩
  ·rename_i e
   cases hn:w.net with
   | nil=>rw[hn] at e;exact absurd rfl e
   | cons p rest=>
    obtain⟨L1,h1⟩:=h.deliver (by omega) (by rw[hn];simp)
    have hmu:=zcq h.wb (k:=0) (by rw[hn];simp)
    obtain⟨L',C',a1,a2,a3,a4⟩:=zbx hP f (w.deliver 0) L1 (C+1) h1 (by omega) (hP w L C p rest h hp hn) (by omega)
    exact⟨L',C',by omega,a2,a3,a4⟩
end Wld
end
section
namespace Wld
open Go.Maps
open Lease (I64 upd zae zad mx hol isH kk dels)
open Cache (E era putL)
open Wal (R timeB)
open Num (M okB)
def aw(s:Sv)(T:Int)(o c:Nat):Prop:=isH s.D o T c=true/\T<s.vol c
theorem zj7{s s':Sv}(h1:s'.D=s.D)(h2:s'.vol=s.vol)(T:Int)(o c:Nat):aw s' T o c↔aw s T o c:=by unfold aw;rw[h1,h2]
theorem ziv{D E:Lease.Dat}{o T:Int}{c:Nat}(h1:∀ z,D.atKey (kk c o) z=E.atKey (kk c o) z)(h2:has D (kk c o)=has E (kk c o)):isH D o T c=isH E o T c:=by unfold Lease.isH;rw[h1,h2]
theorem zjn{D:Lease.Dat}{x:Int}{k:Lit}:∀ n:Nat,(∀ i:Nat,i<n->k≠kk x i)->(∀ z,(dels D x n).atKey k z=D.atKey k z)/\has (dels D x n) k=has D k
 | 0,_=>⟨fun _=>rfl,rfl⟩
 | n+1,h=>by
  obtain⟨a,b⟩:=zjn (D:=D) n fun i hi=>h i (by omega)
  have hn:=h n (by omega)
  exact⟨fun z=>(atKey_del_other hn z).trans (a z),(has_del_other hn).trans b⟩
theorem zwn{s:Sv}{T:Int}{c:Nat}(hc:c<4)(hv:¬ T<s.vol c)(hT:0<=T){o d:Nat}(ho:o<8)(hd:d<4):aw (s.flushed c) T o d↔aw s T o d:=by
 unfold aw
 by_cases e:d=c
 ·subst e
  constructor
  ·rintro⟨_,h⟩
   exfalso
   have h':T<upd s.vol d 0 d:=h
   rw[zae] at h'
   omega
  ·rintro⟨_,h⟩
   exact absurd h hv
 ·have h1:(s.flushed c).vol d=s.vol d:=zad (by omega)
  obtain⟨a,b⟩:=zjn (D:=s.D) (x:=(c:Int)) (k:=kk d o) 8 fun i hi q=>e (zd3 hd hc ho hi q).1
  rw[h1,show isH (s.flushed c).D o T d=isH s.D o T d from ziv a b]
theorem ziw{T:Int}(hT:0<=T){o d:Nat}(ho:o<8)(hd:d<4):∀ (cs:List Int) (s:Sv),(∀ c∈cs,∃ n:Nat,n<4/\c=(n:Int))->(aw (s.await T cs).1 T o d↔aw s T o d)
 | [],s,_=>Iff.rfl
 | c :: cs,s,h=>by
  rw[za1]
  split
  ·exact ziw hT ho hd cs s fun x hx=>h x (List.mem_cons_of_mem _ hx)
  ·rename_i hv
   obtain⟨n,hn,rfl⟩:=h c (List.mem_cons_self ..)
   exact(ziw hT ho hd cs (s.flushed n) fun x hx=>h x (List.mem_cons_of_mem _ hx)).trans (zwn hn hv hT ho hd)
theorem zf4{T:Int}(hT:0<=T){o d:Nat}(ho:o<8)(hd:d<4)(s:Sv)(x:Nat):aw (s.zyz x T).1 T o d↔aw s T o d:=by
 unfold Sv.zyz
 split
 ·exact Iff.rfl
 ·exact ziw hT ho hd _ s fun c hc=>zhq hc
theorem zf5{T:Int}:∀ (cs:List Int) (s:Sv),cs.Nodup->(s.await T cs).2=cs.filter fun c=>decide (T<s.vol c)
 | [],s,_=>rfl
 | c :: cs,s,h=>by
  obtain⟨h1,h2⟩:=List.nodup_cons.1 h
  rw[za1]
  split
  ·rename_i hv
   rw[List.filter_cons_of_pos (by exact decide_eq_true hv),zf5 cs s h2]
  ·rename_i hv
   rw[List.filter_cons_of_neg (by simpa using hv),zf5 cs _ h2]
   refine List.filter_congr fun x hx=>?_
   have e:(s.flushed c).vol x=s.vol x:=zad (fun q=>h1 (q▸hx))
   rw[e]
theorem zlb(D:Lease.Dat)(o T:Int)(k:Nat):(hol D o T k).Nodup:=by
 unfold Lease.hol
 refine List.Pairwise.map _ (fun a b (q:a≠b)=>?_) (List.Pairwise.filter _ List.nodup_range)
 intro e
 exact q (by omega)
theorem zc9{s:Sv}(hd:s.down=false){T:Int}{o:Nat}{c:Int}:c∈(s.zyz o T).2↔s.zzf o≠[]/\∃ n:Nat,n<4/\c=(n:Int)/\aw s T o n:=by
 unfold Sv.zyz
 split
 ·rename_i h
  rcases h with h|h
  ·rw[hd] at h;cases h
  ·constructor
   ·intro q;cases q
   ·rintro⟨q,_⟩;exact absurd (List.length_eq_zero_iff.1 h) q
 ·rename_i h
  have hw:s.zzf o≠[]:=fun q=>h (.inr (by rw[q];rfl))
  rw[zf5 _ _ (zlb _ _ _ _),List.mem_filter]
  constructor
  ·rintro⟨h1,h2⟩
   have hv:=of_decide_eq_true h2
   unfold Lease.hol at h1
   obtain⟨n,hn,rfl⟩:=List.mem_map.1 h1
   obtain⟨n1,n2⟩:=List.mem_filter.1 hn
   exact⟨hw,n,List.mem_range.1 n1,rfl,n2,hv⟩
  ·rintro⟨_,n,hn,rfl,h1,h2⟩
   exact⟨zj1 h1 hn,decide_eq_true h2⟩
theorem ze2(now:Int):∀ (cs:List Int) (s:Sv),(s.await now cs).1.fails=s.fails/\(s.await now cs).1.left=s.left/\(s.await now cs).1.rs=s.rs
 | [],s=>⟨rfl,rfl,rfl⟩
 | c :: cs,s=>by
  rw[za1]
  split
  ·exact ze2 now cs s
  ·exact ze2 now cs (s.flushed c)
theorem za8(s:Sv)(o:Nat)(now:Int):(s.zyz o now).1.fails=s.fails/\(s.zyz o now).1.left=s.left/\(s.zyz o now).1.rs=s.rs:=by
 unfold Sv.zyz
 split
 ·exact⟨rfl,rfl,rfl⟩
 ·exact ze2 now _ s
theorem zt0{T:Int}(hT:0<=T){o:Nat}(ho:o<8):∀ (f:Nat) (s:Sv),Pw s->s.rs.length+f<=200->(∀ (x d:Nat),x<8->d<4->(aw (s.adv o T f).1 T x d↔aw s T x d))/\Pw (s.adv o T f).1/\(s.adv o T f).1.ready=s.ready/\((s.zzf o).length<f->s.ready<=T->(s.adv o T f).1.zzf o≠[]->∃ c:Nat,c<4/\aw s T o c)
 | 0,s,hp,_=>⟨fun _ _ _ _=>Iff.rfl,hp,rfl,fun h=>absurd h (Nat.not_lt_zero _)⟩
 | f+1,s,hp,hl=>by
  unfold Sv.adv
  split
  ·rename_i h
   refine⟨fun _ _ _ _=>Iff.rfl,hp,rfl,fun _ hr hw=>?_⟩
   rcases h with h|h
   ·exact absurd (List.length_eq_zero_iff.1 h) hw
   ·omega
  ·rename_i h
   have hup:=hp.up
   have hA:=fun (x d:Nat) (hx:x<8) (hd:d<4)=>zf4 hT hx hd s o
   obtain⟨e1,e2,e3,e4,e5⟩:=zak s o T
   have hp1:Pw (s.zyz o T).1:=by
    obtain⟨_,a2,_⟩:=zb0 T ho [] s
    refine⟨a2.trans hup,fun q=>?_⟩
    have hk:=za8 s o T
    rw[hk.1] at q
    rw[hk.2.1,hk.2.2]
    exact hp.pw q
   have hrs:(s.zyz o T).1.rs=s.rs:=(za8 s o T).2.2
   split
   ·rename_i ha
    refine⟨hA,hp1,e4,fun _ hr hw=>?_⟩
    cases hl:(s.zyz o T).2 with
    | nil=>rw[hl] at ha;exact absurd rfl ha
    | cons c cs=>
     obtain⟨_,n,hn,_,h2⟩:=(zc9 hup (T:=T) (o:=o) (c:=c)).1 (by rw[hl];exact List.mem_cons_self ..)
     exact⟨n,hn,h2⟩
   ·split
    ·rename_i hm
     exact⟨hA,hp1,e4,fun _ hr hw=>absurd hm hw⟩
    ·rename_i m rest hm
     have hlen:(s.zyz o T).1.rs.length<200:=by rw[hrs];omega
     have hok:((s.zyz o T).1.commit m o).2.2=true:=by rw[zcj hp1 hlen]
     rw[if_neg (by rw[hok];decide)]
     obtain⟨c1,c2,c3,c4,c5,c6,_⟩:=zar (s.zyz o T).1 m o
     have hp2:=hp1.commit hlen m o
     have hr2:((s.zyz o T).1.commit m o).1.rs.length=s.rs.length+1:=by
      rw[zcj hp1 hlen]
      dsimp only
      rw[zbb]
      simp[hrs]
     obtain⟨k1,k2,k3,k4⟩:=zt0 hT ho f ({ ((s.zyz o T).1.commit m o).1 with zzf:=zy9 ((s.zyz o T).1.commit m o).1.zzf o rest }:Sv) ⟨hp2.up,hp2.pw⟩ (by show ((s.zyz o T).1.commit m o).1.rs.length+f<=200;omega)
     have hB:∀ (x d:Nat),aw ({ ((s.zyz o T).1.commit m o).1 with zzf:=zy9 ((s.zyz o T).1.commit m o).1.zzf o rest }:Sv) T x d↔aw (s.zyz o T).1 T x d:=fun x d=>zj7 c6 c5 T x d
     refine⟨fun x d hx hd=>(k1 x d hx hd).trans ((hB x d).trans (hA x d hx hd)),k2,k3.trans (c3.trans e4),fun hlt hr hw=>?_⟩
     have hwl:((zy9 ((s.zyz o T).1.commit m o).1.zzf o rest) o).length<f:=by
      rw[zaa]
      have:(s.zzf o).length=rest.length+1:=by rw[<- e1,hm];rfl
      omega
     obtain⟨c,hc,hcw⟩:=k4 hwl (by show ((s.zyz o T).1.commit m o).1.ready<=T;rw[c3,e4];exact hr) hw
     exact⟨c,hc,(hA o c ho hc).1 ((hB o c).1 hcw)⟩
theorem zhb{T:Int}{s:Sv}(hd:s.down=false){o c:Nat}(hc:c<4)(ha:aw s T o c):∀ f,(s.adv o T f).2 = []/\(s.adv o T f).1.zzf=s.zzf/\(s.adv o T f).1.vv=s.vv/\(s.adv o T f).1.epoch=s.epoch
 | 0=>⟨rfl,rfl,rfl,rfl⟩
 | f+1=>by
  unfold Sv.adv
  split
  ·exact⟨rfl,rfl,rfl,rfl⟩
  ·rename_i h
   have hw:s.zzf o≠[]:=fun q=>h (.inl (by rw[q];rfl))
   have hm:(c:Int)∈(s.zyz o T).2:=(zc9 hd).2 ⟨hw,c,hc,rfl,ha⟩
   obtain⟨e1,e2,e3,e4,e5⟩:=zak s o T
   rw[if_pos (fun q=>by rw[List.length_eq_zero_iff.1 q] at hm;cases hm)]
   exact⟨rfl,e1,e2,e5⟩
theorem zna(o:Nat)(T:Int):∀ (f:Nat) (s:Sv),(∀ x,x≠o->(s.adv o T f).1.vv x=s.vv x)/\(s.adv o T f).1.epoch=s.epoch
 | 0,s=>⟨fun _ _=>rfl,rfl⟩
 | f+1,s=>by
  obtain⟨e1,e2,e3,e4,e5⟩:=zak s o T
  unfold Sv.adv
  split
  ·exact⟨fun _ _=>rfl,rfl⟩
  ·split
   ·exact⟨fun x _=>by rw[e2],e5⟩
   ·split
    ·exact⟨fun x _=>by rw[e2],e5⟩
    ·rename_i m rest hm
     obtain⟨c1,c2,c3,c4,c5,c6,c7,c8⟩:=zar (s.zyz o T).1 m o
     have hv:∀ x,x≠o->((s.zyz o T).1.commit m o).1.vv x=s.vv x:=fun x hx=>by
      rcases c8 with q|q
      ·rw[q,e2]
      ·rw[q];unfold zy9;rw[if_neg hx,e2]
     split
     ·exact⟨hv,c4.trans e5⟩
     ·obtain⟨k1,k2⟩:=zna o T f ({ ((s.zyz o T).1.commit m o).1 with zzf:=zy9 ((s.zyz o T).1.commit m o).1.zzf o rest }:Sv)
      exact⟨fun x hx=>(k1 x hx).trans (hv x hx),k2.trans (c4.trans e5)⟩
structure Adv(T:Int)(o:Nat)(s s':Sv)(l:List M):Prop where
 aw:∀ (x d:Nat),x<8->d<4->(aw s' T x d↔aw s T x d)
 pw:Pw s'
 rdy:s'.ready=s.ready
 go:s.ready<=T->s'.zzf o≠[]->∃ c:Nat,c<4/\Wld.aw s T o c
 oth:∀ x,x≠o->s'.zzf x=s.zzf x/\s'.vv x=s.vv x
 stuck:∀ c:Nat,c<4->Wld.aw s T o c->l = []/\s'.zzf=s.zzf/\s'.vv=s.vv
 ep:s'.epoch=s.epoch
theorem zda{T:Int}(hT:0<=T){o:Nat}(ho:o<8){s:Sv}(hp:Pw s)(hl:s.rs.length+(s.zzf o).length+1<=200):Adv T o s (s.zy1 o T).1 (s.zy1 o T).2:=by
 obtain⟨a1,a2,a3,a4⟩:=zt0 hT ho ((s.zzf o).length+1) s hp (by omega)
 obtain⟨b1,b2⟩:=zna o T ((s.zzf o).length+1) s
 exact⟨a1,a2,a3,fun hr hw=>a4 (by omega) hr hw,fun x hx=>⟨zeh o T _ s x hx,b1 x hx⟩,fun c hc h=>⟨(zhb hp.up hc h _).1,(zhb hp.up hc h _).2.1,(zhb hp.up hc h _).2.2.1⟩,b2⟩
def Hold(s:Sv)(T:Int):Prop:=s.ready<=T->∀ o:Nat,o<8->s.zzf o≠[]->∃ c:Nat,c<4/\aw s T o c
theorem Hold.adv{T:Int}{o:Nat}{s s':Sv}{l:List M}(k:Adv T o s s' l)(h:∀ x:Nat,x<8->x≠o->s.ready<=T->s.zzf x≠[]->∃ c:Nat,c<4/\aw s T x c):Hold s' T:=fun hr x hx hw=>by
 rw[k.rdy] at hr
 by_cases e:x=o
 ·subst e
  obtain⟨c,hc,q⟩:=k.go hr hw
  exact⟨c,hc,(k.aw x c hx hc).2 q⟩
 ·rw[(k.oth x e).1] at hw
  obtain⟨c,hc,q⟩:=h x hx e hr hw
  exact⟨c,hc,(k.aw x c hx hc).2 q⟩
theorem zq6(s:Sv)(m:M)(o:Nat):(s.commit m o).1.rs.length<=s.rs.length+1:=by
 have ha:(s.add (s.recd m o)).1.rs.length<=s.rs.length+1:=by
  unfold Sv.add
  split
  ·show s.rs.length<=_;omega
  ·split
   ·show s.rs.length<=_;omega
   ·split
    ·show s.rs.length<=_;omega
    ·show (s.rs++[s.recd m o]).length<=_;simp
 unfold Sv.commit
 split
 ·show (Sv.zy4 _ _).rs.length<=_
  rw[zbb];exact ha
 ·exact ha
theorem zpa(o:Nat)(T:Int):∀ (f:Nat) (s:Sv),(s.adv o T f).1.rs.length+((s.adv o T f).1.zzf o).length<=s.rs.length+(s.zzf o).length\/(s.adv o T f).1.down=true
 | 0,s=>.inl (Nat.le_refl _)
 | f+1,s=>by
  obtain⟨e1,_⟩:=zak s o T
  have e2:=(za8 s o T).2.2
  unfold Sv.adv
  split
  ·exact .inl (Nat.le_refl _)
  ·split
   ·left;rw[e1,e2];exact Nat.le_refl _
   ·split
    ·left;rw[e1,e2];exact Nat.le_refl _
    ·rename_i m rest hm
     have hc:=zq6 (s.zyz o T).1 m o
     rw[e2] at hc
     have hw:(s.zzf o).length=rest.length+1:=by rw[<- e1,hm];rfl
     split
     ·rename_i hf
      right
      unfold Sv.commit at hf ⊢
      split at hf
      ·cases hf
      ·rename_i q
       rw[if_neg q]
       simpa using hf
     ·rcases zpa o T f ({ ((s.zyz o T).1.commit m o).1 with zzf:=zy9 ((s.zyz o T).1.commit m o).1.zzf o rest }:Sv) with q|q
      ·left
       have q':_<=((s.zyz o T).1.commit m o).1.rs.length+(zy9 ((s.zyz o T).1.commit m o).1.zzf o rest o).length:=q
       rw[zaa] at q'
       refine Nat.le_trans q' ?_
       omega
      ·exact .inr q
theorem zpb(o:Nat)(T:Int):∀ (f:Nat) (s:Sv),((s.adv o T f).1.zzf o).length<=(s.zzf o).length
 | 0,s=>Nat.le_refl _
 | f+1,s=>by
  obtain⟨e1,_⟩:=zak s o T
  unfold Sv.adv
  split
  ·exact Nat.le_refl _
  ·split
   ·rw[e1];exact Nat.le_refl _
   ·split
    ·rw[e1];exact Nat.le_refl _
    ·rename_i m rest hm
     obtain⟨c1,_⟩:=zar (s.zyz o T).1 m o
     have hw:(s.zzf o).length=rest.length+1:=by rw[<- e1,hm];rfl
     split
     ·rw[c1,e1];exact Nat.le_refl _
     ·have q:=zpb o T f ({ ((s.zyz o T).1.commit m o).1 with zzf:=zy9 ((s.zyz o T).1.commit m o).1.zzf o rest }:Sv)
      have q':_<=(zy9 ((s.zyz o T).1.commit m o).1.zzf o rest o).length:=q
      rw[zaa] at q'
      refine Nat.le_trans q' ?_
      omega
theorem znb(T:Int)(s:Sv)(o:Nat):((s.zy1 o T).1.zzf o).length<=(s.zzf o).length:=zpb o T _ s
theorem zhc{T:Int}(hT:0<=T){s:Sv}(hp:Pw s)(hq:∀ o,(s.zzf o).length<=10)(hl:s.rs.length<=110):∀ k,k<=8->Pw (s.tickN T k).1/\(s.tickN T k).1.ready=s.ready/\(s.tickN T k).1.rs.length<=s.rs.length+10*k/\(∀ o,((s.tickN T k).1.zzf o).length<=10)/\∀ x:Nat,x<k->s.ready<=T->(s.tickN T k).1.zzf x≠[]->∃ c:Nat,c<4/\aw (s.tickN T k).1 T x c
 | 0,_=>⟨hp,rfl,by show s.rs.length<=_;omega,hq,fun x hx=>absurd hx (Nat.not_lt_zero _)⟩
 | k+1,hk=>by
  obtain⟨h1,h2,h3,h4,h5⟩:=zhc hT hp hq hl k (by omega)
  have hw:=h4 k
  have a:=zda hT (o:=k) (by omega) h1 (by omega)
  have e:(s.tickN T (k+1)).1=((s.tickN T k).1.zy1 k T).1:=rfl
  rw[e]
  have hsum:=zpa k T (((s.tickN T k).1.zzf k).length+1) (s.tickN T k).1
  have hsum':((s.tickN T k).1.zy1 k T).1.rs.length+(((s.tickN T k).1.zy1 k T).1.zzf k).length<=(s.tickN T k).1.rs.length+((s.tickN T k).1.zzf k).length:=by
   rcases hsum with q|q
   ·exact q
   ·have:=a.pw.up
    have q':((s.tickN T k).1.zy1 k T).1.down=true:=q
    rw[this] at q'
    cases q'
  refine⟨a.pw,a.rdy.trans h2,by omega,fun o=>?_,fun x hx hr hwx=>?_⟩
  ·by_cases eo:o=k
   ·subst eo
    have:=(znb T (s.tickN T o).1 o)
    omega
   ·rw[(a.oth o eo).1];exact h4 o
  ·by_cases ex:x=k
   ·subst ex
    obtain⟨c,hc,q⟩:=a.go (by rw[h2];exact hr) hwx
    exact⟨c,hc,(a.aw x c (by omega) hc).2 q⟩
   ·rw[(a.oth x ex).1] at hwx
    obtain⟨c,hc,q⟩:=h5 x (by omega) hr hwx
    exact⟨c,hc,(a.aw x c (by omega) hc).2 q⟩
def IsInv(s:Sv)(c o:Nat)(x:M):Prop:=x.k=9/\x.c=(c:Int)/\x.e=s.epoch/\x.o=(o:Int)/\x.v=s.vv o+1
def IsAck(s:Sv)(c o:Nat)(x:M):Prop:=x.k=4/\zy8 x.c=c/\x.e=s.epoch/\x.o=(o:Int)/\x.v=s.vv o+1
structure Hr(T:Int)(m:M)(s s':Sv)(l:List M):Prop where
 rdy:s'.ready=s.ready
 ep:s'.epoch=s.epoch
 pw:Pw s'
 hold:Hold s T->Hold s' T
 cl:∀ c o:Nat,c<4->o<8->s'.zzf o≠[]->aw s' T o c->(s.zzf o≠[]/\aw s T o c/\s'.vv o=s.vv o/\¬ (m.k=3/\zy8 m.c=c)/\¬ IsAck s c o m)\/∃ x∈l,IsInv s' c o x
theorem Hr.same{T:Int}{m:M}{s:Sv}{l:List M}(hp:Pw s)(h3:m.k≠3)(h4:∀ c o,¬ IsAck s c o m):Hr T m s s l:=
 ⟨rfl,rfl,hp,fun h=>h,fun c o _ _ hw ha=>.inl ⟨hw,ha,rfl,fun q=>h3 q.1,h4 c o⟩⟩
theorem noAck{s:Sv}{m:M}(h:m.k≠4)(c o:Nat):¬ IsAck s c o m:=fun q=>h q.1
theorem zt1{D:Lease.Dat}{k j:Lit}(h:j≠k)(d:Lease.Dat):(∀ z,(D.put k d).atKey j z=D.atKey j z)/\has (D.put k d) j=has D j:=⟨fun z=>atKey_put_other h _ z,has_put_other h _⟩
theorem zt2{D:Lease.Dat}{k j:Lit}(h:j≠k):(∀ z,(D.del k).atKey j z=D.atKey j z)/\has (D.del k) j=has D j:=⟨fun z=>atKey_del_other h z,has_del_other h⟩
theorem seat4(x:Int):zy8 x<4:=by unfold zy8;omega
theorem zx7{T:Int}{m:M}{s:Sv}(hp:Pw s)(hk:m.k=1){o0:Nat}(ho0:o0<8):Hr T m s (s.readS m o0 T).1 (s.readS m o0 T).2:=by
 unfold Sv.readS Sv.lent
 dsimp only
 split
 ·rename_i h0
  have h0':s.zzf o0 = []:=List.length_eq_zero_iff.1 h0
  have key:∀ c o:Nat,c<4->o<8->s.zzf o≠[]->(aw ({ s with D:=s.D.put (kk (zy8 m.c:Nat) o0) (Lease.num (mx (lentB s.D (zy8 m.c:Nat) o0) (T+s.to))),n:=s.n+1 }:Sv) T o c↔aw s T o c):=fun c o hc ho hw=>by
   have hne:o≠o0:=fun q=>hw (q▸h0')
   obtain⟨a,b⟩:=zt1 (D:=s.D) (k:=kk (zy8 m.c:Nat) o0) (j:=kk c o) (fun q=>hne (zd3 hc (seat4 m.c) ho ho0 q).2) (Lease.num (mx (lentB s.D (zy8 m.c:Nat) o0) (T+s.to)))
   unfold aw
   rw[show isH ({ s with D:=s.D.put (kk (zy8 m.c:Nat) o0) (Lease.num (mx (lentB s.D (zy8 m.c:Nat) o0) (T+s.to))),n:=s.n+1 }:Sv).D o T c=isH s.D o T c from ziv a b]
  exact⟨rfl,rfl,⟨hp.up,hp.pw⟩,fun h hr o ho hw=>(h hr o ho hw).imp fun c q=>⟨q.1,(key c o q.1 ho hw).2 q.2⟩,fun c o hc ho hw ha=>.inl ⟨hw,(key c o hc ho hw).1 ha,rfl,fun q=>by omega,noAck (by omega) c o⟩⟩
 ·exact Hr.same hp (by omega) (noAck (by omega))
theorem zyt{T:Int}(hT:0<=T){m:M}{s:Sv}(hp:Pw s)(hk:m.k=4){o0:Nat}(ho0:o0<8)(hmo:m.o=(o0:Int))(hl:s.rs.length+(s.zzf o0).length+1<=200):Hr T m s (s.release m o0 T).1 (s.release m o0 T).2:=by
 unfold Sv.release
 split
 ·rename_i hm
  have hp1:Pw (s.dropped (zy8 m.c) o0):=⟨hp.up,hp.pw⟩
  have a:=zda hT ho0 hp1 hl
  have key:∀ c o:Nat,c<4->o<8->¬ (c=zy8 m.c/\o=o0)->(aw (s.dropped (zy8 m.c) o0) T o c↔aw s T o c):=fun c o hc ho hne=>by
   obtain⟨a,b⟩:=zt2 (D:=s.D) (k:=kk (zy8 m.c:Nat) o0) (j:=kk c o) (fun q=>hne (zd3 hc (seat4 m.c) ho ho0 q))
   unfold aw
   rw[show isH (s.dropped (zy8 m.c) o0).D o T c=isH s.D o T c from ziv a b]
   exact Iff.rfl
  have gone:¬ aw (s.dropped (zy8 m.c) o0) T o0 (zy8 m.c):=fun q=>by
   have h1:=zj0 q.1
   have h2:has (s.D.del (kk (zy8 m.c:Nat) o0)) (kk (zy8 m.c:Nat) o0)=true:=h1
   rw[has_del_same] at h2
   cases h2
  refine⟨a.rdy,a.ep,a.pw,fun h=>Hold.adv a fun x hx hne hr hw=>?_,fun c o hc ho hw ha=>.inl ?_⟩
  ·obtain⟨c,hc,q⟩:=h hr x hx hw
   exact⟨c,hc,(key c x hc hx fun q=>hne q.2).2 q⟩
  ·have ha1:=(a.aw o c ho hc).1 ha
   by_cases e:o=o0
   ·subst e
    have hcd:c≠zy8 m.c:=fun q=>gone (q▸ha1)
    obtain⟨_,s2,s3⟩:=a.stuck c hc ha1
    rw[s2] at hw
    exact⟨hw,(key c o hc ho fun q=>hcd q.1).1 ha1,by rw[s3];rfl,fun q=>by omega,fun q=>hcd q.2.1.symm⟩
   ·rw[(a.oth o e).1] at hw
    exact⟨hw,(key c o hc ho fun q=>e q.2).1 ha1,(a.oth o e).2,fun q=>by omega,fun q=>e (by have:=q.2.2.2.1;omega)⟩
 ·rename_i hm
  refine Hr.same hp (by omega) fun c o q=>hm ⟨q.2.2.1,?_⟩
  have e:o=o0:=by have:=q.2.2.2.1;omega
  rw[<- e];exact q.2.2.2.2
theorem zwo{T:Int}(hT:0<=T){m:M}{s:Sv}(hp:Pw s)(hk:m.k=2){o0:Nat}(ho0:o0<8)(hl:s.rs.length+(s.zzf o0).length+2<=200):Hr T m s (s.writeS m o0 T).1 (s.writeS m o0 T).2:=by
 unfold Sv.writeS
 split
 ·exact Hr.same hp (by omega) (noAck (by omega))
 ·split
  ·exact Hr.same hp (by omega) (noAck (by omega))
  ·have hq:(s.enq m o0).1.D=s.D/\(s.enq m o0).1.vol=s.vol/\(s.enq m o0).1.ready=s.ready/\(s.enq m o0).1.epoch=s.epoch/\Pw (s.enq m o0).1/\(s.enq m o0).1.vv=s.vv/\(s.enq m o0).1.rs=s.rs/\((s.enq m o0).1.zzf o0).length<=(s.zzf o0).length+1/\∀ x,x≠o0->(s.enq m o0).1.zzf x=s.zzf x:=by
    unfold Sv.enq
    split
    ·exact⟨rfl,rfl,rfl,rfl,hp,rfl,rfl,Nat.le_succ _,fun _ _=>rfl⟩
    ·split
     ·exact⟨rfl,rfl,rfl,rfl,hp,rfl,rfl,Nat.le_succ _,fun _ _=>rfl⟩
     ·refine⟨rfl,rfl,rfl,rfl,⟨hp.up,hp.pw⟩,rfl,rfl,?_,fun x hx=>?_⟩
      ·show (zy9 s.zzf o0 _ o0).length<=_;rw[zaa];simp
      ·show zy9 s.zzf o0 _ x=_;unfold zy9;rw[if_neg hx]
   obtain⟨q1,q2,q3,q4,q5,q6,q7,q8,q9⟩:=hq
   split
   ·rename_i hf
    have e:(s.enq m o0).1=s:=by
     unfold Sv.enq at hf ⊢
     split
     ·rfl
     ·rename_i h1
      rw[if_neg h1] at hf
      split
      ·rfl
      ·rename_i h2
       rw[if_neg h2] at hf
       cases hf
    rw[e]
    exact Hr.same hp (by omega) (noAck (by omega))
   ·have a:=zda hT ho0 q5 (by rw[q7];omega)
    unfold Sv.wrote
    dsimp only
    have hA:=fun (x d:Nat) (hx:x<8) (hd:d<4)=>zf4 hT hx hd ((s.enq m o0).1.zy1 o0 T).1 o0
    obtain⟨e1,e2,e3,e4,e5⟩:=zak ((s.enq m o0).1.zy1 o0 T).1 o0 T
    have hp3:Pw (((s.enq m o0).1.zy1 o0 T).1.zyz o0 T).1:=by
     obtain⟨_,a2,_⟩:=zb0 T ho0 [] ((s.enq m o0).1.zy1 o0 T).1
     have hk:=za8 ((s.enq m o0).1.zy1 o0 T).1 o0 T
     refine⟨a2.trans a.pw.up,fun q=>?_⟩
     rw[hk.1] at q
     rw[hk.2.1,hk.2.2]
     exact a.pw.pw q
    have hh:Hold s T->Hold ((s.enq m o0).1.zy1 o0 T).1 T:=fun h=>Hold.adv a fun x hx hne hr hw=>by
     rw[q9 x hne] at hw
     obtain⟨c,hc,q⟩:=h (by rw[<- q3];exact hr) x hx hw
     exact⟨c,hc,(zj7 q1 q2 T x c).2 q⟩
    refine⟨e4.trans (a.rdy.trans q3),e5.trans (a.ep.trans q4),hp3,fun h hr o ho hw=>?_,fun c o hc ho hw ha=>?_⟩
    ·rw[e1] at hw
     rw[e4] at hr
     obtain⟨c,hc,q⟩:=hh h hr o ho hw
     exact⟨c,hc,(hA o c ho hc).2 q⟩
    ·rw[e1] at hw
     have ha2:=(hA o c ho hc).1 ha
     by_cases e:o=o0
     ·subst e
      right
      refine⟨Sv.invalM (((s.enq m o).1.zy1 o T).1.zyz o T).1 c o,List.mem_append_right _ (List.mem_map.2 ⟨(c:Int),(zc9 a.pw.up).2 ⟨hw,c,hc,rfl,ha2⟩,rfl⟩),rfl,rfl,rfl,rfl,rfl⟩
     ·left
      rw[(a.oth o e).1,q9 o e] at hw
      exact⟨hw,(zj7 q1 q2 T o c).1 ((a.aw o c ho hc).1 ha2),by rw[e2,(a.oth o e).2,q6],fun q=>by omega,noAck (by omega) c o⟩
end Wld
end
end Go.Proofs.YtbebfliimjjohabGreatDoor
