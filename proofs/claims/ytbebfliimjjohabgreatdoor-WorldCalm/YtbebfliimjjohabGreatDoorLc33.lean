/- Parts of the proof. -/
import Derived.Test.YtbebfliimjjohabGreatDoorLc32
import Derived.Test.YtbebfliimjjohabGreatDoorLc29
set_option maxRecDepth 100000
set_option maxHeartbeats 8000000
namespace Go.Proofs.YtbebfliimjjohabGreatDoor
section
namespace Wld
open Go.RowKit Go.Maps
open Lease (HasI)
open Cache (tp)
def CalmOk(t:Wd):Prop:=(t.sv=none->t.rs.length<200)/\∀ r∈t.rs,0<=r.c/\r.o<8
theorem WdB.restart'{w:Wd}{C:Nat}(h:WdB w C)(hl:w.sv=none->w.rs.length<200):WdB w.restart (C+1):=by
 cases hs:w.sv with
 | none=>exact h.restart (hl hs)
 | some v=>
  unfold Wd.restart
  rw[hs]
  exact h.mono (by omega)
theorem WdB.calmed{s:Wd}{C:Nat}(h:WdB s C)(n4:s.n<=4)(hok:CalmOk s):WdB s.calm1 (C+18000):=by
 have h1:=(h.restart' hok.1).calmK s.n (by rw[restart_n];exact Nat.le_refl _)
 have h2:=h1.goes (b:=1) (f:=fun k=>if k<s.n then 1 else 0) (by omega) (fun i _=>by split<;>omega)
 exact h2.zy5.mono (by omega)
theorem WdB.calm{s:Wd}{C:Nat}(h:WdB s C)(n4:s.n<=4):∀ r,(∀ j,j<r->CalmOk (s.calm j))->WdB (s.calm r) (C+18000*r)
 | 0,_=>h
 | r+1,hok=>((WdB.calm h n4 r fun j hj=>hok j (by omega)).calmed (by rw[calm_n];exact n4) (hok r (by omega))).mono (by omega)
structure Ca(w wr:World)(A:Wa)(s t:Wd)(B:Nat)(v:Value)(a:Ad):Prop where
 wd:WdIs wr { A with a:=a } t
 fz:Fz A s w { A with a:=a } t wr
 row:HasI wr B v (List.replicate (s.n+1) 1)
theorem Ca.next{w wr w':World}{A:Wa}{s t t':Wd}{B:Nat}{v:Value}{a a':Ad}(h:Ca w wr A s t B v a)(hw:WdIs w' { A with a:=a' } t')(hz:Fz { A with a:=a } t wr { A with a:=a' } t' w'):Ca w w' A s t' B v a':=
 ⟨hw,h.fz.trans hz,zht h.wd h.row hz⟩
theorem zc0(A:Wa)(s:Wd)(C rounds:Nat)(w:World)(h:WdIs w A s)(hB:WdB s C)(hC:C+18000*rounds<=800000000)(hok:∀ j,j<rounds->CalmOk (s.calm j)) :
  Calls Tryz.prog 12 #[tp A.Q,.int .i64 rounds] w fun e w'=>e = .returned (.tuple #[])/\∃ a,WdIs w' { A with a:=a } (s.calm rounds)/\Fz A s w { A with a:=a } (s.calm rounds) w':=by
 have n4:=h.n4
 have n1:=h.n1
 have hb1:Below w.heap.size w (w.alloc (.cells #[.int .i64 1] 3)):=(Below.refl _ _).alloc (Nat.le_refl _) _
 have hc1:(w.alloc (.cells #[.int .i64 1] 3)).cell? ⟨w.heap.size,0,none⟩=some (.int .i64 1):=by simp
 have hg1:w.heap.size<(w.alloc (.cells #[.int .i64 1] 3)).heap.size:=by simp
 have hre:=zqu w.heap.size (s.n+1) (by omega) _ hc1 hg1
 have hcast:((s.n+1:Nat):Int)=1+(s.n:Int):=by omega
 rw[hcast] at hre
 have hw1:IntKind.i64.wrap (1+(s.n:Int))=1+(s.n:Int):=wrapI (by omega) (by omega)
 obtain⟨x1,x2⟩:=h.below hb1
 have sts:=x1.core.sts
 have sts0:=h.core.sts
 have HB:Hid (∀ r,r<=rounds->WdB (s.calm r) (C+18000*r)):=fun r hr=>hB.calm n4 r fun j hj=>hok j (by omega)
 have HX:Hid (WdIs (w.alloc (.cells #[.int .i64 1] 3)) A s/\Fz A s w A s (w.alloc (.cells #[.int .i64 1] 3))):=⟨x1,x2⟩
 clear x1 x2 hc1 hg1 hb1 hB h hcast
 go_enter Tryz.func12,Tryz.ntmps12
 go_wp2_with fail
 refine hre.mono ?_
 rintro e w2 ⟨v,rfl,hrow,hb2⟩
 have HS0:Hid (Ca w w2 A s s (w.alloc (.cells #[.int .i64 1] 3)).heap.size v A.a):=by
  obtain⟨x1,x2⟩:=HX.out
  obtain⟨y1,y2⟩:=x1.below hb2
  exact⟨y1,x2.trans y2,hrow⟩
 generalize (w.alloc (.cells #[.int .i64 1] 3)).heap.size=B at *
 clear hre hrow hb2 HX sts sts0
 go_wp2_with fail
 go_loopw [15] (fun i wr=>∃ (r:Nat) (a:Ad),r<=rounds/\i = .int .i64 r/\Ca w wr A s (s.calm r) B v a) (fun i _=>rounds-(intOf i).toNat)
 case atStart=>exact⟨0,A.a,by omega,rfl,HS0.out⟩
 case round=>
  obtain⟨r,a,hr,rfl,D⟩:=hrel
  by_cases hlt:r<rounds
  ·have hrI:(r:Int)<(rounds:Int):=by omega
   have HE:Hid (s.calm (r+1)=(((s.calm r).restart.calmK s.n).goes 1 fun k=>if k<s.n then 1 else 0).zy5):=by
    unfold Hid
    show (s.calm r).calm1=_
    unfold Wd.calm1
    rw[calm_n]
   have hBr:=HB.out r (by omega)
   have hokr:=hok r hlt
   have hnr:=calm_n s r
   generalize s.calm r=t at *
   have hre:=zez { A with a:=a } t _ wr D.wd hBr (by omega) hokr.1 hokr.2
   have HBK:Hid (∀ k,k<=s.n->WdB (t.restart.calmK k) (C+18000*r+1+3562*k)):=fun k hk=>(hBr.restart' hokr.1).calmK k (by rw[restart_n,hnr];exact hk)
   have HNK:Hid (∀ k,(t.restart.calmK k).n=s.n):=fun k=>by rw[calmK_n,restart_n,hnr]
   have HD:Hid (Ca w wr A s t B v a):=D
   clear D hBr hokr hnr
   go_wp2_with fail
   refine hre.mono ?_
   rintro e w3 ⟨he,a3,W3,Z3⟩
   generalize eV (if t.sv.isSome=true then 6 else 0)=ev at he
   subst he
   have HD3:Hid (Ca w w3 A s (t.restart.calmK 0) B v a3):=HD.out.next W3 Z3
   have sts:=W3.core.sts
   rw[show t.restart.n=s.n from HNK.out 0] at sts
   clear hre W3 Z3 HD
   go_wp2_with fail
   go_loopw [24] (fun i wr=>∃ k:Nat,k<=s.n/\i = .int .i64 k/\Ca w wr A s (t.restart.calmK k) B v a3) (fun i _=>s.n-(intOf i).toNat)
   case atStart=>exact⟨0,by omega,rfl,HD3.out⟩
   case round=>
    obtain⟨k,hk,rfl,D⟩:=hrel
    by_cases hkn:k<s.n
    ·have hkI:(k:Int)<(s.n:Int):=by omega
     have hBk:=HBK.out k (by omega)
     have hnk:=HNK.out k
     have HEK:Hid (t.restart.calmK (k+1)=((t.restart.calmK k).again k).zy5):=rfl
     generalize t.restart.calmK k=u at *
     have hag:=zfs { A with a:=a3 } u k _ _ D.wd (by omega) hBk (by omega)
     have hBa:=hBk.again (i:=k) (by omega)
     clear hBk hnk
     have HD:Hid (Ca w wr A s u B v a3):=D
     clear D HD3
     go_wp2_with fail
     refine hag.mono ?_
     rintro e w4 ⟨rfl,W4,Z4⟩
     have HD4:Hid (Ca w w4 A s (u.again k) B v a3):=HD.out.next W4 Z4
     have hda:=zfb { A with a:=a3 } (u.again k) _ w4 W4 hBa (by omega)
     clear hag W4 Z4 HD
     go_wp2_with fail
     refine hda.mono ?_
     rintro e w5 ⟨rfl,W5,Z5⟩
     have HD5:Hid (Ca w w5 A s (u.again k).zy5 B v a3):=HD4.out.next W5 Z5
     clear hda W5 Z5 HD4 hBa
     go_wp2_with fail
     go_roundw
     case rel=>
      refine⟨k+1,by omega,by go_num,?_⟩
      rw[HEK.out]
      exact HD5.out
     case measure=>simp[intOf];omega
    ·obtain rfl:k=s.n:=by omega
     have hBk:=HBK.out s.n (by omega)
     have hnk:=HNK.out s.n
     generalize t.restart.calmK s.n=u at *
     have hgo:=zkw { A with a:=a3 } u _ B v (List.replicate (s.n+1) 1) _ D.wd hBk (by omega) D.row (by rw[List.length_replicate];omega) (fun x hx=>by rw[(List.mem_replicate.1 hx).2];omega) 1 (by simp) (fun k=>if k<s.n then 1 else 0) (fun k=>by
      rw[List.getD_eq_getElem?_getD,List.getElem?_replicate]
      by_cases q:k<s.n
      ·rw[if_pos (by omega),if_pos q];rfl
      ·rw[if_neg (by omega),if_neg q];rfl)
     have hBa:=hBk.goes (b:=1) (f:=fun k=>if k<s.n then 1 else 0) (by omega) (fun i _=>by split<;>omega)
     have HD:Hid (Ca w wr A s u B v a3):=D
     clear D HD3 hBk hnk
     generalize (u.goes 1 fun k=>if k<s.n then 1 else 0)=u2 at *
     go_wp2_with fail
     refine hgo.mono ?_
     rintro e w4 ⟨rfl,W4,Z4⟩
     have HD4:Hid (Ca w w4 A s u2 B v a3):=HD.out.next W4 Z4
     have hda:=zfb { A with a:=a3 } u2 _ w4 W4 hBa (by omega)
     clear hgo W4 Z4 HD
     go_wp2_with fail
     refine hda.mono ?_
     rintro e w5 ⟨rfl,W5,Z5⟩
     have HD5:Hid (Ca w w5 A s u2.zy5 B v a3):=HD4.out.next W5 Z5
     clear hda W5 Z5 HD4 hBa
     go_wp2_with fail
     go_roundw
     case rel=>
      refine⟨r+1,a3,by omega,by go_num,?_⟩
      rw[HE.out]
      exact HD5.out
     case measure=>simp[intOf];omega
  ·obtain rfl:r=rounds:=by omega
   have HD:Hid (Ca w wr A s (s.calm r) B v a):=D
   clear D HS0
   go_wp2_with fail
   go_end0
   exact⟨rfl,a,HD.out.wd,HD.out.fz⟩
end Wld
end
section
namespace Wld
open Go.RowKit Go.Maps
open Lease (upd zae zad hol dels mx kk)
open Wal (R mayB timeB)
open Num (M okB)
structure Hc where
 c:Int
 n:Int
 kd:Int
 o:Int
 d:ByteArray
 lo:Int
structure L4 where
 vv:Nat->Int
 vd:Nat->ByteArray
 last:Nat->R
 ep:Int
def L4.zero:L4:=⟨fun _=>0,fun _=>⟨#[]⟩,fun _=>⟨0,0,0,0,⟨#[]⟩,0⟩,0⟩
def L4.app(x:L4)(r:R):L4:=
 if r.o<0 then { x with ep:=r.e } else
 if later r.c r.n (x.last (zy8 r.c))=true then { x with vd:=zy9 x.vd r.o.toNat r.d,vv:=zy9 x.vv r.o.toNat r.v,last:=zy9 x.last (zy8 r.c) r }
 else { x with vd:=zy9 x.vd r.o.toNat r.d,vv:=zy9 x.vv r.o.toNat r.v }
def logL(rs:List R):L4:=rs.foldl L4.app L4.zero
def Sv.l4(s:Sv):L4:=⟨s.vv,s.vd,s.last,s.epoch⟩
theorem applied_l4(s:Sv)(r:R):(s.zy4 r).l4=s.l4.app r:=by
 unfold Sv.zy4 L4.app
 by_cases h:r.o<0
 ·rw[if_pos h,if_pos h];rfl
 ·rw[if_neg h,if_neg h]
  by_cases k:later r.c r.n (s.last (zy8 r.c))=true
  ·rw[if_pos k,if_pos (show later r.c r.n (s.l4.last (zy8 r.c))=true from k)];rfl
  ·rw[if_neg k,if_neg (show ¬ later r.c r.n (s.l4.last (zy8 r.c))=true from k)];rfl
theorem zmv:∀ (l:List R) (s:Sv),(l.foldl Sv.zy4 s).l4=l.foldl L4.app s.l4
 | [],_=>rfl
 | r :: l,s=>by rw[List.foldl_cons,List.foldl_cons,zmv l,applied_l4]
theorem logL_app(rs:List R)(r:R):logL (rs++[r])=(logL rs).app r:=by simp[logL,List.foldl_append]
structure LogIs(H:List Hc)(rs:List R)(x:L4):Prop where
 wr:∀ r∈rs,0<=r.o->r.o<8/\∃ h∈H,h.c=r.c/\h.n=r.n/\h.kd=2/\h.o=r.o/\h.d=r.d/\h.lo<r.v
 ver:∀ r∈rs,0<=r.o->1<=r.v/\r.v<=x.vv r.o.toNat
 uv:∀ r∈rs,∀ r'∈rs,0<=r.o->r.o=r'.o->r.v=r'.v->r=r'
 uc:rs.Pairwise fun a b=>0<=a.o->0<=b.o->¬ (a.c=b.c/\a.n=b.n)
 cur:∀ o:Nat,(x.vv o=0/\x.vd o=⟨#[]⟩)\/∃ r∈rs,r.o=o/\r.v=x.vv o/\r.d=x.vd o
 las:∀ r∈rs,0<=r.o->later r.c r.n (x.last (zy8 r.c))=false
 lin:∀ k,(x.last k)=⟨0,0,0,0,⟨#[]⟩,0⟩\/((x.last k)∈rs/\0<=(x.last k).o)
 eps:∀ r∈rs,r.o<0->r.e<=x.ep/\0<=r.c
 ep0:0<=x.ep
theorem LogIs.zero(H:List Hc):LogIs H [] L4.zero:=⟨by simp,by simp,by simp,by simp,fun _=>.inl ⟨rfl,rfl⟩,by simp,fun _=>.inl rfl,by simp,Int.le_refl 0⟩
theorem ztl(r:R):later r.c r.n r=false:=by simp[later]
theorem zn5{c n:Int}{a b:R}(h:later c n a=false)(k:later b.c b.n a=true):later c n b=false:=by
 simp only[later,Bool.or_eq_false_iff,Bool.or_eq_true,decide_eq_true_eq,decide_eq_false_iff_not,Bool.and_eq_true,Bool.and_eq_false_iff] at *
 omega
theorem LogIs.more{H:List Hc}{rs:List R}{x:L4}(h:LogIs H rs x){r:R}(h0:0<=r.o)(h8:r.o<8)(hv:r.v=x.vv r.o.toNat+1)(hv0:0<=x.vv r.o.toNat){g:Hc}(hg:g∈H)(g1:g.c=r.c)(g2:g.n=r.n)(g3:g.kd=2)(g4:g.o=r.o)(g5:g.d=r.d)(g6:g.lo<=x.vv r.o.toNat)
  (hn:∀ a∈rs,0<=a.o->¬ (a.c=r.c/\a.n=r.n)):LogIs H (rs++[r]) (x.app r):=by
 have hneg:¬ r.o<0:=by omega
 have evv:(x.app r).vv=zy9 x.vv r.o.toNat r.v:=by
  unfold L4.app;rw[if_neg hneg];split<;>rfl
 have evd:(x.app r).vd=zy9 x.vd r.o.toNat r.d:=by
  unfold L4.app;rw[if_neg hneg];split<;>rfl
 have eep:(x.app r).ep=x.ep:=by
  unfold L4.app;rw[if_neg hneg];split<;>rfl
 have ela:(x.app r).last=if later r.c r.n (x.last (zy8 r.c))=true then zy9 x.last (zy8 r.c) r else x.last:=by
  unfold L4.app;rw[if_neg hneg];split<;>rfl
 have old:∀ a∈rs,0<=a.o->a.o=r.o->a.v<r.v:=fun a ha a0 e=>by
  have:=(h.ver a ha a0).2
  rw[e] at this
  omega
 refine⟨?_,?_,?_,?_,?_,?_,?_,?_,by rw[eep];exact h.ep0⟩
 ·intro a ha a0
  rcases List.mem_append.1 ha with q|q
  ·exact h.wr a q a0
  ·rw[List.mem_singleton.1 q];exact⟨h8,g,hg,g1,g2,g3,g4,g5,by omega⟩
 ·intro a ha a0
  rw[evv]
  rcases List.mem_append.1 ha with q|q
  ·have:=h.ver a q a0
   unfold zy9
   split
   ·rename_i e
    have:a.v<r.v:=old a q a0 (by omega)
    omega
   ·exact this
  ·rw[List.mem_singleton.1 q,zaa];omega
 ·intro a ha b hb a0 e1 e2
  rcases List.mem_append.1 ha with q|q<;>rcases List.mem_append.1 hb with p|p
  ·exact h.uv a q b p a0 e1 e2
  ·rw[List.mem_singleton.1 p] at e1 e2
   have:=old a q a0 e1
   omega
  ·rw[List.mem_singleton.1 q] at e1 e2
   have:=old b p (by omega) e1.symm
   omega
  ·rw[List.mem_singleton.1 p,List.mem_singleton.1 q]
 ·rw[List.pairwise_append]
  refine⟨h.uc,by simp,fun a ha b hb a0 _=>?_⟩
  rw[List.mem_singleton.1 hb]
  exact hn a ha a0
 ·intro o
  rw[evv,evd]
  by_cases e:o=r.o.toNat
  ·subst e
   rw[zaa,zaa]
   exact .inr ⟨r,by simp,by omega,rfl,rfl⟩
  ·rw[zag _ _ e,zag _ _ e]
   exact(h.cur o).imp id fun ⟨a,ha,k⟩=>⟨a,List.mem_append_left _ ha,k⟩
 ·intro a ha a0
  rw[ela]
  rcases List.mem_append.1 ha with q|q
  ·have k:=h.las a q a0
   split
   ·rename_i hl
    by_cases e:zy8 a.c=zy8 r.c
    ·rw[e,zaa];rw[e] at k;exact zn5 k hl
    ·rw[zag _ _ e];exact k
   ·exact k
  ·rw[List.mem_singleton.1 q]
   split
   ·rw[zaa];exact ztl r
   ·rename_i hl;simpa using hl
 ·intro k
  rw[ela]
  split
  ·by_cases e:k=zy8 r.c
   ·subst e;rw[zaa];exact .inr ⟨by simp,h0⟩
   ·rw[zag _ _ e];exact(h.lin k).imp id fun p=>⟨List.mem_append_left _ p.1,p.2⟩
  ·exact(h.lin k).imp id fun p=>⟨List.mem_append_left _ p.1,p.2⟩
 ·intro a ha a0
  rw[eep]
  rcases List.mem_append.1 ha with q|q
  ·exact h.eps a q a0
  ·rw[List.mem_singleton.1 q] at a0;omega
theorem LogIs.epoch{H:List Hc}{rs:List R}{x:L4}(h:LogIs H rs x)(e:Int)(he:x.ep<=e):LogIs H (rs++[epochR e]) (x.app (epochR e)):=by
 have ex:x.app (epochR e) = { x with ep:=e }:=rfl
 have eo:(epochR e).o = -1:=rfl
 rw[ex]
 refine⟨?_,?_,?_,?_,?_,?_,?_,?_,Int.le_trans h.ep0 he⟩
 ·intro a ha a0
  rcases List.mem_append.1 ha with q|q
  ·exact h.wr a q a0
  ·rw[List.mem_singleton.1 q,eo] at a0;omega
 ·intro a ha a0
  rcases List.mem_append.1 ha with q|q
  ·exact h.ver a q a0
  ·rw[List.mem_singleton.1 q,eo] at a0;omega
 ·intro a ha b hb a0 e1 e2
  rcases List.mem_append.1 ha with q|q<;>rcases List.mem_append.1 hb with p|p
  ·exact h.uv a q b p a0 e1 e2
  ·rw[List.mem_singleton.1 p,eo] at e1;omega
  ·rw[List.mem_singleton.1 q,eo] at a0;omega
  ·rw[List.mem_singleton.1 q,eo] at a0;omega
 ·rw[List.pairwise_append]
  refine⟨h.uc,by simp,fun a ha b hb _ b0=>?_⟩
  rw[List.mem_singleton.1 hb,eo] at b0;omega
 ·intro o
  exact(h.cur o).imp id fun ⟨a,ha,k⟩=>⟨a,List.mem_append_left _ ha,k⟩
 ·intro a ha a0
  rcases List.mem_append.1 ha with q|q
  ·exact h.las a q a0
  ·rw[List.mem_singleton.1 q,eo] at a0;omega
 ·intro k
  exact(h.lin k).imp id fun p=>⟨List.mem_append_left _ p.1,p.2⟩
 ·intro a ha a0
  rcases List.mem_append.1 ha with q|q
  ·have:=h.eps a q a0
   show a.e<=e/\0<=a.c
   omega
  ·rw[List.mem_singleton.1 q];exact⟨Int.le_refl _,Int.le_refl 0⟩
theorem LogIs.mono{H H':List Hc}{rs:List R}{x:L4}(h:LogIs H rs x)(hH:∀ g∈H,g∈H'):LogIs H' rs x:=
 ⟨fun r hr r0=>⟨(h.wr r hr r0).1,(h.wr r hr r0).2.imp fun g k=>⟨hH g k.1,k.2⟩⟩,h.ver,h.uv,h.uc,h.cur,h.las,h.lin,h.eps,h.ep0⟩
theorem LogIs.vv0{H:List Hc}{rs:List R}{x:L4}(h:LogIs H rs x)(o:Nat):0<=x.vv o:=by
 rcases h.cur o with k|⟨r,hr,e1,e2,_⟩
 ·omega
 ·have:=(h.ver r hr (by omega)).1;omega
theorem zmw:∀ (n:Nat) (l:List Nat),l.Nodup->(∀ x∈l,x<n)->l.length<=n
 | 0,l,_,h=>by
  cases l with
  | nil=>simp
  | cons a l=>exact absurd (h a (by simp)) (by omega)
 | n+1,l,hn,h=>by
  have h1:(l.filter (fun x=>decide (x≠n))).length<=n:=zmw n _ (hn.filter _) fun x hx=>by
   have h2:=List.mem_filter.1 hx
   have h3:=h x h2.1
   have h4:x≠n:=by simpa using h2.2
   omega
  have h5:∀ (l:List Nat),l.Nodup->l.length<=(l.filter (fun x=>decide (x≠n))).length+1:=by
   intro l
   induction l with
   | nil=>simp
   | cons a l ih=>
    intro hd
    have hd':=List.nodup_cons.1 hd
    by_cases e:a=n
    ·have e2:l.filter (fun x=>decide (x≠n))=l:=List.filter_eq_self.2 fun x hx=>by
      have:x≠n:=by rintro rfl;subst e;exact hd'.1 hx
      simpa using this
     rw[List.filter_cons,if_neg (by simp[e]),e2]
     simp
    ·rw[List.filter_cons,if_pos (by simpa using e)]
     have:=ih hd'.2
     simp only[List.length_cons]
     omega
  have:=h5 l hn
  omega
theorem zqv{H:List Hc}{g:Hc}(h:g∈H):∃ i:Nat,H[i]?=some g:=List.getElem?_of_mem h
theorem LogIs.count{H:List Hc}{rs:List R}{x:L4}(h:LogIs H rs x):(rs.filter fun r=>decide (0<=r.o)).length<=H.length:=by
 have key:∀ (l:List R),(∀ r∈l,r∈rs/\0<=r.o)->(l.Pairwise fun a b=>0<=a.o->0<=b.o->¬ (a.c=b.c/\a.n=b.n))->∃ is:List Nat,is.length=l.length/\is.Nodup/\(∀ i∈is,i<H.length)/\∀ i∈is,∃ g,H[i]?=some g/\∃ r∈l,g.c=r.c/\g.n=r.n:=by
  intro l
  induction l with
  | nil=>exact fun _ _=>⟨[],rfl,by simp,by simp,by simp⟩
  | cons r l ih=>
   intro hl hp
   obtain⟨is,h1,h2,h3,h4⟩:=ih (fun r hr=>hl r (List.mem_cons_of_mem _ hr)) (List.pairwise_cons.1 hp).2
   obtain⟨_,g,hg,g1,g2,_⟩:=h.wr r (hl r (by simp)).1 (hl r (by simp)).2
   obtain⟨i,hi⟩:=zqv hg
   have hlt:i<H.length:=(List.getElem?_eq_some_iff.1 hi).1
   refine⟨i :: is,by simp[h1],List.nodup_cons.2 ⟨fun hm=>?_,h2⟩,?_,?_⟩
   ·obtain⟨g',hg',r',hr',e1,e2⟩:=h4 i hm
    rw[hi] at hg'
    injection hg' with hg'
    subst hg'
    exact(List.pairwise_cons.1 hp).1 r' hr' (hl r (by simp)).2 (hl r' (List.mem_cons_of_mem _ hr')).2 ⟨by omega,by omega⟩
   ·intro j hj
    rcases List.mem_cons.1 hj with e|e
    ·omega
    ·exact h3 j e
   ·intro j hj
    rcases List.mem_cons.1 hj with e|e
    ·subst e;exact⟨g,hi,r,by simp,g1,g2⟩
    ·obtain⟨g',hg',r',hr',e'⟩:=h4 j e
     exact⟨g',hg',r',List.mem_cons_of_mem _ hr',e'⟩
 obtain⟨is,h1,h2,h3,_⟩:=key (rs.filter fun r=>decide (0<=r.o)) (fun r hr=>by have:=List.mem_filter.1 hr;exact⟨this.1,by simpa using this.2⟩) (h.uc.filter _)
 have:=zmw H.length is h2 h3
 omega
end Wld
end
section
namespace Wld
open Go.RowKit Go.Maps
open Lease (upd zae zad hol dels mx kk isH)
open Wal (R mayB timeB)
open Num (M okB)
inductive S1 (T:Int):Sv->List M->Sv->List M->Prop where
 | flush (s:Sv) (L:List M) (c:Nat) (hc:c<4) (hv:¬ T<s.vol c):S1 T s L (s.flushed c) L
 | commit (s:Sv) (L:List M) (o:Nat) (m:M) (rest:List M) (ho:o<8) (hd:s.down=false) (hw:s.zzf o=m :: rest) (hr:s.ready<=T) (hh:∀ c:Nat,c<4->isH s.D o T c=false) (ok:(s.commit m o).2.2=true) :
   S1 T s L { (s.commit m o).1 with zzf:=zy9 (s.commit m o).1.zzf o rest } (L++[Sv.doneM { (s.commit m o).1 with zzf:=zy9 (s.commit m o).1.zzf o rest } m (s.commit m o).2.1])
 | fall (s:Sv) (L:List M) (o:Nat) (m:M) (rest:List M) (ho:o<8) (hd:s.down=false) (hw:s.zzf o=m :: rest) (ok:(s.commit m o).2.2=false):S1 T s L (s.commit m o).1 L
 | enq (s:Sv) (L:List M) (o:Nat) (m:M) (ho:o<8) (hd:s.down=false) (hm:m∈L) (hk:m.k=2) (h0:m.o=o) (hc:0<=m.c) (hl:later m.c m.n (s.last (zy8 m.c))=true) (hs:(s.zzf o).any (sameW m.c m.n)=false) (h10:(s.zzf o).length<10) :
   S1 T s L { s with zzf:=zy9 s.zzf o (s.zzf o++[m]) } L
 | value (s:Sv) (L:List M) (o:Nat) (m:M) (ho:o<8) (hd:s.down=false) (hm:m∈L) (hk:m.k=1) (h0:m.o=o) (hc:0<=m.c):S1 T s L (s.lent m o T) (L++[s.valueM m o])
 | grant (s:Sv) (L:List M) (m:M) (hd:s.down=false) (hm:m∈L) (hk:m.k=3) (hc:0<=m.c) (he:m.e=s.epoch) (hs:m.s=s.ses (zy8 m.c:Nat)):S1 T s L { s with vol:=upd s.vol (zy8 m.c:Nat) (mx (s.vol (zy8 m.c:Nat)) (T+s.tv)) } (L++[s.answer 7 m])
 | flushM (s:Sv) (L:List M) (m:M) (hd:s.down=false) (hm:m∈L) (hk:m.k=3) (hc:0<=m.c) (he:m.e≠s.epoch\/m.s≠s.ses (zy8 m.c:Nat)):S1 T s L s (L++[s.answer 8 m])
 | inval (s:Sv) (L:List M) (c o:Nat) (hc:c<4) (ho:o<8) (hd:s.down=false) (hw:s.zzf o≠[]):S1 T s L s (L++[s.invalM c o])
 | drop (s:Sv) (L:List M) (o:Nat) (m:M) (ho:o<8) (hd:s.down=false) (hm:m∈L) (hk:m.k=4) (h0:m.o=o) (hc:0<=m.c) (he:m.e=s.epoch) (hv:m.v=s.vv o+1):S1 T s L (s.dropped (zy8 m.c) o) L
 | redone (s:Sv) (L:List M) (m:M) (hd:s.down=false) (hm:m∈L) (hk:m.k=2) (h0:0<=m.o) (h8:m.o<8) (hc:0<=m.c) (h1:m.c=(s.last (zy8 m.c)).c) (h2:m.n=(s.last (zy8 m.c)).n):S1 T s L s (L++[s.doneM m (s.last (zy8 m.c)).v])
inductive Ss (T:Int):Sv->List M->Sv->List M->Prop where
 | refl (s:Sv) (L:List M):Ss T s L s L
 | head {s:Sv} {L:List M} {s1:Sv} {L1:List M} {s2:Sv} {L2:List M} (h:S1 T s L s1 L1) (t:Ss T s1 L1 s2 L2):Ss T s L s2 L2
theorem Ss.trans{T:Int}{s:Sv}{L:List M}{s1:Sv}{L1:List M}{s2:Sv}{L2:List M}(h:Ss T s L s1 L1)(k:Ss T s1 L1 s2 L2):Ss T s L s2 L2:=by
 induction h with
 | refl=>exact k
 | head h _ ih=>exact .head h (ih k)
theorem Ss.one{T:Int}{s:Sv}{L:List M}{s1:Sv}{L1:List M}(h:S1 T s L s1 L1):Ss T s L s1 L1:=.head h (.refl _ _)
theorem Ss.to{T:Int}{s:Sv}{L:List M}{s1:Sv}{L1 L2:List M}(h:Ss T s L s1 L1)(e:L1=L2):Ss T s L s1 L2:=e▸h
theorem zfw{D:Lease.Dat}{j k:Lit}(h:Maps.has (D.del k) j=true):Maps.has D j=true/\j≠k/\∀ z,(D.del k).atKey j z=D.atKey j z:=by
 by_cases e:j=k
 ·subst e;rw[has_del_same] at h;cases h
 ·rw[has_del_other e] at h;exact⟨h,e,fun z=>atKey_del_other e z⟩
theorem zj0{D:Lease.Dat}{o T:Int}{c:Nat}(h:isH D o T c=true):Maps.has D (kk c o)=true:=by
 unfold Lease.isH at h
 split at h
 ·simp only[Bool.and_eq_true] at h;exact h.1
 ·cases h
theorem zx1{D:Lease.Dat}{o T:Int}{c:Nat}{k:Lit}(h:isH (D.del k) o T c=true):isH D o T c=true/\kk c o≠k:=by
 obtain⟨h1,h2,h3⟩:=zfw (zj0 h)
 refine⟨?_,h2⟩
 unfold Lease.isH at h ⊢
 rw[<- h3]
 split at h
 ·rw[has_del_other h2] at h;exact h
 ·cases h
theorem zfx{D:Lease.Dat}{o T:Int}{c:Nat}{x:Int}:∀ n,isH (dels D x n) o T c=true->isH D o T c=true/\∀ i:Nat,i<n->kk c o≠kk x i
 | 0,h=>⟨h,fun i hi=>by omega⟩
 | n+1,h=>by
  obtain⟨h1,h2⟩:=zx1 h
  obtain⟨h3,h4⟩:=zfx n h1
  refine⟨h3,fun i hi=>?_⟩
  by_cases e:i=n
  ·subst e;exact h2
  ·exact h4 i (by omega)
theorem zj1{D:Lease.Dat}{o T:Int}{c k:Nat}(h:isH D o T c=true)(hc:c<k):(c:Int)∈hol D o T k:=by
 unfold Lease.hol
 exact List.mem_map.2 ⟨c,List.mem_filter.2 ⟨List.mem_range.2 hc,h⟩,rfl⟩
theorem zin(T:Int)(o:Nat)(ho:o<8)(L:List M):∀ (cs:List Int) (s:Sv),(∀ c∈cs,∃ n:Nat,n<4/\c=(n:Int))->Ss T s L (s.await T cs).1 L/\(s.await T cs).1.down=s.down/\((s.await T cs).2 = []->∀ c:Nat,isH (s.await T cs).1.D o T c=true->isH s.D o T c=true/\(c:Int)∉cs)
 | [],s,_=>⟨.refl _ _,rfl,fun _ _ h=>⟨h,by simp⟩⟩
 | c :: cs,s,hcs=>by
  rw[za1]
  by_cases hv:T<s.vol c
  ·rw[if_pos hv]
   obtain⟨h1,h2,_⟩:=zin T o ho L cs s fun x hx=>hcs x (List.mem_cons_of_mem _ hx)
   exact⟨h1,h2,fun h=>by simp at h⟩
  ·rw[if_neg hv]
   obtain⟨n,hn,rfl⟩:=hcs c (by simp)
   obtain⟨h1,h2,h3⟩:=zin T o ho L cs (s.flushed n) fun x hx=>hcs x (List.mem_cons_of_mem _ hx)
   refine⟨.head (.flush s L n hn hv) h1,h2,fun h x hx=>?_⟩
   obtain⟨h4,h5⟩:=h3 h x hx
   obtain⟨h6,h7⟩:=zfx (D:=s.D) 8 h4
   refine⟨h6,fun hm=>?_⟩
   rcases List.mem_cons.1 hm with e|e
   ·exact h7 o ho (by rw[e])
   ·exact h5 e
theorem zb0(T:Int){o:Nat}(ho:o<8)(L:List M)(s:Sv):Ss T s L (s.zyz o T).1 L/\(s.zyz o T).1.down=s.down/\(s.down=false->(s.zzf o).length≠0->(s.zyz o T).2 = []->∀ c:Nat,c<4->isH (s.zyz o T).1.D o T c=false):=by
 unfold Sv.zyz
 split
 ·rename_i h;exact⟨.refl _ _,rfl,fun h1 h2=>by rcases h with h|h<;>simp_all⟩
 ·obtain⟨h1,h2,h3⟩:=zin T o ho L (hol s.D o T 4) s fun c hc=>zhq hc
  refine⟨h1,h2,fun _ _ he c hc=>?_⟩
  cases hx:isH (s.await T (hol s.D o T 4)).1.D o T c
  ·rfl
  ·obtain⟨h4,h5⟩:=h3 he c hx
   exact absurd (zj1 h4 hc) h5
theorem zk0(T:Int)(s:Sv){o:Nat}(ho:o<8)(hd:s.down=false)(hw:s.zzf o≠[]):∀ (cs:List Int) (L:List M),(∀ c∈cs,∃ n:Nat,n<4/\c=(n:Int))->Ss T s L s (L++cs.map fun c=>s.invalM c o)
 | [],L,_=>by simpa using .refl _ _
 | c :: cs,L,h=>by
  obtain⟨n,hn,rfl⟩:=h c (by simp)
  exact .head (.inval s L n o hn ho hd hw) ((zk0 T s ho hd hw cs (L++[s.invalM n o]) fun x hx=>h x (List.mem_cons_of_mem _ hx)).to (by simp))
theorem zg2(s:Sv)(o:Nat)(T:Int)(h:s.down=true):(s.zyz o T)=(s,[]):=by unfold Sv.zyz;rw[if_pos (.inl h)]
theorem ztm(T:Int){o:Nat}(ho:o<8):∀ (f:Nat) (s:Sv) (L:List M),s.down=false->Ss T s L (s.adv o T f).1 (L++(s.adv o T f).2)
 | 0,s,L,_=>by simpa[Sv.adv] using Ss.refl s L
 | f+1,s,L,hd=>by
  obtain⟨h1,h2,h3⟩:=zb0 T ho L s
  obtain⟨e1,_,_,e4,_⟩:=zak s o T
  unfold Sv.adv
  split
  ·simpa using Ss.refl s L
  ·rename_i hn
   split
   ·simpa using h1
   ·rename_i ha
    split
    ·simpa using h1
    ·rename_i m rest hm
     have hl:(s.zyz o T).2 = []:=by simpa using ha
     have hr:(s.zyz o T).1.ready<=T:=by rw[e4];omega
     have hh:=h3 hd (by omega) hl
     have hd1:(s.zyz o T).1.down=false:=h2.trans hd
     split
     ·rename_i hf
      simpa using h1.trans (.one (.fall _ L o m rest ho hd1 hm hf))
     ·rename_i hf
      have hok:((s.zyz o T).1.commit m o).2.2=true:=by simpa using hf
      have hd2:((s.zyz o T).1.commit m o).1.down=false:=by
       unfold Sv.commit at hok ⊢
       split
       ·rename_i hz
        unfold Sv.add at hz ⊢
        rw[if_neg (by simp[hd1])] at hz ⊢
        split at hz
        ·simp at hz
        ·rename_i h200
         rw[if_neg h200]
         split at hz
         ·simp at hz
         ·rename_i hff
          rw[if_neg hff]
          have ho':¬ ((s.zyz o T).1.recd m o).o<0:=by show ¬ (o:Int)<0;omega
          obtain⟨_,_,_,h4,_⟩:=za7 { (s.zyz o T).1 with rs:=(s.zyz o T).1.rs++[(s.zyz o T).1.recd m o],left:=if (s.zyz o T).1.fails=true then (s.zyz o T).1.left-1 else (s.zyz o T).1.left } ((s.zyz o T).1.recd m o)
          exact h4.trans hd1
       ·rename_i hz
        rw[if_neg hz] at hok
        simpa using hok
      exact h1.trans (.head (.commit _ L o m rest ho hd1 hm hr hh hok) ((ztm T ho f { ((s.zyz o T).1.commit m o).1 with zzf:=zy9 ((s.zyz o T).1.commit m o).1.zzf o rest } _ hd2).to (by simp)))
theorem zfy(T:Int){o:Nat}(ho:o<8)(s:Sv)(L:List M)(hd:s.down=false):Ss T s L (s.zy1 o T).1 (L++(s.zy1 o T).2):=ztm T ho _ s L hd
theorem ztn(T:Int)(o:Nat):∀ (f:Nat) (s:Sv),s.down=true->(s.adv o T f)=(s,[])
 | 0,s,h=>rfl
 | f+1,s,h=>by
  unfold Sv.adv
  rw[zg2 s o T h]
  split
  ·rfl
  ·split
   ·rfl
   ·split
    ·rfl
    ·rename_i m rest hm
     have hc:(s.commit m o)=(s,0,false):=by unfold Sv.commit Sv.add;rw[if_pos h];simp[h]
     dsimp only
     rw[hc]
     rfl
theorem zn6(T:Int){o:Nat}(ho:o<8)(s:Sv)(L:List M):Ss T s L (s.zy1 o T).1 (L++(s.zy1 o T).2):=by
 cases hd:s.down
 ·exact zfy T ho s L hd
 ·unfold Sv.zy1;rw[ztn T o _ s hd];simpa using Ss.refl s L
theorem zk1(T:Int)(c:Nat)(hc:c<4)(s:Sv)(hd:s.down=false)(L:List M):∀ k,k<=8->Ss T s L (s.zy0 c T k).1 (L++(s.zy0 c T k).2)/\(s.zy0 c T k).1.down=false
 | 0,_=>⟨by simpa[Sv.zy0] using Ss.refl s L,hd⟩
 | k+1,hk=>by
  obtain⟨h1,h2⟩:=zk1 T c hc s hd L k (by omega)
  obtain⟨h3,h4,_⟩:=zb0 T (show k<8 by omega) (L++(s.zy0 c T k).2) (s.zy0 c T k).1
  obtain⟨e1,_⟩:=zak (s.zy0 c T k).1 k T
  show Ss T s L ((s.zy0 c T k).1.zyz k T).1 (L++((s.zy0 c T k).2++_))/\((s.zy0 c T k).1.zyz k T).1.down=false
  refine⟨?_,h4.trans h2⟩
  have h5:=h1.trans h3
  split
  ·rename_i hh
   have hw:((s.zy0 c T k).1.zyz k T).1.zzf k≠[]:=by
    rw[e1]
    intro e
    have:((s.zy0 c T k).1.zyz k T).2 = []:=by unfold Sv.zyz;rw[if_pos (.inr (by rw[e];rfl))]
    rw[this] at hh
    simp[hasN] at hh
   exact(h5.trans (.one (.inval _ _ c k hc (by omega) (h4.trans h2) hw))).to (by simp)
  ·exact h5.to (by simp)
theorem zc1(T:Int)(s:Sv)(L:List M):∀ k,k<=8->Ss T s L (s.tickN T k).1 (L++(s.tickN T k).2)
 | 0,_=>by simpa[Sv.tickN] using Ss.refl s L
 | k+1,hk=>by
  have h1:=zc1 T s L k (by omega)
  have h2:=zn6 T (show k<8 by omega) (s.tickN T k).1 (L++(s.tickN T k).2)
  exact(h1.trans h2).to (by simp[Sv.tickN])
theorem zdt(T:Int)(s:Sv)(L:List M)(m:M)(hm:m∈L):Ss T s L (s.hear m T).1 (L++(s.hear m T).2):=by
 unfold Sv.hear
 split
 ·simpa using Ss.refl s L
 ·rename_i hn
  have hd:s.down=false:=by
   cases h:s.down
   ·rfl
   ·exact absurd (.inl h) hn
  have hc:0<=m.c:=by omega
  have ho:m.o.toNat<8:=by omega
  have h0:m.o=(m.o.toNat:Int):=by omega
  split
  ·rename_i hk
   exact .one (.value s L _ m ho hd hm hk h0 hc)
  ·split
   ·rename_i hk
    unfold Sv.writeS
    split
    ·rename_i h;exact .one (.redone s L m hd hm hk (by omega) (by omega) hc h.1 h.2)
    ·split
     ·simpa using Ss.refl s L
     ·rename_i hl
      have hl':later m.c m.n (s.last (zy8 m.c))=true:=by simpa using hl
      have he:Ss T s L (s.enq m m.o.toNat).1 L/\(s.enq m m.o.toNat).1.down=false/\((s.enq m m.o.toNat).2≠false->(s.enq m m.o.toNat).1.zzf m.o.toNat≠[]):=by
       unfold Sv.enq
       split
       ·rename_i ha
        refine⟨.refl _ _,hd,fun _ e=>?_⟩
        rw[e] at ha
        simp at ha
       ·rename_i ha
        split
        ·exact⟨.refl _ _,hd,fun h=>absurd rfl h⟩
        ·exact⟨.one (.enq s L _ m ho hd hm hk h0 hc hl' (by simpa using ha) (by omega)),hd,fun _=>by simp[zy9]⟩
      split
      ·simpa using he.1
      ·rename_i hq
       unfold Sv.wrote
       have h1:=zfy T ho (s.enq m m.o.toNat).1 L he.2.1
       obtain⟨h2,h3,_⟩:=zb0 T ho (L++((s.enq m m.o.toNat).1.zy1 m.o.toNat T).2) ((s.enq m m.o.toNat).1.zy1 m.o.toNat T).1
       have h4:=(he.1.trans h1).trans h2
       dsimp only
       cases hdd:((s.enq m m.o.toNat).1.zy1 m.o.toNat T).1.down
       ·by_cases hw:(((s.enq m m.o.toNat).1.zy1 m.o.toNat T).1.zzf m.o.toNat) = []
        ·have:(((s.enq m m.o.toNat).1.zy1 m.o.toNat T).1.zyz m.o.toNat T).2 = []:=by unfold Sv.zyz;rw[if_pos (.inr (by rw[hw];rfl))]
         rw[this]
         exact h4.to (by simp)
        ·obtain⟨e1,_⟩:=zak ((s.enq m m.o.toNat).1.zy1 m.o.toNat T).1 m.o.toNat T
         exact(h4.trans (zk0 T _ ho (h3.trans hdd) (by rw[e1];exact hw) _ _ (zew _ _ _))).to (List.append_assoc _ _ _)
       ·rw[zg2 _ _ _ hdd] at h4 ⊢
        exact h4.to (by simp)
   ·split
    ·rename_i hk
     obtain⟨h1,h2⟩:=zk1 T (zy8 m.c) (zbd _) s hd L 8 (by omega)
     unfold Sv.renewS
     split
     ·exact h1
     ·rename_i hz
      have hz':(s.zy0 (zy8 m.c:Nat) T 8).2 = []:=by simpa using hz
      rw[hz',List.append_nil] at h1
      split
      ·rename_i hq
       exact h1.trans (.one (.flushM _ L m h2 hm hk hc hq))
      ·rename_i hq
       exact h1.trans (.one (.grant _ L m h2 hm hk hc (by omega) (by omega)))
    ·split
     ·rename_i hk
      unfold Sv.release
      split
      ·rename_i h
       exact .head (.drop s L _ m ho hd hm hk h0 hc h.1 h.2) (zfy T ho _ L hd)
      ·simpa using Ss.refl s L
     ·simpa using Ss.refl s L
end Wld
end
end Go.Proofs.YtbebfliimjjohabGreatDoor
