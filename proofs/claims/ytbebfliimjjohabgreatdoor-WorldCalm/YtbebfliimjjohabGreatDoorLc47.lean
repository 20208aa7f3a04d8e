/- Parts of the proof. -/
import Derived.Test.YtbebfliimjjohabGreatDoorLc37
import Derived.Test.YtbebfliimjjohabGreatDoorLc46
import Derived.Test.YtbebfliimjjohabGreatDoorLc25
import Derived.Test.YtbebfliimjjohabGreatDoorLc04
import Derived.Maps.RangeWalk
set_option maxRecDepth 100000
set_option maxHeartbeats 8000000
namespace Go.Proofs.YtbebfliimjjohabGreatDoor
section
namespace Wld
open Go.RowKit Go.Maps
open Lease (Ob I64 upd TabIs hol dels objB HasI zaj zaw mx)
open Cache (tp zab zac)
open Num (M okB strOf ints)
open Clock (zal)
open Wal (R WalIs zzb Oq Fw rcells)
open Net (NetIs Only pcells hasB)
theorem WdIs.notFoot{w:World}{A:Wa}{s:Wd}(h:WdIs w A s){T:Nat}{t:TypeId}(hT:isC w T t)(h1:t≠81)(h2:t≠90)(h3:t≠45)(h4:t≠162)(h5:t≠144/\t≠296/\t≠301/\t≠138/\t≠129):¬ wfoot w A s T:=fun f=>by
 rcases f with f|f|⟨v,f1,f2⟩|⟨i,hi,f⟩|⟨i,hi,f⟩|⟨f1,f2⟩
 ·exact hT.ne h.core.typ h1 f
 ·exact hT.ne h.gt h2 f
 ·obtain⟨v',hv',hr⟩:=h.evs
  rw[f1] at hv'
  injection hv' with hv'
  subst hv'
  exact(zah hr f2).2.ne hT (Ne.symm h3) rfl
 ·exact hT.ne (h.cli i hi).isC h4 f
 ·exact(h.cli i hi).isM.ne hT f.symm
 ·obtain⟨v,hv⟩:=Option.isSome_iff_exists.1 f1
  have u:=h.up v hv
  by_cases hq:T=A.a.q
  ·rw[u.q] at hq;exact hT.ne h.core.typ h1 hq
  ·exact u.sv.notFoot hT hq h5 f2
theorem Good.calm{s:Wd}{wr i:Nat}(h:Good s wr false i)(hi:i<=75)(n4:s.n<=4){r:Nat}(hr:r<=3)(hok:∀ j,j<r->CalmOk (s.calm j)):Good (s.calm r) wr false (i+1):=by
 obtain⟨H,L,b,C,k1,k2,k3,k4,k5⟩:=h.ex
 obtain⟨L',k6⟩:=k1.calm (by omega) (by omega) r (by omega)
 exact⟨⟨H,L',b,C+60000,k6.mono (Nat.le_refl _) (by omega),by omega,(k3.calm n4 r hok).mono (by omega),by omega,k5⟩,by have:=h.wr;omega⟩
theorem zze.below{w w':World}{T:Nat}{A:Wa}{s:Wd}{wr:Int}{lies:Bool}(h:zze w T A s wr lies)(hb:Below w.heap.size w w'):zze w' T A s wr lies:=by
 have hl:=h.typ.lt
 have e:∀ i,w'.cell? ⟨T,i,none⟩=w.cell? ⟨T,i,none⟩:=fun i=>hb.cell (p:=⟨T,i,none⟩) hl
 exact⟨h.typ.same (hb.block T hl),fun i=>(hb.frozen (p:=⟨T,i,none⟩) hl).trans (h.fro i),(e 0).trans h.c0,(e 1).trans h.c1,(e 2).trans h.c2,(e 3).trans h.c3,(e 4).trans h.c4,(e 5).trans h.c5,(e 6).trans h.c6,(h.wd.below hb).1⟩
theorem zze.moved{w w':World}{T:Nat}{A A':Wa}{s s':Wd}{wr:Int}{lies:Bool}(h:zze w T A s wr lies)(d:WdIs w' A' s')(f:Fz A s w A' s' w')(t:Tm s s'):zze w' T A' s' wr lies:=by
 have eT:w'.heap[T]?=w.heap[T]?:=f.block T h.typ.lt (h.wd.notFoot h.typ (by decide) (by decide) (by decide) (by decide) (by decide)) (fun q=>h.typ.ne q (by decide) rfl)
 have e:∀ i,w'.cell? ⟨T,i,none⟩=w.cell? ⟨T,i,none⟩:=fun i=>World.cell?_of_block eT
 exact⟨h.typ.same eT,fun i=>(World.frozen?_of_block (a:=⟨T,i,none⟩) eT).trans (h.fro i),by rw[f.Q];exact(e 0).trans h.c0,by rw[t.ob];exact(e 1).trans h.c1,by rw[t.tv];exact(e 2).trans h.c2,by rw[t.td];exact(e 3).trans h.c3,by rw[t.n];exact(e 4).trans h.c4,(e 5).trans h.c5,(e 6).trans h.c6,d⟩
theorem zze.wrote{w:World}{T:Nat}{A:Wa}{s:Wd}{wr:Int}{lies:Bool}(h:zze w T A s wr lies)(x:Int):zze (w.setCell ⟨T,5,none⟩ (.int .i64 x)) T A s x lies/\∀ k,wfoot (w.setCell ⟨T,5,none⟩ (.int .i64 x)) A s k->wfoot w A s k:=by
 have o:∀ y,y≠T->(w.setCell ⟨T,5,none⟩ (.int .i64 x)).heap[y]?=w.heap[y]?:=fun y hy=>Below.heap_setCell w ⟨T,5,none⟩ _ y hy
 obtain⟨k1,k2⟩:=h.wd.apart h.typ (by simp) o
 have e:∀ i,i≠5->(w.setCell ⟨T,5,none⟩ (.int .i64 x)).cell? ⟨T,i,none⟩=w.cell? ⟨T,i,none⟩:=fun i hi=>World.cell?_setCell_other _ _ _ _ (by intro q;injection q with _ q;exact hi q.symm)
 exact⟨⟨Wal.zai h.typ,fun i=>by rw[World.frozen?_setCell];exact h.fro i,(e 0 (by omega)).trans h.c0,(e 1 (by omega)).trans h.c1,(e 2 (by omega)).trans h.c2,(e 3 (by omega)).trans h.c3,(e 4 (by omega)).trans h.c4,World.cell?_setCell_same _ _ _ h.c5,(e 6 (by omega)).trans h.c6,k1⟩,k2⟩
theorem zub{j:Nat}(h:j<255):TxtIs (strOf [119,(j:Int)+1,0]) (j+1):=by
 refine⟨rfl,?_⟩
 have e:(strOf [119,(j:Int)+1,0]).data[1]?=some (UInt8.ofNat ((j:Int)+1).toNat):=rfl
 rw[e,show ((j:Int)+1).toNat=j+1 by omega]
 simp
 omega
def KpI(w w':World):Prop:=∀ X,isC w X 3->w'.heap[X]?=w.heap[X]?
theorem Fz.ints{w w':World}{A A':Wa}{s s':Wd}(h:WdIs w A s)(f:Fz A s w A' s' w'):KpI w w':=fun X hX=>f.block X hX.lt (h.notFoot hX (by decide) (by decide) (by decide) (by decide) (by decide)) (fun q=>hX.ne q (by decide) rfl)
theorem KpI.trans{a b c:World}(h:KpI a b)(k:KpI b c):KpI a c:=fun X hX=>(k X (hX.same (h X hX))).trans (h X hX)
theorem KpI.below{w w':World}(h:Below w.heap.size w w'):KpI w w':=fun X hX=>h.block X hX.lt
def Done(w w':World)(T:Nat)(A:Wa)(s:Wd)(lies:Bool)(i:Nat)(rb:Option Nat):Prop:=∃ A' s',∃ wr:Nat,zze w' T A' s' wr lies/\Good s' wr lies i/\(Lfs rb s s'/\Tm s s'/\KpI w w')/\∀ N,N<=T->N<=w.heap.size->Low N w A s->Below N w w'/\Low N w' A' s'
theorem Done.mk{w w2 w':World}{T:Nat}{A A':Wa}{s s':Wd}{wr:Nat}{lies:Bool}{i:Nat}(h:zze w T A s wr lies)(hb:Below w.heap.size w w2)(d:WdIs w' A' s')(f:Fz A s w2 A' s' w')(t:Tm s s')(g:Good s' wr lies i){rb:Option Nat}(l:Lfs rb s s'):Done w w' T A s lies i rb:=by
 have h2:=h.below hb
 refine⟨A',s',wr,h2.moved d f t,g,⟨l,t,(KpI.below hb).trans (f.ints h2.wd)⟩,fun N _ hN hL=>?_⟩
 have hL2:=hL.step (h.wd.below hb).2 hN
 have hs:=hb.size
 exact⟨(hb.mono hN).trans (f.below hL2 h2.wd.lt),hL2.step f (by omega)⟩
theorem Done.still{w w2:World}{T:Nat}{A:Wa}{s:Wd}{wr:Nat}{lies:Bool}{i:Nat}(h:zze w T A s wr lies)(hb:Below w.heap.size w w2)(g:Good s wr lies i){rb:Option Nat}(l:Lfs rb s s):Done w w2 T A s lies i rb:=
 Done.mk h hb (h.wd.below hb).1 (Fz.refl A s w2) (Tm.refl s) g l
def rbOf(xw xk:Int)(n:Nat):Option Nat:=if xw=10 then some (Clock.pickV xk n).toNat else none
theorem zas{xw xk:Int}{n:Nat}{s s':Wd}(h:xw≠10)(l:Lif s s'):Lfs (rbOf xw xk n) s s':=by
 unfold rbOf
 rw[if_neg h]
 exact Lfs.none l
theorem zuc{xk:Int}{n kn:Nat}{s:Wd}(h:Clock.pickV xk n=(kn:Int)):Lfs (rbOf 10 xk n) s (s.reborn kn):=by
 unfold rbOf
 rw[if_pos rfl,h,show ((kn:Int)).toNat=kn by omega]
 exact zre s kn
theorem zwt(T i wr:Nat)(A:Wa)(s:Wd)(lies:Bool)(xw xk xa xb:Int)(w:World)(h:zze w T A s wr lies)(hG:Good s wr lies i)(hi:i<=75) :
  Calls Tryz.prog 9 #[tp T,.agg #[.int .i64 xw,.int .i64 xk,.int .i64 xa,.int .i64 xb]] w fun e w'=>e = .returned (.tuple #[])/\Done w w' T A s lies (i+1) (rbOf xw xk s.n):=by
 go_enter Tryz.func9,Tryz.ntmps9
 go_upto_region 1 with fail
 obtain⟨X,hX⟩:∃ X,w.heap.size=X:=⟨_,rfl⟩
 generalize hW:w.alloc (.cells #[.int .i64 xw,.int .i64 xk,.int .i64 xa,.int .i64 xb] 34)=w1
 have hb1:Below w.heap.size w w1:=by rw[<- hW];exact(Below.refl _ _).alloc (Nat.le_refl _) _
 have eX:w1.heap[X]?=some (.cells #[.int .i64 xw,.int .i64 xk,.int .i64 xa,.int .i64 xb] 34):=by rw[<- hW,<- hX];exact heap_alloc_new w _
 have hXc:isC w1 X 34:=⟨_,_,eX⟩
 have hXl:X<w1.heap.size:=(Array.getElem?_eq_some_iff.1 eX).1
 rw[hX]
 have x0:w1.cell? ⟨X,0,none⟩=some (.int .i64 xw):=cell_of_row _ _ _ _ _ _ eX
 have x1:w1.cell? ⟨X,1,none⟩=some (.int .i64 xk):=cell_of_row _ _ _ _ _ _ eX
 have x2:w1.cell? ⟨X,2,none⟩=some (.int .i64 xa):=cell_of_row _ _ _ _ _ _ eX
 have x3:w1.cell? ⟨X,3,none⟩=some (.int .i64 xb):=cell_of_row _ _ _ _ _ _ eX
 have h1:=h.below hb1
 have t0:=h1.c0
 have t4:=h1.c4
 have t5:=h1.c5
 have t6:=h1.c6
 have hTl:=h1.typ.lt
 have n1:=h.wd.n1
 have n4:=h.wd.n4
 obtain⟨n,hn⟩:∃ n,s.n=n:=⟨_,rfl⟩
 rw[hn] at t4 n1 n4
 have HH:Hid (zze w T A s wr lies/\Good s wr lies i/\Below w.heap.size w w1/\zze w1 T A s wr lies/\s.n=n):=⟨h,hG,hb1,h1,hn⟩
 clear hW eX h hG hb1 h1 hX hn
 have hpk:=Clock.zop xk n w1.drew (by omega) (by omega)
 obtain⟨k0,k1⟩:=Clock.zeq xk (n:=n) (by omega) (by omega)
 obtain⟨k,hkv⟩:∃ k,Clock.pickV xk n=k:=⟨_,rfl⟩
 rw[hkv] at hpk k0 k1
 have HKV:Hid (Clock.pickV xk n=k):=hkv
 clear hkv
 go_region_held3 (fun w'=>w'.cell? ⟨T,0,none⟩=some (tp A.Q)/\w'.cell? ⟨T,4,none⟩=some (.int .i64 n)/\w'.cell? ⟨X,1,none⟩=some (.int .i64 xk)) (exact⟨t0,t4,x1⟩) (first|(go_at_call 10;refine hpk.mono ?_;rintro e w2 ⟨rfl,rfl⟩))
 obtain⟨kn,rfl⟩:∃ kn:Nat,k=(kn:Int):=⟨k.toNat,by omega⟩
 have hkn:kn<n:=by omega
 have HH2:Hid (zze w T A s wr lies/\Good s wr lies i/\Below w.heap.size w w1.drew/\zze w1.drew T A s wr lies/\s.n=n):=⟨HH.out.1,HH.out.2.1,HH.out.2.2.1.drew,HH.out.2.2.2.1.below (Below.refl _ _).drew,HH.out.2.2.2.2⟩
 have y0:w1.drew.cell? ⟨X,0,none⟩=some (.int .i64 xw):=x0
 have y2:w1.drew.cell? ⟨X,2,none⟩=some (.int .i64 xa):=x2
 have y3:w1.drew.cell? ⟨X,3,none⟩=some (.int .i64 xb):=x3
 have z5:w1.drew.cell? ⟨T,5,none⟩=some (.int .i64 wr):=t5
 have z6:w1.drew.cell? ⟨T,6,none⟩=some (.bool lies):=t6
 have hXl2:X<w1.drew.heap.size:=hXl
 have HXc:Hid (isC w1.drew X 34):=hXc
 clear HH x0 x1 x2 x3 t0 t4 t5 t6 hXl hTl hpk hXc
 generalize w1.drew=w2 at *
 have HH:=HH2
 clear HH2
 have hmany:=zce A s w2 HH.out.2.2.2.1.wd
 go_wp2_with fail
 refine hmany.mono ?_
 rintro e w2 ⟨rfl,rfl⟩
 clear hmany
 have hnl:s.net.length<=200:=by
  obtain⟨_,hG,_⟩:=HH.out
  obtain⟨_,_,_,_,_,_,g3,_⟩:=hG.ex
  exact g3.netl
 by_cases hm0:s.net.length=0
 ·have hmz:¬ (0:Int)<(s.net.length:Int):=by omega
  go_upto_region 7 with fail
  by_cases q0:xw=0
  ·subst q0
   obtain⟨h,hG,hb,h2,hn⟩:=HH.out
   obtain⟨H,L,b,C,g1,g2,g3,g4,g5⟩:=hG.ex
   have hcall:=fun o=>zcf A s kn C o w2 h2.wd (by omega) g3 (by omega)
   clear h hG hb h2 g1 g2 g3 g5
   go_wp2_with fail
   refine(zal xa 3 _ (by omega) (by omega)).mono ?_
   rintro e w2 ⟨o,o0,o1,rfl,rfl⟩
   go_wp2_with fail
   refine(hcall o).mono ?_
   rintro e w4 ⟨rfl,d,f⟩
   have HF:Hid (Done w w4 T A s lies (i+1) (rbOf 0 xk s.n)):=by
    obtain⟨h,hG,hb,h2,hn⟩:=HH.out
    by_cases hf:(s.seat kn).k.freeE o=0
    ·rw[if_pos hf] at d f
     exact Done.mk h hb d f (zc3 _ _ _) (hG.read (by omega) hf) (zas (by omega) (zen _ _ _))
    ·rw[if_neg hf] at d f
     exact Done.mk h hb d f (Tm.refl s) (hG.idle (Nat.le_refl _) (by have:=hG.wr;omega)) (zas (by omega) (fun _=>rfl))
   clear hcall d f
   clear HH
   go_wp2_with fail
   go_end0
   exact⟨rfl,HF.out⟩
  by_cases q1:xw=1
  ·subst q1
   obtain⟨h,hG,hb,h2,hn⟩:=HH.out
   have hwr:=hG.wr
   have f5:=h2.fro 5
   have hw1:IntKind.i64.wrap ((wr:Int)+1)=(wr:Int)+1:=wrapI (by omega) (by omega)
   obtain⟨k1,k2⟩:=h2.wrote ((wr:Int)+1)
   have hTX:T≠X:=fun e=>h2.typ.ne HXc.out (by decide) e
   have v2:(w2.setCell ⟨T,5,none⟩ (.int .i64 ((wr:Int)+1))).cell? ⟨X,2,none⟩=some (.int .i64 xa):=(World.cell?_setCell_other _ _ _ _ (by intro q;injection q with q _;exact hTX q)).trans y2
   have v5:=k1.c5
   have HK:Hid (zze w T A s wr lies/\Good s wr lies i/\zze (w2.setCell ⟨T,5,none⟩ (.int .i64 ((wr:Int)+1))) T A s ((wr+1:Nat):Int) lies/\((∀ N,N<=T->N<=w.heap.size->Low N w A s->Below N w (w2.setCell ⟨T,5,none⟩ (.int .i64 ((wr:Int)+1)))/\Low N (w2.setCell ⟨T,5,none⟩ (.int .i64 ((wr:Int)+1))) A s)/\KpI w (w2.setCell ⟨T,5,none⟩ (.int .i64 ((wr:Int)+1))))/\s.n=n):=by
    refine⟨h,hG,by rw[show ((wr+1:Nat):Int)=(wr:Int)+1 by omega];exact k1,⟨fun N hT hN hL=>?_,fun X hX=>?_⟩,hn⟩
    ·have hL2:=hL.step (h.wd.below hb).2 hN
     exact⟨Below.setCell (hb.mono hN) (show N<=(⟨T,5,none⟩:Addr).block from hT) _,fun k hk=>hL2 k (k2 k hk)⟩
    ·exact(Below.heap_setCell w2 ⟨T,5,none⟩ _ X (fun e=>h2.typ.ne (hX.same (hb.block X hX.lt)) (by decide) e.symm)).trans (hb.block X hX.lt)
   clear h hG hb h2 hn k1 k2 HH y2 y3 z6 HXc hXl2
   go_upto_region 11 with fail
   generalize w2.setCell ⟨T,5,none⟩ (.int .i64 ((wr:Int)+1))=w3 at *
   have hu:IntKind.u8.wrap ((wr:Int)+1)=(wr:Int)+1:=by unfold IntKind.wrap;simp[IntKind.bits,IntKind.signed];omega
   have hsh:((wr:Int)+1) / 256=0:=by omega
   have hu0:IntKind.u8.wrap 0=0:=by decide
   obtain⟨d,hd⟩:∃ d,strOf [119,(wr:Int)+1,0]=d:=⟨_,rfl⟩
   have hlT:T<w3.heap.size:=HK.out.2.2.1.typ.lt
   have hlX:X<w3.heap.size:=World.block_lt_of_cell? _ _ v2
   have b6:Below w3.heap.size w3 (w3.alloc (.cells #[.int .u8 119,.int .u8 ((wr:Int)+1),.int .u8 0] 5)).drew:=((Below.refl _ _).alloc (Nat.le_refl _) _).drew
   have e2:=(b6.cell (p:=⟨X,2,none⟩) hlX).trans v2
   have e5:=(b6.cell (p:=⟨T,5,none⟩) hlT).trans v5
   have hcv:(convert 61 9 (.slice (some ⟨w3.heap.size,0,none⟩) 3 3)).run Tryz.prog (w3.alloc (.cells #[.int .u8 119,.int .u8 ((wr:Int)+1),.int .u8 0] 5)).drew = .ok (.string d) (w3.alloc (.cells #[.int .u8 119,.int .u8 ((wr:Int)+1),.int .u8 0] 5)).drew:=by
    rw[<- hd]
    refine Wire.za9 ⟨w3.heap.size,0,none⟩ [119,(wr:Int)+1,0] 3 fun j v hj=>?_
    have hc:=cell_of_row (w3.alloc (.cells #[.int .u8 119,.int .u8 ((wr:Int)+1),.int .u8 0] 5)).drew w3.heap.size j _ _ _ (heap_alloc_new w3 _)
    have hz:(⟨w3.heap.size,0,none⟩:Addr).add j=⟨w3.heap.size,j,none⟩:=by
     simp[Addr.add]
     exact fun q=>q.symm
    rw[hz,hc,<- hj]
    simp
   have hwd:=HK.out.2.2.1.below b6
   have hgd:=HK.out.2.1
   obtain⟨H,L,b,C,g1,g2,g3,g4,g5⟩:=hgd.ex
   have htx:TxtIs d (wr+1):=by rw[<- hd];exact zub (by omega)
   have hcall:=fun o=>zfv A s kn C o d _ hwd.wd (by have:=HK.out.2.2.2.2;omega) g3 (by omega) (by rw[htx.1];omega)
   have HQ:Hid (∀ o w4,WdIs w4 A (if (s.seat kn).k.writeE o d=0 then s.write kn o d else s)->Fz A s (w3.alloc (.cells #[.int .u8 119,.int .u8 ((wr:Int)+1),.int .u8 0] 5)).drew A (if (s.seat kn).k.writeE o d=0 then s.write kn o d else s) w4->Hid (Done w w4 T A s lies (i+1) (rbOf 1 xk s.n))):=fun o w4 dd ff=>by
    have hnn:=HK.out.2.2.2.2
    have hfin:∀ s',WdIs w4 A s'->Fz A s (w3.alloc (.cells #[.int .u8 119,.int .u8 ((wr:Int)+1),.int .u8 0] 5)).drew A s' w4->Tm s s'->Good s' (wr+1) lies (i+1)->Lif s s'->Done w w4 T A s lies (i+1) (rbOf 1 xk s.n):=fun s' a1 a2 a3 a4 a5=>⟨A,s',wr+1,hwd.moved a1 a2 a3,a4,⟨zas (by omega) a5,a3,(HK.out.2.2.2.1.2.trans (KpI.below b6)).trans (a2.ints hwd.wd)⟩,fun N hT hN hL=>by
     obtain⟨u1,u2⟩:=HK.out.2.2.2.1.1 N hT hN hL
     have u3:=u2.step (HK.out.2.2.1.wd.below b6).2 (by omega)
     exact⟨(u1.trans (b6.mono (by omega))).trans (a2.below u3 hwd.wd.lt),u3.step a2 (by have:=b6.size;omega)⟩⟩
    by_cases hf:(s.seat kn).k.writeE o d=0
    ·rw[if_pos hf] at dd ff
     exact hfin _ dd ff (zc3 _ _ _) (hgd.write (by omega) htx hf) (zen _ _ _)
    ·rw[if_neg hf] at dd ff
     exact hfin _ dd ff (Tm.refl s) (hgd.idle (by omega) (by omega)) (fun _=>rfl)
   clear hwd hgd g1 g2 g3 g5 htx hd b6
   have hS0:w3.drew.cell? ⟨X,2,none⟩=some (.int .i64 xa)/\w3.drew.cell? ⟨T,5,none⟩=some (.int .i64 ((wr:Int)+1)):=⟨v2,v5⟩
   refine Gen.start (S:=fun w'=>w'.cell? ⟨X,2,none⟩=some (.int .i64 xa)/\w'.cell? ⟨T,5,none⟩=some (.int .i64 ((wr:Int)+1))) (by kernel_rfl) hS0 (fun zzg=>?_)
   refine Gen.tk 0 18 ?_ rfl rfl (Or.inl ⟨by rfl,?_⟩) zzg ?_;rotate_left
   ·rintro w' ⟨s0,s1⟩;go_simp;try with_reducible rfl
   go_frame
   refine Gen.tk 1 18 ?_ rfl rfl (Or.inl ⟨by rfl,?_⟩) zzg ?_;rotate_left
   ·rintro w' ⟨s0,s1⟩;go_simp;try with_reducible rfl
   go_frame
   refine Gen.tk 2 3 ?_ rfl rfl (Or.inl ⟨by rfl,?_⟩) zzg ?_;rotate_left
   ·rintro w' ⟨s0,s1⟩;go_simp;try with_reducible rfl
   go_frame
   refine Gen.tk 3 4 ?_ rfl rfl (Or.inl ⟨by rfl,?_⟩) zzg ?_;rotate_left
   ·rintro w' ⟨s0,s1⟩;go_simp;try with_reducible rfl
   go_frame
   refine Gen.tk 5 6 ?_ rfl rfl (Or.inl ⟨by rfl,?_⟩) zzg ?_;rotate_left
   ·rintro w' ⟨s0,s1⟩;go_simp;try with_reducible rfl
   go_frame
   refine Gen.tk 6 7 ?_ rfl rfl (Or.inl ⟨by rfl,?_⟩) zzg ?_;rotate_left
   ·rintro w' ⟨s0,s1⟩;go_simp;try with_reducible rfl
   go_frame
   refine Gen.tk 7 8 ?_ rfl rfl (Or.inl ⟨by rfl,?_⟩) zzg ?_;rotate_left
   ·rintro w' ⟨s0,s1⟩;go_simp;try with_reducible rfl
   go_frame
   refine Gen.tk 8 9 ?_ rfl rfl (Or.inl ⟨by rfl,?_⟩) zzg ?_;rotate_left
   ·rintro w' ⟨s0,s1⟩;go_simp;try with_reducible rfl
   go_frame
   refine Gen.tk 9 16 ?_ rfl rfl (Or.inl ⟨by rfl,?_⟩) zzg ?_;rotate_left
   ·rintro w' ⟨s0,s1⟩;go_simp;try with_reducible rfl
   go_frame
   refine Gen.tk 10 11 ?_ rfl rfl (Or.inl ⟨by rfl,?_⟩) zzg ?_;rotate_left
   ·rintro w' ⟨s0,s1⟩;go_simp;try with_reducible rfl
   go_frame
   refine Gen.tk 11 12 ?_ rfl rfl (Or.inl ⟨by rfl,?_⟩) zzg ?_;rotate_left
   ·rintro w' ⟨s0,s1⟩;go_simp;try with_reducible rfl
   go_frame
   refine Gen.tk 12 13 ?_ rfl rfl (Or.inl ⟨by rfl,?_⟩) zzg ?_;rotate_left
   ·rintro w' ⟨s0,s1⟩;go_simp;try with_reducible rfl
   go_frame
   refine Gen.tk 13 14 ?_ rfl rfl (Or.inl ⟨by rfl,?_⟩) zzg ?_;rotate_left
   ·rintro w' ⟨s0,s1⟩;go_simp;try with_reducible rfl
   go_frame
   refine Gen.tk 14 15 ?_ rfl rfl (Or.inl ⟨by rfl,?_⟩) zzg ?_;rotate_left
   ·rintro w' ⟨s0,s1⟩;go_simp;try with_reducible rfl
   go_frame
   refine Gen.tk 15 16 ?_ rfl rfl (Or.inl ⟨by rfl,?_⟩) zzg ?_;rotate_left
   ·rintro w' ⟨s0,s1⟩;go_simp;try with_reducible rfl
   go_frame
   refine Gen.two (i:=4) (j:=16) (by kernel_rfl) rfl rfl rfl rfl (fun K hK=>?_) (fun K hK=>?_)
   ·go_simp
    refine(zal xa 3 _ (by omega) (by omega)).mono ?_
    rintro e w5 ⟨o,o0,o1,rfl,rfl⟩
    dsimp only
    refine hK.out _ _ zzg (fun zzg=>?_)
    clear hK K
    try go_frame
    refine Gen.one (i:=16) (by kernel_rfl) rfl rfl (fun K hK=>?_)
    go_simp
    refine hK.out _ _ ⟨e2,e5⟩ (fun zzg=>?_)
    clear hK K
    try go_frame
    refine Gen.one (i:=17) (by kernel_rfl) rfl rfl (fun K hK=>?_)
    go_simp
    refine hK.out _ _ ⟨e2,e5⟩ (fun zzg=>?_)
    clear hK K
    try go_frame
    refine Gen.last (i:=18) (by kernel_rfl) rfl rfl (by kernel_rfl) (by kernel_rfl) (fun K hK=>?_)
    go_simp
    refine(hcall o).mono ?_
    rintro e w4 ⟨rfl,dd,ff⟩
    have HF:Hid (Done w w4 T A s lies (i+1) (rbOf 1 xk s.n)):=HQ.out o w4 dd ff
    dsimp only
    refine hK.out _ _ ?_
    clear hK K zzg dd ff hcall HQ HK
    go_wp2_with fail
    go_end0
    exact⟨rfl,HF.out⟩
   ·go_simp
    refine hK.out _ _ ⟨e2,e5⟩ (fun zzg=>?_)
    clear hK K
    try go_frame
    refine Gen.two (i:=4) (j:=17) (by kernel_rfl) rfl rfl rfl rfl (fun K hK=>?_) (fun K hK=>?_)
    ·go_simp
     refine(zal xa 3 _ (by omega) (by omega)).mono ?_
     rintro e w5 ⟨o,o0,o1,rfl,rfl⟩
     dsimp only
     refine hK.out _ _ ⟨e2,e5⟩ (fun zzg=>?_)
     clear hK K
     try go_frame
     refine Gen.one (i:=17) (by kernel_rfl) rfl rfl (fun K hK=>?_)
     go_simp
     refine hK.out _ _ ⟨e2,e5⟩ (fun zzg=>?_)
     clear hK K
     try go_frame
     refine Gen.last (i:=18) (by kernel_rfl) rfl rfl (by kernel_rfl) (by kernel_rfl) (fun K hK=>?_)
     go_simp
     refine(hcall o).mono ?_
     rintro e w4 ⟨rfl,dd,ff⟩
     have HF:Hid (Done w w4 T A s lies (i+1) (rbOf 1 xk s.n)):=HQ.out o w4 dd ff
     dsimp only
     refine hK.out _ _ ?_
     clear hK K zzg dd ff hcall HQ HK
     go_wp2_with fail
     go_end0
     exact⟨rfl,HF.out⟩
    ·go_simp
     refine hK.out _ _ ⟨e2,e5⟩ (fun zzg=>?_)
     clear hK K
     try go_frame
     refine Gen.one (i:=4) (by kernel_rfl) rfl rfl (fun K hK=>?_)
     go_simp
     refine(zal xa 3 _ (by omega) (by omega)).mono ?_
     rintro e w5 ⟨o,o0,o1,rfl,rfl⟩
     dsimp only
     refine hK.out _ _ ⟨e2,e5⟩ (fun zzg=>?_)
     clear hK K
     try go_frame
     refine Gen.last (i:=18) (by kernel_rfl) rfl rfl (by kernel_rfl) (by kernel_rfl) (fun K hK=>?_)
     go_simp
     refine(hcall o).mono ?_
     rintro e w4 ⟨rfl,dd,ff⟩
     have HF:Hid (Done w w4 T A s lies (i+1) (rbOf 1 xk s.n)):=HQ.out o w4 dd ff
     dsimp only
     refine hK.out _ _ ?_
     clear hK K zzg dd ff hcall HQ HK
     go_wp2_with fail
     go_end0
     exact⟨rfl,HF.out⟩
  by_cases q2:xw=2
  ·subst q2
   obtain⟨h,hG,hb,h2,hn⟩:=HH.out
   obtain⟨H,L,b,C,g1,g2,g3,g4,g5⟩:=hG.ex
   have hcall:=zfs A s kn C w2 h2.wd (by omega) g3 (by omega)
   clear h hG hb h2 g1 g2 g3 g5
   go_wp2_with fail
   refine hcall.mono ?_
   rintro e w4 ⟨rfl,d,f⟩
   have HF:Hid (Done w w4 T A s lies (i+1) (rbOf 2 xk s.n)):=by
    obtain⟨h,hG,hb,h2,hn⟩:=HH.out
    exact Done.mk h hb d f (Tm.trans (b:={ s with step:=s.step+1 }) ⟨rfl,rfl,rfl,rfl⟩ (zjl _ kn)) (hG.keep (fun H L b cb k _=>k.again (by omega)) (fun C k=>(k.again (by omega)).mono (by omega)) (by omega)) (zas (by omega) (zhf s kn))
   clear hcall d f
   clear HH
   go_wp2_with fail
   go_end0
   exact⟨rfl,HF.out⟩
  by_cases q3:xw=3
  ·subst q3
   obtain⟨h,hG,hb,h2,hn⟩:=HH.out
   obtain⟨H,L,b,C,g1,g2,g3,g4,g5⟩:=hG.ex
   have hcall:=zqz A s 0 w2 h2.wd (by rw[hm0];rfl)
   clear h hG hb h2 g1 g2 g3 g5
   go_wp2_with fail
   refine hcall.mono ?_
   rintro e w4 ⟨⟨v,rfl⟩,b4⟩
   have HF:Hid (Done w w4 T A s lies (i+1) (rbOf 3 xk s.n)):=by
    obtain⟨h,hG,hb,h2,hn⟩:=HH.out
    exact Done.still h (hb.trans (b4.mono hb.size)) (hG.idle (Nat.le_refl _) (by have:=hG.wr;omega)) (zas (by omega) fun _=>rfl)
   clear hcall b4
   clear HH
   go_wp2_with fail
   go_end0
   exact⟨rfl,HF.out⟩
  by_cases q4:xw=4
  ·subst q4
   obtain⟨h,hG,hb,h2,hn⟩:=HH.out
   obtain⟨H,L,b,C,g1,g2,g3,g4,g5⟩:=hG.ex
   have hcall:=zx3 A s 0 w2 h2.wd (by rw[hm0];rfl)
   clear h hG hb h2 g1 g2 g3 g5
   go_wp2_with fail
   refine hcall.mono ?_
   rintro e w4 ⟨⟨v,rfl⟩,b4⟩
   have HF:Hid (Done w w4 T A s lies (i+1) (rbOf 4 xk s.n)):=by
    obtain⟨h,hG,hb,h2,hn⟩:=HH.out
    exact Done.still h (hb.trans (b4.mono hb.size)) (hG.idle (Nat.le_refl _) (by have:=hG.wr;omega)) (zas (by omega) fun _=>rfl)
   clear hcall b4
   clear HH
   go_wp2_with fail
   go_end0
   exact⟨rfl,HF.out⟩
  by_cases q5:xw=5
  ·subst q5
   obtain⟨h,hG,hb,h2,hn⟩:=HH.out
   obtain⟨H,L,b,C,g1,g2,g3,g4,g5⟩:=hG.ex
   have hcall:=zil A s 0 w2 h2.wd (by rw[hm0];rfl)
   clear h hG hb h2 g1 g2 g3 g5
   go_wp2_with fail
   refine hcall.mono ?_
   rintro e w4 ⟨⟨v,rfl⟩,b4⟩
   have HF:Hid (Done w w4 T A s lies (i+1) (rbOf 5 xk s.n)):=by
    obtain⟨h,hG,hb,h2,hn⟩:=HH.out
    exact Done.still h (hb.trans (b4.mono hb.size)) (hG.idle (Nat.le_refl _) (by have:=hG.wr;omega)) (zas (by omega) fun _=>rfl)
   clear hcall b4
   clear HH
   go_wp2_with fail
   go_end0
   exact⟨rfl,HF.out⟩
  by_cases q6:xw=6
  ·subst q6
   obtain⟨h,hG,hb,h2,hn⟩:=HH.out
   obtain⟨H,L,b,C,g1,g2,g3,g4,g5⟩:=hG.ex
   have hcall:=zk4 T C A s wr xa xb lies w2 h2 g3 (by omega)
   clear h hG hb h2 g1 g2 g3 g5
   go_wp2_with fail
   refine hcall.mono ?_
   rintro e w4 ⟨rfl,g,b0,ff,q0,q1,q2,q3,d,f⟩
   have HF:Hid (Done w w4 T A s lies (i+1) (rbOf 6 xk s.n)):=by
    obtain⟨h,hG,hb,h2,hn⟩:=HH.out
    unfold GoOk at q2 q3
    exact Done.mk h hb d f (zj4 _ _ _) (hG.goes (g:=g) (by omega) ⟨q2.1,q2.2.1⟩ (fun k hk=>⟨(q3 k hk).1,(q3 k hk).2.1⟩) fun q=>⟨(q2.2.2 q).2,fun k hk=>((q3 k hk).2.2 q).1⟩) (zas (by omega) ((zd7 _ _ _).lif))
   clear hcall d f q2 q3
   clear HH
   go_wp2_with fail
   go_end0
   exact⟨rfl,HF.out⟩
  by_cases q7:xw=7
  ·subst q7
   obtain⟨h,hG,hb,h2,hn⟩:=HH.out
   have h2d:=(h2.below (Below.refl w2.heap.size w2).drew).wd
   have hfl:=fun a b=>zg0 A s a b w2.drew h2d
   have hS0:w2.drew.cell? ⟨X,2,none⟩=some (.int .i64 xa)/\w2.drew.cell? ⟨X,3,none⟩=some (.int .i64 xb):=⟨y2,y3⟩
   clear h hG hb h2 h2d
   go_upto_region 23 with fail
   refine Gen.start (S:=fun w'=>w'.cell? ⟨X,2,none⟩=some (.int .i64 xa)/\w'.cell? ⟨X,3,none⟩=some (.int .i64 xb)) (by kernel_rfl) hS0 (fun zzg=>?_)
   refine Gen.tk 0 8 ?_ rfl rfl (Or.inl ⟨by rfl,?_⟩) zzg ?_;rotate_left
   ·rintro w' ⟨s0,s1⟩;go_simp;try with_reducible rfl
   go_frame
   refine Gen.tk 1 2 ?_ rfl rfl (Or.inl ⟨by rfl,?_⟩) zzg ?_;rotate_left
   ·rintro w' ⟨s0,s1⟩;go_simp;try with_reducible rfl
   go_frame
   refine Gen.tk 2 3 ?_ rfl rfl (Or.inl ⟨by rfl,?_⟩) zzg ?_;rotate_left
   ·rintro w' ⟨s0,s1⟩;go_simp;try with_reducible rfl
   go_frame
   refine Gen.tk 4 5 ?_ rfl rfl (Or.inl ⟨by rfl,?_⟩) zzg ?_;rotate_left
   ·rintro w' ⟨s0,s1⟩;go_simp;try with_reducible rfl
   go_frame
   refine Gen.tk 5 6 ?_ rfl rfl (Or.inl ⟨by rfl,?_⟩) zzg ?_;rotate_left
   ·rintro w' ⟨s0,s1⟩;go_simp;try with_reducible rfl
   go_frame
   refine Gen.one (i:=3) (by kernel_rfl) rfl rfl (fun K hK=>?_)
   go_simp
   refine(zal xa 3 _ (by omega) (by omega)).mono ?_
   rintro e w5 ⟨pa,pa0,pa1,rfl,rfl⟩
   dsimp only
   refine hK.out _ _ zzg (fun zzg=>?_)
   clear hK K
   try go_frame
   refine Gen.one (i:=6) (by kernel_rfl) rfl rfl (fun K hK=>?_)
   go_simp
   refine(zal xb 60 _ (by omega) (by omega)).mono ?_
   rintro e w5 ⟨pb,pb0,pb1,rfl,rfl⟩
   have hwq:IntKind.i64.wrap (pb-1)=pb-1:=wrapI (by omega) (by omega)
   dsimp only
   refine hK.out _ _ zzg (fun zzg=>?_)
   clear hK K
   try go_frame
   refine Gen.tk 7 8 ?_ rfl rfl (Or.inl ⟨by rfl,?_⟩) zzg ?_;rotate_left
   ·rintro w' ⟨s0,s1⟩;go_simp;try with_reducible rfl
   go_frame
   refine Gen.last (i:=8) (by kernel_rfl) rfl rfl (by kernel_rfl) (by kernel_rfl) (fun K hK=>?_)
   go_simp
   refine(hfl pa (pb-1)).mono ?_
   rintro e w4 ⟨rfl,d,f⟩
   have HF:Hid (Done w w4 T A s lies (i+1) (rbOf 7 xk s.n)):=by
    obtain⟨h,hG,hb,h2,hn⟩:=HH.out
    exact Done.mk h hb.drew d f (zb2 _ _ _) (hG.zy3 (by omega) _) (zas (by omega) ((zbt _ _ _).lif))
   dsimp only
   refine hK.out _ _ ?_
   clear hK K zzg d f hfl
   clear HH
   go_wp2_with fail
   go_end0
   exact⟨rfl,HF.out⟩
  by_cases q8:xw=8
  ·subst q8
   obtain⟨h,hG,hb,h2,hn⟩:=HH.out
   obtain⟨H,L,b,C,g1,g2,g3,g4,g5⟩:=hG.ex
   have hcall:=zkr A s C w2 h2.wd g3 (by omega)
   clear h hG hb h2 g1 g2 g3 g5
   go_wp2_with fail
   refine hcall.mono ?_
   rintro e w4 ⟨rfl,d,f⟩
   have HF:Hid (Done w w4 T A s lies (i+1) (rbOf 8 xk s.n)):=by
    obtain⟨h,hG,hb,h2,hn⟩:=HH.out
    exact Done.mk h hb d f ⟨rfl,rfl,rfl,rfl⟩ hG.crash (zas (by omega) (fun _=>rfl))
   clear hcall d f
   clear HH
   go_wp2_with fail
   go_end0
   exact⟨rfl,HF.out⟩
  by_cases q9:xw=9
  ·subst q9
   obtain⟨h,hG,hb,h2,hn⟩:=HH.out
   obtain⟨H,L,b,C,g1,g2,g3,g4,g5⟩:=hG.ex
   have hok:=g1.calmOk (by omega)
   have hcall:=zez A s C w2 h2.wd g3 (by omega) hok.1 hok.2
   clear hok
   have hnf:s.sv=none->s.rs.length<200:=(g1.calmOk (by omega)).1
   clear h hG hb h2 g1 g2 g3 g5
   go_wp2_with fail
   refine hcall.mono ?_
   rintro e w4 ⟨he,a,d,f⟩
   generalize eV (if s.sv.isSome=true then 6 else 0)=ev at he
   subst he
   have HF:Hid (Done w w4 T A s lies (i+1) (rbOf 9 xk s.n)):=by
    obtain⟨h,hG,hb,h2,hn⟩:=HH.out
    exact Done.mk h hb d f (zf1 s) (hG.keep (fun H L b cb k q=>⟨L,k.restart q⟩) (fun C k=>(k.restart' (fun q=>hnf q)).mono (by omega)) (by omega)) (zas (by omega) ((ze3 s).lif))
   clear hcall d f
   clear HH
   go_wp2_with fail
   go_end0
   exact⟨rfl,HF.out⟩
  by_cases q10:xw=10
  ·subst q10
   obtain⟨h,hG,hb,h2,hn⟩:=HH.out
   obtain⟨H,L,b,C,g1,g2,g3,g4,g5⟩:=hG.ex
   have hcall:=zjf A s kn C w2 h2.wd (by omega) g3 (by omega)
   clear h hG hb h2 g1 g2 g3 g5
   go_wp2_with fail
   refine hcall.mono ?_
   rintro e w4 ⟨rfl,A',d,f⟩
   have HF:Hid (Done w w4 T A s lies (i+1) (rbOf 10 xk s.n)):=by
    obtain⟨h,hG,hb,h2,hn⟩:=HH.out
    exact Done.mk h hb d f ⟨rfl,rfl,rfl,rfl⟩ (hG.keep (fun H L b cb k _=>⟨L,k.reborn (by omega)⟩) (fun C k=>(k.reborn (by omega)).mono (by omega)) (by omega)) (zuc (by rw[hn];exact HKV.out))
   clear hcall d f
   clear HH
   go_wp2_with fail
   go_end0
   exact⟨rfl,HF.out⟩
  by_cases q11:xw=11
  ·subst q11
   cases lies
   ·obtain⟨h,hG,hb,h2,hn⟩:=HH.out
    obtain⟨H,L,b,C,g1,g2,g3,g4,g5⟩:=hG.ex
    have hok:∀ r:Nat,r<=3->∀ j,j<r->CalmOk (s.calm j):=fun r hr j hj=>by
     obtain⟨L',k⟩:=g1.calm (by omega) (by omega) j (by omega)
     exact k.calmOk (by omega)
    have hcall:=fun (r:Nat) (hr:r<=3)=>zc0 A s C r w2 h2.wd g3 (by omega) (hok r hr)
    have HG:Hid (∀ r:Nat,r<=3->Good (s.calm r) wr false (i+1)):=fun r hr=>hG.calm hi h2.wd.n4 hr (hok r hr)
    clear h hG hb h2 g1 g2 g3 g5 hok
    go_wp2_with fail
    refine(zal xa 4 _ (by omega) (by omega)).mono ?_
    rintro e w2 ⟨r,r0,r1,rfl,rfl⟩
    obtain⟨rn,rfl⟩:∃ rn:Nat,r=(rn:Int):=⟨r.toNat,by omega⟩
    go_wp2_with fail
    refine(hcall rn (by omega)).mono ?_
    rintro e w4 ⟨rfl,a,d,f⟩
    have HF:Hid (Done w w4 T A s false (i+1) (rbOf 11 xk s.n)):=by
     obtain⟨h,hG,hb,h2,hn⟩:=HH.out
     exact Done.mk h hb d f (zci s rn) (HG.out rn (by omega)) (zas (by omega) (zd8 s rn))
    clear hcall d f HG
    clear HH
    go_wp2_with fail
    go_end0
    exact⟨rfl,HF.out⟩
   ·obtain⟨h,hG,hb,h2,hn⟩:=HH.out
    have HF:Hid (Done w w2 T A s true (i+1) (rbOf 11 xk s.n)):=Done.still h hb (hG.idle (Nat.le_refl _) (by have:=hG.wr;omega)) (zas (by omega) fun _=>rfl)
    clear h hG hb h2 hn
    clear HH
    go_wp2_with fail
    go_end0
    exact⟨rfl,HF.out⟩
  obtain⟨h,hG,hb,h2,hn⟩:=HH.out
  have HF:Hid (Done w w2 T A s lies (i+1) (rbOf xw xk s.n)):=Done.still h hb (hG.idle (Nat.le_refl _) (by have:=hG.wr;omega)) (zas (by omega) fun _=>rfl)
  clear h hG hb h2 hn
  clear HH
  go_wp2_with fail
  go_end0
  exact⟨rfl,HF.out⟩
 ·have hmz:(0:Int)<(s.net.length:Int):=by omega
  go_wp2_with fail
  refine(zal xa s.net.length _ (by omega) (by omega)).mono ?_
  rintro e w2 ⟨j,j0,j1,rfl,rfl⟩
  obtain⟨jn,rfl⟩:∃ jn:Nat,j=(jn:Int):=⟨j.toNat,by omega⟩
  have hjn:jn<s.net.length:=by omega
  go_upto_region 7 with fail
  by_cases q0:xw=0
  ·subst q0
   obtain⟨h,hG,hb,h2,hn⟩:=HH.out
   obtain⟨H,L,b,C,g1,g2,g3,g4,g5⟩:=hG.ex
   have hcall:=fun o=>zcf A s kn C o w2 h2.wd (by omega) g3 (by omega)
   clear h hG hb h2 g1 g2 g3 g5
   go_wp2_with fail
   refine(zal xa 3 _ (by omega) (by omega)).mono ?_
   rintro e w2 ⟨o,o0,o1,rfl,rfl⟩
   go_wp2_with fail
   refine(hcall o).mono ?_
   rintro e w4 ⟨rfl,d,f⟩
   have HF:Hid (Done w w4 T A s lies (i+1) (rbOf 0 xk s.n)):=by
    obtain⟨h,hG,hb,h2,hn⟩:=HH.out
    by_cases hf:(s.seat kn).k.freeE o=0
    ·rw[if_pos hf] at d f
     exact Done.mk h hb d f (zc3 _ _ _) (hG.read (by omega) hf) (zas (by omega) (zen _ _ _))
    ·rw[if_neg hf] at d f
     exact Done.mk h hb d f (Tm.refl s) (hG.idle (Nat.le_refl _) (by have:=hG.wr;omega)) (zas (by omega) (fun _=>rfl))
   clear hcall d f
   clear HH
   go_wp2_with fail
   go_end0
   exact⟨rfl,HF.out⟩
  by_cases q1:xw=1
  ·subst q1
   obtain⟨h,hG,hb,h2,hn⟩:=HH.out
   have hwr:=hG.wr
   have f5:=h2.fro 5
   have hw1:IntKind.i64.wrap ((wr:Int)+1)=(wr:Int)+1:=wrapI (by omega) (by omega)
   obtain⟨k1,k2⟩:=h2.wrote ((wr:Int)+1)
   have hTX:T≠X:=fun e=>h2.typ.ne HXc.out (by decide) e
   have v2:(w2.setCell ⟨T,5,none⟩ (.int .i64 ((wr:Int)+1))).cell? ⟨X,2,none⟩=some (.int .i64 xa):=(World.cell?_setCell_other _ _ _ _ (by intro q;injection q with q _;exact hTX q)).trans y2
   have v5:=k1.c5
   have HK:Hid (zze w T A s wr lies/\Good s wr lies i/\zze (w2.setCell ⟨T,5,none⟩ (.int .i64 ((wr:Int)+1))) T A s ((wr+1:Nat):Int) lies/\((∀ N,N<=T->N<=w.heap.size->Low N w A s->Below N w (w2.setCell ⟨T,5,none⟩ (.int .i64 ((wr:Int)+1)))/\Low N (w2.setCell ⟨T,5,none⟩ (.int .i64 ((wr:Int)+1))) A s)/\KpI w (w2.setCell ⟨T,5,none⟩ (.int .i64 ((wr:Int)+1))))/\s.n=n):=by
    refine⟨h,hG,by rw[show ((wr+1:Nat):Int)=(wr:Int)+1 by omega];exact k1,⟨fun N hT hN hL=>?_,fun X hX=>?_⟩,hn⟩
    ·have hL2:=hL.step (h.wd.below hb).2 hN
     exact⟨Below.setCell (hb.mono hN) (show N<=(⟨T,5,none⟩:Addr).block from hT) _,fun k hk=>hL2 k (k2 k hk)⟩
    ·exact(Below.heap_setCell w2 ⟨T,5,none⟩ _ X (fun e=>h2.typ.ne (hX.same (hb.block X hX.lt)) (by decide) e.symm)).trans (hb.block X hX.lt)
   clear h hG hb h2 hn k1 k2 HH y2 y3 z6 HXc hXl2
   go_upto_region 11 with fail
   generalize w2.setCell ⟨T,5,none⟩ (.int .i64 ((wr:Int)+1))=w3 at *
   have hu:IntKind.u8.wrap ((wr:Int)+1)=(wr:Int)+1:=by unfold IntKind.wrap;simp[IntKind.bits,IntKind.signed];omega
   have hsh:((wr:Int)+1) / 256=0:=by omega
   have hu0:IntKind.u8.wrap 0=0:=by decide
   obtain⟨d,hd⟩:∃ d,strOf [119,(wr:Int)+1,0]=d:=⟨_,rfl⟩
   have hlT:T<w3.heap.size:=HK.out.2.2.1.typ.lt
   have hlX:X<w3.heap.size:=World.block_lt_of_cell? _ _ v2
   have b6:Below w3.heap.size w3 (w3.alloc (.cells #[.int .u8 119,.int .u8 ((wr:Int)+1),.int .u8 0] 5)).drew:=((Below.refl _ _).alloc (Nat.le_refl _) _).drew
   have e2:=(b6.cell (p:=⟨X,2,none⟩) hlX).trans v2
   have e5:=(b6.cell (p:=⟨T,5,none⟩) hlT).trans v5
   have hcv:(convert 61 9 (.slice (some ⟨w3.heap.size,0,none⟩) 3 3)).run Tryz.prog (w3.alloc (.cells #[.int .u8 119,.int .u8 ((wr:Int)+1),.int .u8 0] 5)).drew = .ok (.string d) (w3.alloc (.cells #[.int .u8 119,.int .u8 ((wr:Int)+1),.int .u8 0] 5)).drew:=by
    rw[<- hd]
    refine Wire.za9 ⟨w3.heap.size,0,none⟩ [119,(wr:Int)+1,0] 3 fun j v hj=>?_
    have hc:=cell_of_row (w3.alloc (.cells #[.int .u8 119,.int .u8 ((wr:Int)+1),.int .u8 0] 5)).drew w3.heap.size j _ _ _ (heap_alloc_new w3 _)
    have hz:(⟨w3.heap.size,0,none⟩:Addr).add j=⟨w3.heap.size,j,none⟩:=by
     simp[Addr.add]
     exact fun q=>q.symm
    rw[hz,hc,<- hj]
    simp
   have hwd:=HK.out.2.2.1.below b6
   have hgd:=HK.out.2.1
   obtain⟨H,L,b,C,g1,g2,g3,g4,g5⟩:=hgd.ex
   have htx:TxtIs d (wr+1):=by rw[<- hd];exact zub (by omega)
   have hcall:=fun o=>zfv A s kn C o d _ hwd.wd (by have:=HK.out.2.2.2.2;omega) g3 (by omega) (by rw[htx.1];omega)
   have HQ:Hid (∀ o w4,WdIs w4 A (if (s.seat kn).k.writeE o d=0 then s.write kn o d else s)->Fz A s (w3.alloc (.cells #[.int .u8 119,.int .u8 ((wr:Int)+1),.int .u8 0] 5)).drew A (if (s.seat kn).k.writeE o d=0 then s.write kn o d else s) w4->Hid (Done w w4 T A s lies (i+1) (rbOf 1 xk s.n))):=fun o w4 dd ff=>by
    have hnn:=HK.out.2.2.2.2
    have hfin:∀ s',WdIs w4 A s'->Fz A s (w3.alloc (.cells #[.int .u8 119,.int .u8 ((wr:Int)+1),.int .u8 0] 5)).drew A s' w4->Tm s s'->Good s' (wr+1) lies (i+1)->Lif s s'->Done w w4 T A s lies (i+1) (rbOf 1 xk s.n):=fun s' a1 a2 a3 a4 a5=>⟨A,s',wr+1,hwd.moved a1 a2 a3,a4,⟨zas (by omega) a5,a3,(HK.out.2.2.2.1.2.trans (KpI.below b6)).trans (a2.ints hwd.wd)⟩,fun N hT hN hL=>by
     obtain⟨u1,u2⟩:=HK.out.2.2.2.1.1 N hT hN hL
     have u3:=u2.step (HK.out.2.2.1.wd.below b6).2 (by omega)
     exact⟨(u1.trans (b6.mono (by omega))).trans (a2.below u3 hwd.wd.lt),u3.step a2 (by have:=b6.size;omega)⟩⟩
    by_cases hf:(s.seat kn).k.writeE o d=0
    ·rw[if_pos hf] at dd ff
     exact hfin _ dd ff (zc3 _ _ _) (hgd.write (by omega) htx hf) (zen _ _ _)
    ·rw[if_neg hf] at dd ff
     exact hfin _ dd ff (Tm.refl s) (hgd.idle (by omega) (by omega)) (fun _=>rfl)
   clear hwd hgd g1 g2 g3 g5 htx hd b6
   have hS0:w3.drew.cell? ⟨X,2,none⟩=some (.int .i64 xa)/\w3.drew.cell? ⟨T,5,none⟩=some (.int .i64 ((wr:Int)+1)):=⟨v2,v5⟩
   refine Gen.start (S:=fun w'=>w'.cell? ⟨X,2,none⟩=some (.int .i64 xa)/\w'.cell? ⟨T,5,none⟩=some (.int .i64 ((wr:Int)+1))) (by kernel_rfl) hS0 (fun zzg=>?_)
   refine Gen.tk 0 18 ?_ rfl rfl (Or.inl ⟨by rfl,?_⟩) zzg ?_;rotate_left
   ·rintro w' ⟨s0,s1⟩;go_simp;try with_reducible rfl
   go_frame
   refine Gen.tk 1 18 ?_ rfl rfl (Or.inl ⟨by rfl,?_⟩) zzg ?_;rotate_left
   ·rintro w' ⟨s0,s1⟩;go_simp;try with_reducible rfl
   go_frame
   refine Gen.tk 2 3 ?_ rfl rfl (Or.inl ⟨by rfl,?_⟩) zzg ?_;rotate_left
   ·rintro w' ⟨s0,s1⟩;go_simp;try with_reducible rfl
   go_frame
   refine Gen.tk 3 4 ?_ rfl rfl (Or.inl ⟨by rfl,?_⟩) zzg ?_;rotate_left
   ·rintro w' ⟨s0,s1⟩;go_simp;try with_reducible rfl
   go_frame
   refine Gen.tk 5 6 ?_ rfl rfl (Or.inl ⟨by rfl,?_⟩) zzg ?_;rotate_left
   ·rintro w' ⟨s0,s1⟩;go_simp;try with_reducible rfl
   go_frame
   refine Gen.tk 6 7 ?_ rfl rfl (Or.inl ⟨by rfl,?_⟩) zzg ?_;rotate_left
   ·rintro w' ⟨s0,s1⟩;go_simp;try with_reducible rfl
   go_frame
   refine Gen.tk 7 8 ?_ rfl rfl (Or.inl ⟨by rfl,?_⟩) zzg ?_;rotate_left
   ·rintro w' ⟨s0,s1⟩;go_simp;try with_reducible rfl
   go_frame
   refine Gen.tk 8 9 ?_ rfl rfl (Or.inl ⟨by rfl,?_⟩) zzg ?_;rotate_left
   ·rintro w' ⟨s0,s1⟩;go_simp;try with_reducible rfl
   go_frame
   refine Gen.tk 9 16 ?_ rfl rfl (Or.inl ⟨by rfl,?_⟩) zzg ?_;rotate_left
   ·rintro w' ⟨s0,s1⟩;go_simp;try with_reducible rfl
   go_frame
   refine Gen.tk 10 11 ?_ rfl rfl (Or.inl ⟨by rfl,?_⟩) zzg ?_;rotate_left
   ·rintro w' ⟨s0,s1⟩;go_simp;try with_reducible rfl
   go_frame
   refine Gen.tk 11 12 ?_ rfl rfl (Or.inl ⟨by rfl,?_⟩) zzg ?_;rotate_left
   ·rintro w' ⟨s0,s1⟩;go_simp;try with_reducible rfl
   go_frame
   refine Gen.tk 12 13 ?_ rfl rfl (Or.inl ⟨by rfl,?_⟩) zzg ?_;rotate_left
   ·rintro w' ⟨s0,s1⟩;go_simp;try with_reducible rfl
   go_frame
   refine Gen.tk 13 14 ?_ rfl rfl (Or.inl ⟨by rfl,?_⟩) zzg ?_;rotate_left
   ·rintro w' ⟨s0,s1⟩;go_simp;try with_reducible rfl
   go_frame
   refine Gen.tk 14 15 ?_ rfl rfl (Or.inl ⟨by rfl,?_⟩) zzg ?_;rotate_left
   ·rintro w' ⟨s0,s1⟩;go_simp;try with_reducible rfl
   go_frame
   refine Gen.tk 15 16 ?_ rfl rfl (Or.inl ⟨by rfl,?_⟩) zzg ?_;rotate_left
   ·rintro w' ⟨s0,s1⟩;go_simp;try with_reducible rfl
   go_frame
   refine Gen.two (i:=4) (j:=16) (by kernel_rfl) rfl rfl rfl rfl (fun K hK=>?_) (fun K hK=>?_)
   ·go_simp
    refine(zal xa 3 _ (by omega) (by omega)).mono ?_
    rintro e w5 ⟨o,o0,o1,rfl,rfl⟩
    dsimp only
    refine hK.out _ _ zzg (fun zzg=>?_)
    clear hK K
    try go_frame
    refine Gen.one (i:=16) (by kernel_rfl) rfl rfl (fun K hK=>?_)
    go_simp
    refine hK.out _ _ ⟨e2,e5⟩ (fun zzg=>?_)
    clear hK K
    try go_frame
    refine Gen.one (i:=17) (by kernel_rfl) rfl rfl (fun K hK=>?_)
    go_simp
    refine hK.out _ _ ⟨e2,e5⟩ (fun zzg=>?_)
    clear hK K
    try go_frame
    refine Gen.last (i:=18) (by kernel_rfl) rfl rfl (by kernel_rfl) (by kernel_rfl) (fun K hK=>?_)
    go_simp
    refine(hcall o).mono ?_
    rintro e w4 ⟨rfl,dd,ff⟩
    have HF:Hid (Done w w4 T A s lies (i+1) (rbOf 1 xk s.n)):=HQ.out o w4 dd ff
    dsimp only
    refine hK.out _ _ ?_
    clear hK K zzg dd ff hcall HQ HK
    go_wp2_with fail
    go_end0
    exact⟨rfl,HF.out⟩
   ·go_simp
    refine hK.out _ _ ⟨e2,e5⟩ (fun zzg=>?_)
    clear hK K
    try go_frame
    refine Gen.two (i:=4) (j:=17) (by kernel_rfl) rfl rfl rfl rfl (fun K hK=>?_) (fun K hK=>?_)
    ·go_simp
     refine(zal xa 3 _ (by omega) (by omega)).mono ?_
     rintro e w5 ⟨o,o0,o1,rfl,rfl⟩
     dsimp only
     refine hK.out _ _ ⟨e2,e5⟩ (fun zzg=>?_)
     clear hK K
     try go_frame
     refine Gen.one (i:=17) (by kernel_rfl) rfl rfl (fun K hK=>?_)
     go_simp
     refine hK.out _ _ ⟨e2,e5⟩ (fun zzg=>?_)
     clear hK K
     try go_frame
     refine Gen.last (i:=18) (by kernel_rfl) rfl rfl (by kernel_rfl) (by kernel_rfl) (fun K hK=>?_)
     go_simp
     refine(hcall o).mono ?_
     rintro e w4 ⟨rfl,dd,ff⟩
     have HF:Hid (Done w w4 T A s lies (i+1) (rbOf 1 xk s.n)):=HQ.out o w4 dd ff
     dsimp only
     refine hK.out _ _ ?_
     clear hK K zzg dd ff hcall HQ HK
     go_wp2_with fail
     go_end0
     exact⟨rfl,HF.out⟩
    ·go_simp
     refine hK.out _ _ ⟨e2,e5⟩ (fun zzg=>?_)
     clear hK K
     try go_frame
     refine Gen.one (i:=4) (by kernel_rfl) rfl rfl (fun K hK=>?_)
     go_simp
     refine(zal xa 3 _ (by omega) (by omega)).mono ?_
     rintro e w5 ⟨o,o0,o1,rfl,rfl⟩
     dsimp only
     refine hK.out _ _ ⟨e2,e5⟩ (fun zzg=>?_)
     clear hK K
     try go_frame
     refine Gen.last (i:=18) (by kernel_rfl) rfl rfl (by kernel_rfl) (by kernel_rfl) (fun K hK=>?_)
     go_simp
     refine(hcall o).mono ?_
     rintro e w4 ⟨rfl,dd,ff⟩
     have HF:Hid (Done w w4 T A s lies (i+1) (rbOf 1 xk s.n)):=HQ.out o w4 dd ff
     dsimp only
     refine hK.out _ _ ?_
     clear hK K zzg dd ff hcall HQ HK
     go_wp2_with fail
     go_end0
     exact⟨rfl,HF.out⟩
  by_cases q2:xw=2
  ·subst q2
   obtain⟨h,hG,hb,h2,hn⟩:=HH.out
   obtain⟨H,L,b,C,g1,g2,g3,g4,g5⟩:=hG.ex
   have hcall:=zfs A s kn C w2 h2.wd (by omega) g3 (by omega)
   clear h hG hb h2 g1 g2 g3 g5
   go_wp2_with fail
   refine hcall.mono ?_
   rintro e w4 ⟨rfl,d,f⟩
   have HF:Hid (Done w w4 T A s lies (i+1) (rbOf 2 xk s.n)):=by
    obtain⟨h,hG,hb,h2,hn⟩:=HH.out
    exact Done.mk h hb d f (Tm.trans (b:={ s with step:=s.step+1 }) ⟨rfl,rfl,rfl,rfl⟩ (zjl _ kn)) (hG.keep (fun H L b cb k _=>k.again (by omega)) (fun C k=>(k.again (by omega)).mono (by omega)) (by omega)) (zas (by omega) (zhf s kn))
   clear hcall d f
   clear HH
   go_wp2_with fail
   go_end0
   exact⟨rfl,HF.out⟩
  by_cases q3:xw=3
  ·subst q3
   obtain⟨h,hG,hb,h2,hn⟩:=HH.out
   obtain⟨H,L,b,C,g1,g2,g3,g4,g5⟩:=hG.ex
   have hcall:=zh5 A s jn C w2 h2.wd hjn g3 (by omega)
   clear h hG hb h2 g1 g2 g3 g5
   go_wp2_with fail
   refine hcall.mono ?_
   rintro e w4 ⟨rfl,d,f⟩
   have HF:Hid (Done w w4 T A s lies (i+1) (rbOf 3 xk s.n)):=by
    obtain⟨h,hG,hb,h2,hn⟩:=HH.out
    exact Done.mk h hb d f (zjm s jn) (hG.keep (fun H L b cb k q=>k.deliver q jn) (fun C k=>(k.deliver jn).mono (by omega)) (by omega)) (zas (by omega) (zia s jn))
   clear hcall d f
   clear HH
   go_wp2_with fail
   go_end0
   exact⟨rfl,HF.out⟩
  by_cases q4:xw=4
  ·subst q4
   obtain⟨h,hG,hb,h2,hn⟩:=HH.out
   obtain⟨H,L,b,C,g1,g2,g3,g4,g5⟩:=hG.ex
   have hcall:=zwb A s jn C w2 h2.wd hjn g3
   clear h hG hb h2 g1 g2 g3 g5
   go_wp2_with fail
   refine hcall.mono ?_
   rintro e w4 ⟨rfl,d,f⟩
   have HF:Hid (Done w w4 T A s lies (i+1) (rbOf 4 xk s.n)):=by
    obtain⟨h,hG,hb,h2,hn⟩:=HH.out
    exact Done.mk h hb d f ⟨rfl,rfl,rfl,rfl⟩ (hG.keep (fun H L b cb k _=>⟨L,k.lose jn⟩) (fun C k=>(k.lose jn).mono (by omega)) (by omega)) (zas (by omega) (fun _=>rfl))
   clear hcall d f
   clear HH
   go_wp2_with fail
   go_end0
   exact⟨rfl,HF.out⟩
  by_cases q5:xw=5
  ·subst q5
   obtain⟨h,hG,hb,h2,hn⟩:=HH.out
   obtain⟨H,L,b,C,g1,g2,g3,g4,g5⟩:=hG.ex
   have hcall:=ztd A s jn w2 h2.wd hjn
   clear h hG hb h2 g1 g2 g3 g5
   go_wp2_with fail
   refine hcall.mono ?_
   rintro e w4 ⟨rfl,d,f⟩
   have HF:Hid (Done w w4 T A s lies (i+1) (rbOf 5 xk s.n)):=by
    obtain⟨h,hG,hb,h2,hn⟩:=HH.out
    exact Done.mk h hb d f (zwj s jn) (hG.keep (fun H L b cb k _=>⟨L,k.twice jn⟩) (fun C k=>(k.twice jn).mono (by omega)) (by omega)) (zas (by omega) ((zt7 s jn).lif))
   clear hcall d f
   clear HH
   go_wp2_with fail
   go_end0
   exact⟨rfl,HF.out⟩
  by_cases q6:xw=6
  ·subst q6
   obtain⟨h,hG,hb,h2,hn⟩:=HH.out
   obtain⟨H,L,b,C,g1,g2,g3,g4,g5⟩:=hG.ex
   have hcall:=zk4 T C A s wr xa xb lies w2 h2 g3 (by omega)
   clear h hG hb h2 g1 g2 g3 g5
   go_wp2_with fail
   refine hcall.mono ?_
   rintro e w4 ⟨rfl,g,b0,ff,q0,q1,q2,q3,d,f⟩
   have HF:Hid (Done w w4 T A s lies (i+1) (rbOf 6 xk s.n)):=by
    obtain⟨h,hG,hb,h2,hn⟩:=HH.out
    unfold GoOk at q2 q3
    exact Done.mk h hb d f (zj4 _ _ _) (hG.goes (g:=g) (by omega) ⟨q2.1,q2.2.1⟩ (fun k hk=>⟨(q3 k hk).1,(q3 k hk).2.1⟩) fun q=>⟨(q2.2.2 q).2,fun k hk=>((q3 k hk).2.2 q).1⟩) (zas (by omega) ((zd7 _ _ _).lif))
   clear hcall d f q2 q3
   clear HH
   go_wp2_with fail
   go_end0
   exact⟨rfl,HF.out⟩
  by_cases q7:xw=7
  ·subst q7
   obtain⟨h,hG,hb,h2,hn⟩:=HH.out
   have h2d:=(h2.below (Below.refl w2.heap.size w2).drew).wd
   have hfl:=fun a b=>zg0 A s a b w2.drew h2d
   have hS0:w2.drew.cell? ⟨X,2,none⟩=some (.int .i64 xa)/\w2.drew.cell? ⟨X,3,none⟩=some (.int .i64 xb):=⟨y2,y3⟩
   clear h hG hb h2 h2d
   go_upto_region 23 with fail
   refine Gen.start (S:=fun w'=>w'.cell? ⟨X,2,none⟩=some (.int .i64 xa)/\w'.cell? ⟨X,3,none⟩=some (.int .i64 xb)) (by kernel_rfl) hS0 (fun zzg=>?_)
   refine Gen.tk 0 8 ?_ rfl rfl (Or.inl ⟨by rfl,?_⟩) zzg ?_;rotate_left
   ·rintro w' ⟨s0,s1⟩;go_simp;try with_reducible rfl
   go_frame
   refine Gen.tk 1 2 ?_ rfl rfl (Or.inl ⟨by rfl,?_⟩) zzg ?_;rotate_left
   ·rintro w' ⟨s0,s1⟩;go_simp;try with_reducible rfl
   go_frame
   refine Gen.tk 2 3 ?_ rfl rfl (Or.inl ⟨by rfl,?_⟩) zzg ?_;rotate_left
   ·rintro w' ⟨s0,s1⟩;go_simp;try with_reducible rfl
   go_frame
   refine Gen.tk 4 5 ?_ rfl rfl (Or.inl ⟨by rfl,?_⟩) zzg ?_;rotate_left
   ·rintro w' ⟨s0,s1⟩;go_simp;try with_reducible rfl
   go_frame
   refine Gen.tk 5 6 ?_ rfl rfl (Or.inl ⟨by rfl,?_⟩) zzg ?_;rotate_left
   ·rintro w' ⟨s0,s1⟩;go_simp;try with_reducible rfl
   go_frame
   refine Gen.one (i:=3) (by kernel_rfl) rfl rfl (fun K hK=>?_)
   go_simp
   refine(zal xa 3 _ (by omega) (by omega)).mono ?_
   rintro e w5 ⟨pa,pa0,pa1,rfl,rfl⟩
   dsimp only
   refine hK.out _ _ zzg (fun zzg=>?_)
   clear hK K
   try go_frame
   refine Gen.one (i:=6) (by kernel_rfl) rfl rfl (fun K hK=>?_)
   go_simp
   refine(zal xb 60 _ (by omega) (by omega)).mono ?_
   rintro e w5 ⟨pb,pb0,pb1,rfl,rfl⟩
   have hwq:IntKind.i64.wrap (pb-1)=pb-1:=wrapI (by omega) (by omega)
   dsimp only
   refine hK.out _ _ zzg (fun zzg=>?_)
   clear hK K
   try go_frame
   refine Gen.tk 7 8 ?_ rfl rfl (Or.inl ⟨by rfl,?_⟩) zzg ?_;rotate_left
   ·rintro w' ⟨s0,s1⟩;go_simp;try with_reducible rfl
   go_frame
   refine Gen.last (i:=8) (by kernel_rfl) rfl rfl (by kernel_rfl) (by kernel_rfl) (fun K hK=>?_)
   go_simp
   refine(hfl pa (pb-1)).mono ?_
   rintro e w4 ⟨rfl,d,f⟩
   have HF:Hid (Done w w4 T A s lies (i+1) (rbOf 7 xk s.n)):=by
    obtain⟨h,hG,hb,h2,hn⟩:=HH.out
    exact Done.mk h hb.drew d f (zb2 _ _ _) (hG.zy3 (by omega) _) (zas (by omega) ((zbt _ _ _).lif))
   dsimp only
   refine hK.out _ _ ?_
   clear hK K zzg d f hfl
   clear HH
   go_wp2_with fail
   go_end0
   exact⟨rfl,HF.out⟩
  by_cases q8:xw=8
  ·subst q8
   obtain⟨h,hG,hb,h2,hn⟩:=HH.out
   obtain⟨H,L,b,C,g1,g2,g3,g4,g5⟩:=hG.ex
   have hcall:=zkr A s C w2 h2.wd g3 (by omega)
   clear h hG hb h2 g1 g2 g3 g5
   go_wp2_with fail
   refine hcall.mono ?_
   rintro e w4 ⟨rfl,d,f⟩
   have HF:Hid (Done w w4 T A s lies (i+1) (rbOf 8 xk s.n)):=by
    obtain⟨h,hG,hb,h2,hn⟩:=HH.out
    exact Done.mk h hb d f ⟨rfl,rfl,rfl,rfl⟩ hG.crash (zas (by omega) (fun _=>rfl))
   clear hcall d f
   clear HH
   go_wp2_with fail
   go_end0
   exact⟨rfl,HF.out⟩
  by_cases q9:xw=9
  ·subst q9
   obtain⟨h,hG,hb,h2,hn⟩:=HH.out
   obtain⟨H,L,b,C,g1,g2,g3,g4,g5⟩:=hG.ex
   have hok:=g1.calmOk (by omega)
   have hcall:=zez A s C w2 h2.wd g3 (by omega) hok.1 hok.2
   clear hok
   have hnf:s.sv=none->s.rs.length<200:=(g1.calmOk (by omega)).1
   clear h hG hb h2 g1 g2 g3 g5
   go_wp2_with fail
   refine hcall.mono ?_
   rintro e w4 ⟨he,a,d,f⟩
   generalize eV (if s.sv.isSome=true then 6 else 0)=ev at he
   subst he
   have HF:Hid (Done w w4 T A s lies (i+1) (rbOf 9 xk s.n)):=by
    obtain⟨h,hG,hb,h2,hn⟩:=HH.out
    exact Done.mk h hb d f (zf1 s) (hG.keep (fun H L b cb k q=>⟨L,k.restart q⟩) (fun C k=>(k.restart' (fun q=>hnf q)).mono (by omega)) (by omega)) (zas (by omega) ((ze3 s).lif))
   clear hcall d f
   clear HH
   go_wp2_with fail
   go_end0
   exact⟨rfl,HF.out⟩
  by_cases q10:xw=10
  ·subst q10
   obtain⟨h,hG,hb,h2,hn⟩:=HH.out
   obtain⟨H,L,b,C,g1,g2,g3,g4,g5⟩:=hG.ex
   have hcall:=zjf A s kn C w2 h2.wd (by omega) g3 (by omega)
   clear h hG hb h2 g1 g2 g3 g5
   go_wp2_with fail
   refine hcall.mono ?_
   rintro e w4 ⟨rfl,A',d,f⟩
   have HF:Hid (Done w w4 T A s lies (i+1) (rbOf 10 xk s.n)):=by
    obtain⟨h,hG,hb,h2,hn⟩:=HH.out
    exact Done.mk h hb d f ⟨rfl,rfl,rfl,rfl⟩ (hG.keep (fun H L b cb k _=>⟨L,k.reborn (by omega)⟩) (fun C k=>(k.reborn (by omega)).mono (by omega)) (by omega)) (zuc (by rw[hn];exact HKV.out))
   clear hcall d f
   clear HH
   go_wp2_with fail
   go_end0
   exact⟨rfl,HF.out⟩
  by_cases q11:xw=11
  ·subst q11
   cases lies
   ·obtain⟨h,hG,hb,h2,hn⟩:=HH.out
    obtain⟨H,L,b,C,g1,g2,g3,g4,g5⟩:=hG.ex
    have hok:∀ r:Nat,r<=3->∀ j,j<r->CalmOk (s.calm j):=fun r hr j hj=>by
     obtain⟨L',k⟩:=g1.calm (by omega) (by omega) j (by omega)
     exact k.calmOk (by omega)
    have hcall:=fun (r:Nat) (hr:r<=3)=>zc0 A s C r w2 h2.wd g3 (by omega) (hok r hr)
    have HG:Hid (∀ r:Nat,r<=3->Good (s.calm r) wr false (i+1)):=fun r hr=>hG.calm hi h2.wd.n4 hr (hok r hr)
    clear h hG hb h2 g1 g2 g3 g5 hok
    go_wp2_with fail
    refine(zal xa 4 _ (by omega) (by omega)).mono ?_
    rintro e w2 ⟨r,r0,r1,rfl,rfl⟩
    obtain⟨rn,rfl⟩:∃ rn:Nat,r=(rn:Int):=⟨r.toNat,by omega⟩
    go_wp2_with fail
    refine(hcall rn (by omega)).mono ?_
    rintro e w4 ⟨rfl,a,d,f⟩
    have HF:Hid (Done w w4 T A s false (i+1) (rbOf 11 xk s.n)):=by
     obtain⟨h,hG,hb,h2,hn⟩:=HH.out
     exact Done.mk h hb d f (zci s rn) (HG.out rn (by omega)) (zas (by omega) (zd8 s rn))
    clear hcall d f HG
    clear HH
    go_wp2_with fail
    go_end0
    exact⟨rfl,HF.out⟩
   ·obtain⟨h,hG,hb,h2,hn⟩:=HH.out
    have HF:Hid (Done w w2 T A s true (i+1) (rbOf 11 xk s.n)):=Done.still h hb (hG.idle (Nat.le_refl _) (by have:=hG.wr;omega)) (zas (by omega) fun _=>rfl)
    clear h hG hb h2 hn
    clear HH
    go_wp2_with fail
    go_end0
    exact⟨rfl,HF.out⟩
  obtain⟨h,hG,hb,h2,hn⟩:=HH.out
  have HF:Hid (Done w w2 T A s lies (i+1) (rbOf xw xk s.n)):=Done.still h hb (hG.idle (Nat.le_refl _) (by have:=hG.wr;omega)) (zas (by omega) fun _=>rfl)
  clear h hG hb h2 hn
  clear HH
  go_wp2_with fail
  go_end0
  exact⟨rfl,HF.out⟩
end Wld
end
end Go.Proofs.YtbebfliimjjohabGreatDoor
