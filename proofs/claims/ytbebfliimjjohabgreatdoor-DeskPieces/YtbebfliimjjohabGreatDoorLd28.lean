/- Parts of the proof. -/
import Derived.Test.YtbebfliimjjohabGreatDoorLd27
import Derived.Maps.RangeWalk
set_option maxRecDepth 100000
set_option maxHeartbeats 8000000
namespace Go.Proofs.YtbebfliimjjohabGreatDoor
section
namespace Wld
open Go.RowKit Go.Maps
open Lease (Ob I64 upd TabIs hol dels objB HasI map_block map_ne mx)
open Cache (tp row_kept row_below)
open Wal (R WalIs DiskIs Oq Fw rcells)
open Num (M okB strOf ints)
open Net (NetIs Only pcells)
def seated(w:World)(G k c:Nat)(life:Int):World:=((w.setCell ⟨G,k*4,none⟩ (tp c)).setCell ⟨G,k*4+2,none⟩ (.int .i64 life)).setCell ⟨G,k*4+3,none⟩ (.int .i64 (-1))
theorem enter_low(Q G n k:Nat)(tob tv td life:Int)(w:World)(hsts:w.cell? ⟨Q,12409,none⟩=some (.slice (some ⟨G,0,none⟩) n n))(h0:w.cell? ⟨Q,0,none⟩=some (.int .i64 tob))(h1:w.cell? ⟨Q,1,none⟩=some (.int .i64 tv))(h2:w.cell? ⟨Q,2,none⟩=some (.int .i64 td))(hk:k<n)(hn:n≤4)
  (u0 u2 u3:Value) (g0:w.cell? ⟨G,k*4,none⟩=some u0) (g2:w.cell? ⟨G,k*4+2,none⟩=some u2) (g3:w.cell? ⟨G,k*4+3,none⟩=some u3) (gf:∀ i,w.frozen? ⟨G,i,none⟩=false)
  (ho0:0≤tob) (ho:tob≤1099511627776) (hv0:0≤tv) (hv:tv≤1099511627776) (hd0:0≤td) (hd:td≤500) (hl0:0≤life) (hl1:life≤1000000000000) :
  Calls Tryz.prog 57 #[tp Q,.int .i64 k,.int .i64 life] w fun e w'=>e = .returned (.tuple #[])∧∃ c q w2,Below w.heap.size w w2∧CliIs w2 c q (K.new (life*4+k) (short td tob) (short td tv))∧w.heap.size≤c∧w.heap.size≤q∧w'=seated w2 G k c life:=by
 have hlt:=World.block_lt_of_cell? _ _ g0
 dsimp only at hlt
 have hnew:=new_any tob tv td (life*4+k) w ho0 ho hv0 hv hd0 hd
 have hk0:(0:Int)≤(k:Int):=by omega
 have hkn:(k:Int)<(n:Int):=by omega
 have hw1:IntKind.i64.wrap (life*4)=life*4:=wrapI (by omega) (by omega)
 have hw2:IntKind.i64.wrap (life*4+(k:Int))=life*4+(k:Int):=wrapI (by omega) (by omega)
 go_enter Tryz.func57,Tryz.ntmps57
 go_wp2_with fail
 refine hnew.mono ?_
 rintro e w2 ⟨c,q,rfl,hC,hc,hq,hb⟩
 have r0:=(hb.cell (p:=⟨G,k*4,none⟩) hlt).trans g0
 have r2:=(hb.cell (p:=⟨G,k*4+2,none⟩) hlt).trans g2
 have r3:=(hb.cell (p:=⟨G,k*4+3,none⟩) hlt).trans g3
 have rf:=fun i=>(hb.frozen (p:=⟨G,i,none⟩) hlt).trans (gf i)
 have rf0:=rf (k*4)
 have rf2:=rf (k*4+2)
 have rf3:=rf (k*4+3)
 have HP:Hid (∃ c' q' w2',Below w.heap.size w w2'∧CliIs w2' c' q' (K.new (life*4+k) (short td tob) (short td tv))∧w.heap.size≤c'∧w.heap.size≤q'∧seated w2 G k c life=seated w2' G k c' life):=⟨c,q,w2,hb,hC,hc,hq,rfl⟩
 unfold seated at HP
 clear hnew hC hb rf g0 g2 g3 gf hsts h0 h1 h2
 go_wp2_with fail
 go_end0
 exact⟨rfl,HP.out⟩
theorem seated_other(w:World)(G k c:Nat)(life:Int)(x:Nat)(hx:x≠G):(seated w G k c life).heap[x]?=w.heap[x]?:=by
 unfold seated
 rw[Below.heap_setCell _ ⟨G,k*4+3,none⟩ _ x hx,Below.heap_setCell _ ⟨G,k*4+2,none⟩ _ x hx,Below.heap_setCell _ ⟨G,k*4,none⟩ _ x hx]
theorem seated_meta(w:World)(G k c:Nat)(life:Int):(seated w G k c life).heap.size=w.heap.size∧(seated w G k c life).os=w.os∧(seated w G k c life).tape=w.tape∧(seated w G k c life).output=w.output:=by
 unfold seated
 exact⟨by simp,rfl,rfl,rfl⟩
theorem seated_cell(w:World)(G k c:Nat)(life:Int)(i:Nat)(hi:i≠k*4)(hi2:i≠k*4+2)(hi3:i≠k*4+3):(seated w G k c life).cell? ⟨G,i,none⟩=w.cell? ⟨G,i,none⟩:=by
 unfold seated
 rw[World.cell?_setCell_other _ _ _ _ (by intro q;injection q with _ q;omega),World.cell?_setCell_other _ _ _ _ (by intro q;injection q with _ q;omega),World.cell?_setCell_other _ _ _ _ (by intro q;injection q with _ q;omega)]
theorem seated_new(w:World)(G k c:Nat)(life:Int){u0 u2 u3:Value}(g0:w.cell? ⟨G,k*4,none⟩=some u0)(g2:w.cell? ⟨G,k*4+2,none⟩=some u2)(g3:w.cell? ⟨G,k*4+3,none⟩=some u3):(seated w G k c life).cell? ⟨G,k*4,none⟩=some (tp c)∧(seated w G k c life).cell? ⟨G,k*4+2,none⟩=some (.int .i64 life)∧(seated w G k c life).cell? ⟨G,k*4+3,none⟩=some (.int .i64 (-1)):=by
 have e2:(w.setCell ⟨G,k*4,none⟩ (tp c)).cell? ⟨G,k*4+2,none⟩=some u2:=by rw[World.cell?_setCell_other _ _ _ _ (by intro q;injection q with _ q;omega)];exact g2
 have e3:((w.setCell ⟨G,k*4,none⟩ (tp c)).setCell ⟨G,k*4+2,none⟩ (.int .i64 life)).cell? ⟨G,k*4+3,none⟩=some u3:=by
  rw[World.cell?_setCell_other _ _ _ _ (by intro q;injection q with _ q;omega),World.cell?_setCell_other _ _ _ _ (by intro q;injection q with _ q;omega)]
  exact g3
 unfold seated
 refine⟨?_,?_,World.cell?_setCell_same _ _ _ e3⟩
 ·rw[World.cell?_setCell_other _ _ _ _ (by intro q;injection q with _ q;omega),World.cell?_setCell_other _ _ _ _ (by intro q;injection q with _ q;omega)]
  exact World.cell?_setCell_same _ _ _ g0
 ·rw[World.cell?_setCell_other _ _ _ _ (by intro q;injection q with _ q;omega)]
  exact World.cell?_setCell_same _ _ _ e2
theorem seated_fro(w:World)(G k c:Nat)(life:Int)(p:Addr):(seated w G k c life).frozen? p=w.frozen? p:=by
 unfold seated
 rw[World.frozen?_setCell,World.frozen?_setCell,World.frozen?_setCell]
theorem WdIs.entered{w w2:World}{A:Wa}{s:Wd}{k c q:Nat}{life:Int}{kn:K}(h:WdIs w A s)(hk:k<s.n)(hb:Below w.heap.size w w2)(hC:CliIs w2 c q kn)(hc:w.heap.size≤c)(hq:w.heap.size≤q) :
  WdIs (seated w2 A.G k c life) { A with c:=updN A.c k c,m:=updN A.m k q } { s with seat:=updN s.seat k { s.seat k with k:=kn,life:=life,call:=-1 } }∧Fz A s w { A with c:=updN A.c k c,m:=updN A.m k q } { s with seat:=updN s.seat k { s.seat k with k:=kn,life:=life,call:=-1 } } (seated w2 A.G k c life):=by
 obtain⟨x,_⟩:=h.below hb
 have hlt:=h.lt
 obtain⟨kd0,kd1,kd2⟩:=h.kinds
 have hGlt:=h.gt.lt
 obtain⟨m1,m2,m3,m4⟩:=seated_meta w2 A.G k c life
 have hs2:=hb.size
 have o:∀ y,y≠A.G→(seated w2 A.G k c life).heap[y]?=w2.heap[y]?:=fun y hy=>seated_other w2 A.G k c life y hy
 have hbw:∀ y,y<w.heap.size→y≠A.G→(seated w2 A.G k c life).heap[y]?=w.heap[y]?:=fun y hy hG=>(o y hG).trans (hb.block y hy)
 have hQ:=o A.Q kd0
 have eQ:∀ i,(seated w2 A.G k c life).cell? ⟨A.Q,i,none⟩=w2.cell? ⟨A.Q,i,none⟩:=fun i=>World.cell?_of_block hQ
 have eQw:∀ i,(seated w2 A.G k c life).cell? ⟨A.Q,i,none⟩=w.cell? ⟨A.Q,i,none⟩:=fun i=>World.cell?_of_block (hbw A.Q hlt kd0)
 have fQ:∀ i,(seated w2 A.G k c life).frozen? ⟨A.Q,i,none⟩=w2.frozen? ⟨A.Q,i,none⟩:=fun i=>World.frozen?_of_block hQ
 have hN:NetIs (seated w2 A.G k c life) (A.Q+1) A.Q (s.net.map encN):=NetIs.kept x.net (by omega) (eQ _) (eQ _) fQ fun v g hv hg=>by
  obtain⟨v',hv',hr⟩:=x.net.row
  rw[hv] at hv'
  injection hv' with hv'
  subst hv'
  exact o g ((row_isC hr hg).2.ne x.gt (by decide))
 have hD:DiskIs (seated w2 A.G k c life) A.Q s.rs s.fails s.left:=DiskIs.cells x.disk (fun i _ _=>eQ i) fQ
 have hfoot:∀ v,s.sv=some v→∀ y,foot w2 A.a y→y≠A.a.q→(seated w2 A.G k c life).heap[y]?=w2.heap[y]?:=fun v hv y hy hyq=>o y fun e=>by
  have u:=x.up v hv
  have hyq':A.G≠A.a.q:=by rw[← e];exact hyq
  exact u.sv.notFoot x.gt hyq' (by decide) (by rw[← e];exact hy)
 have qk:=x.seats k hk
 obtain⟨n0,n2,n3⟩:=seated_new w2 A.G k c life qk.c0 qk.c2 qk.c3
 have cc:=x.core.cells (x.core.typ.same hQ) (fun i _ _=>eQ i) fQ
 have hsvp:svP { A with c:=updN A.c k c,m:=updN A.m k q } s.sv=svP A s.sv:=by cases s.sv<;>rfl
 refine⟨⟨⟨cc.typ,cc.free,cc.c0,cc.c1,cc.c2,cc.srv.trans (by rw[← hsvp]),cc.clk,cc.sts,cc.stp⟩,hD,hN,x.evs.imp fun v hv=>⟨(eQ _).trans hv.1,row_kept hv.2 fun g hg=>o g ((row_isC hv.2 hg).2.ne x.gt (by decide))⟩,?_,fun i=>by rw[seated_fro];exact x.gf i,fun l hl=>?_,fun l hl=>?_,fun i j hi hj hij=>?_,fun v hv=>?_,h.n1,h.n4⟩,
  ⟨m2.trans hb.os,m3.trans hb.tape,m4.trans hb.output,by omega,fun y hy hf _=>hbw y hy (fun e=>hf (.G e)),fun y hy f=>?_,rfl⟩⟩
 ·unfold seated
  exact Wal.typ_setCell (Wal.typ_setCell (Wal.typ_setCell x.gt))
 ·show SeatIs _ A.G l (updN A.c k c l) (updN s.seat k _ l)
  by_cases e:l=k
  ·subst e
   rw[updN_same,updN_same]
   exact⟨n0,(seated_cell w2 A.G l c life (l*4+1) (by omega) (by omega) (by omega)).trans qk.c1,n2,n3⟩
  ·rw[updN_other _ _ e,updN_other _ _ e]
   have y:=x.seats l hl
   exact⟨(seated_cell w2 A.G k c life _ (by omega) (by omega) (by omega)).trans y.c0,(seated_cell w2 A.G k c life _ (by omega) (by omega) (by omega)).trans y.c1,(seated_cell w2 A.G k c life _ (by omega) (by omega) (by omega)).trans y.c2,(seated_cell w2 A.G k c life _ (by omega) (by omega) (by omega)).trans y.c3⟩
 ·show CliIs _ (updN A.c k c l) (updN A.m k q l) (updN s.seat k _ l).k
  by_cases e:l=k
  ·subst e
   rw[updN_same,updN_same,updN_same]
   exact hC.blocks (o c (by omega)) (o q (by omega))
  ·rw[updN_other _ _ e,updN_other _ _ e,updN_other _ _ e]
   have kd:=kd1 l hl
   exact(x.cli l hl).blocks (o _ (Ne.symm kd.2.2.1)) (o _ (Ne.symm kd.2.2.2))
 ·show updN A.c k c i≠updN A.c k c j∧updN A.m k q i≠updN A.m k q j
  unfold updN
  have li:=(h.cli i hi).lt
  have lj:=(h.cli j hj).lt
  have ap:=h.ap i j hi hj hij
  split<;>split
  ·omega
  ·exact⟨by omega,by omega⟩
  ·exact⟨by omega,by omega⟩
  ·exact ap
 ·have u:=x.up v hv
  refine⟨u.sv.feet (by omega) (by rw[u.q,u.rs,u.fails,u.left];exact hD) (hfoot v hv),u.q,u.rs,u.fails,u.left,fun i hi e=>?_,u.to,u.tv⟩
  have e':updN A.m k q i=A.a.m:=e
  have hm:=(h.up v hv).sv.lts.2.2.1
  unfold updN at e'
  split at e'
  ·omega
  ·exact(h.up v hv).ne i hi e'
 ·rcases f with f|f|⟨v,f1,f2⟩|⟨i,hi,f⟩|⟨i,hi,f⟩|⟨f1,f2⟩
  ·exact .Q f
  ·exact .G f
  ·exact .ev v ((eQw _).symm.trans f1) f2
  ·have f':y=updN A.c k c i:=f
   unfold updN at f'
   split at f'
   ·omega
   ·exact .c i hi f'
  ·have f':y=updN A.m k q i:=f
   unfold updN at f'
   split at f'
   ·omega
   ·exact .m i hi f'
  ·obtain⟨v,hv⟩:=Option.isSome_iff_exists.1 f1
   have u:=x.up v hv
   have u0:=h.up v hv
   have hl:=u.sv.lts
   have hl0:=u0.sv.lts
   have f3:foot w2 A.a y:=(foot_kept (hfoot v hv _ (.inr (.inr (.inr (.inl rfl)))) (by omega)) (hfoot v hv _ (.inr (.inr (.inl rfl))) (by omega)) y).1 f2
   exact .sv f1 ((foot_kept (hb.block _ hl0.2.1) (hb.block _ hl0.2.2.2.2.1) y).1 f3)
theorem reborn_any(A:Wa)(s:Wd)(k C:Nat)(w:World)(h:WdIs w A s)(hk:k<s.n)(hB:WdB s C)(hC:C≤10000000000) :
  Calls Tryz.prog 32 #[tp A.Q,.int .i64 k] w fun e w'=>e = .returned .nilIface∧∃ A',WdIs w' A' (s.reborn k)∧Fz A s w A' (s.reborn k) w':=by
 have hh:=hasW_any A s k w h
 have hhk:s.has k=true:=by
  unfold Wd.has
  exact decide_eq_true ⟨by omega,by omega⟩
 rw[hhk] at hh
 have stp:=h.core.stp
 have fst:=h.core.free 12411
 obtain⟨x1,x2⟩:=h.setStep (s.step+1)
 have hwr:IntKind.i64.wrap (s.step+1)=s.step+1:=wrapI (by have:=hB.s0;omega) (by have:=hB.s1;omega)
 have hSB:=hB.st k hk
 have hwl:IntKind.i64.wrap ((s.seat k).life+1)=(s.seat k).life+1:=wrapI (by have:=hSB.l0;omega) (by have:=hSB.l1;omega)
 have y:=x1.seats k hk
 have hen:=enter_low A.Q A.G s.n k s.to s.tv s.td ((s.seat k).life+1) _ x1.core.sts x1.core.c0 x1.core.c1 x1.core.c2 hk x1.n4 _ _ _ y.c0 y.c2 y.c3 x1.gf hB.to0 (by have:=hB.to1;omega) hB.tv0 (by have:=hB.tv1;omega) hB.td0 hB.td1 (by have:=hSB.l0;omega) (by have:=hSB.l1;omega)
 have sts:=x1.core.sts
 have c2:=y.c2
 dsimp only at sts c2
 have hk0:(0:Int)≤(k:Int):=by omega
 have hkn:(k:Int)<(s.n:Int):=by omega
 have n4:=h.n4
 have HX:Hid (∀ c q w2,Below (w.setCell ⟨A.Q,12411,none⟩ (.int .i64 (s.step+1))).heap.size (w.setCell ⟨A.Q,12411,none⟩ (.int .i64 (s.step+1))) w2→CliIs w2 c q (K.new (((s.seat k).life+1)*4+k) (short s.td s.to) (short s.td s.tv))→(w.setCell ⟨A.Q,12411,none⟩ (.int .i64 (s.step+1))).heap.size≤c→(w.setCell ⟨A.Q,12411,none⟩ (.int .i64 (s.step+1))).heap.size≤q→∃ A',WdIs (seated w2 A.G k c ((s.seat k).life+1)) A' (s.reborn k)∧Fz A s w A' (s.reborn k) (seated w2 A.G k c ((s.seat k).life+1))):=fun c q w2 p1 p2 p3 p4=>by
  obtain⟨z1,z2⟩:=x1.entered (life:=(s.seat k).life+1) hk p1 p2 p3 p4
  exact⟨_,z1,x2.trans z2⟩
 clear h hB hhk hSB x1 x2 y
 go_enter Tryz.func32,Tryz.ntmps32
 go_wp2_with fail
 refine hh.mono ?_
 rintro e w2 ⟨rfl,rfl⟩
 go_upto_region 4 with fail
 generalize w2.setCell ⟨A.Q,12411,none⟩ (.int .i64 (s.step+1))=w3 at *
 go_wp2_with fail
 refine hen.mono ?_
 rintro e w4 ⟨rfl,c,q,w5,p1,p2,p3,p4,hw4⟩
 have HF:=HX.out c q w5 p1 p2 p3 p4
 rw[← hw4] at HF
 clear HX hen p1 p2 hw4
 go_wp2_with fail
 go_ret
 exact⟨rfl,HF⟩
theorem freeE_range{k:K}{o:Int}(h:k.freeE o=0):0≤o∧o≤7:=by
 unfold K.freeE at h
 split at h
 ·cases h
 ·split at h
  ·rename_i hb
   simp[Lease.objB,Num.inB] at hb
   omega
  ·cases h
structure Begun(w w':World)(A:Wa)(s:Wd)(k:Nat)(c:K):Prop where
 wd:WdIs w' A (s.setK k c)
 fz:Fz A s w A (s.setK k c) w'
theorem setK_same(s:Wd)(k:Nat):s.setK k (s.seat k).k=s:=by
 unfold Wd.setK
 have:updN s.seat k { s.seat k with k:=(s.seat k).k } = s.seat:=by
  funext j
  unfold updN
  split
  ·rename_i e;rw[e]
  ·rfl
 rw[this]
def K.readK(k:K)(o now:Int):K:=if k.freeE o=0 then k.reads o now else k
def K.writeK(k:K)(o:Int)(d:ByteArray)(now:Int):K:=if k.writeE o d=0 then k.begin 2 o d 0 false false now else k
theorem readK_any(c m:Nat)(k:K)(o now:Int)(C:Nat)(w:World)(h:CliIs w c m k)(hB:KB k C)(hC:C≤100000000000) :
  Calls Tryz.prog 42 #[tp c,.int .i64 o,.int .i64 now] w fun e w'=>e = .returned (eV (k.freeE o))∧CliIs w' c m (k.readK o now)∧Ob [c,m] w w':=by
 unfold K.readK
 by_cases he:k.freeE o=0
 ·rw[if_pos he,he]
  obtain⟨h0,h7⟩:=freeE_range he
  exact Read_ok c m k o now w h he hB.num0 (by have:=hB.num;omega) h0 h7 (by have:=hB.n;omega) (fun x hx=>(hB.kv x hx).1) _ rfl
 ·rw[if_neg he]
  refine(Read_bad c m k o now w h he).mono ?_
  rintro e w' ⟨rfl,rfl⟩
  exact⟨rfl,h,Ob.refl _ _⟩
theorem writeK_any(c m:Nat)(k:K)(o:Int)(d:ByteArray)(now:Int)(C:Nat)(w:World)(h:CliIs w c m k)(hB:KB k C)(hC:C≤100000000000)(hd:d.size≤1000000) :
  Calls Tryz.prog 60 #[tp c,.int .i64 o,.string d,.int .i64 now] w fun e w'=>e = .returned (eV (k.writeE o d))∧CliIs w' c m (k.writeK o d now)∧Ob [c,m] w w':=by
 unfold K.writeK
 by_cases he:k.writeE o d=0
 ·rw[if_pos he,he]
  exact Write_ok c m k o d now w h he hB.num0 (by have:=hB.num;omega)
 ·rw[if_neg he]
  refine(Write_bad c m k o d now w h hd he).mono ?_
  rintro e w' ⟨rfl,rfl⟩
  exact⟨rfl,h,Ob.refl _ _⟩
theorem readC_any(A:Wa)(s:Wd)(k p C:Nat)(o:Int)(w:World)(h:WdIs w A s)(hk:k<s.n)(hB:WdB s C)(hC:C≤100000000000)(hp:w.cell? ⟨p,0,none⟩=some (.int .i64 o))(hpc:p≠A.c k∧p≠A.m k) :
  Calls Tryz.prog 41 #[.pointer (some ⟨A.G,k*4,none⟩),tp p] w fun e w'=>e = .returned (eV ((s.seat k).k.freeE o))∧Begun w w' A s k ((s.seat k).k.readK o (s.seat k).clock):=by
 obtain⟨z1,z2⟩:=h.below (Below.refl w.heap.size w).drew
 have hrd:=readK_any (A.c k) (A.m k) (s.seat k).k o (s.seat k).clock C w.drew (z1.cli k hk) (hB.st k hk).k hC
 have c0:=(h.seats k hk).c0
 have c1:=(h.seats k hk).c1
 have HX:Hid (∀ w2,CliIs w2 (A.c k) (A.m k) ((s.seat k).k.readK o (s.seat k).clock)→Ob [A.c k,A.m k] w.drew w2→Begun w w2 A s k ((s.seat k).k.readK o (s.seat k).clock)):=fun w2 h1 h2=>by
  obtain⟨y1,y2⟩:=z1.client hk h1 h2
  exact⟨y1,z2.trans y2⟩
 have hpp:∀ w2,Ob [A.c k,A.m k] w.drew w2→w2.cell? ⟨p,0,none⟩=some (.int .i64 o):=fun w2 h2=>(World.cell?_of_block (a:=⟨p,0,none⟩) (h2.block p (World.block_lt_of_cell? _ _ hp) (by simp[hpc.1,hpc.2]))).trans hp
 clear h z1 z2 hB
 go_enter Tryz.func41,Tryz.ntmps41
 go_upto_region 1 with fail
 refine Gen.start (S:=fun w'=>w'.cell? ⟨A.G,k*4,none⟩=some (tp (A.c k))∧w'.cell? ⟨A.G,k*4+1,none⟩=some (.int .i64 (s.seat k).clock)∧w'.cell? ⟨p,0,none⟩=some (.int .i64 o)) (by kernel_rfl) ⟨c0,c1,hp⟩ (fun hHeld=>?_)
 refine Gen.tk 0 1 ?_ rfl rfl (Or.inl ⟨by rfl,?_⟩) hHeld ?_;rotate_left
 ·rintro w' ⟨s0,s1,s2⟩;go_simp;try with_reducible rfl
 go_frame
 refine Gen.tk 1 2 ?_ rfl rfl (Or.inl ⟨by rfl,?_⟩) hHeld ?_;rotate_left
 ·rintro w' ⟨s0,s1,s2⟩;go_simp;try with_reducible rfl
 go_frame
 refine Gen.tk 2 3 ?_ rfl rfl (Or.inl ⟨by rfl,?_⟩) hHeld ?_;rotate_left
 ·rintro w' ⟨s0,s1,s2⟩;go_simp;try with_reducible rfl
 go_frame
 refine Gen.tk 3 9 ?_ rfl rfl (Or.inl ⟨by rfl,?_⟩) hHeld ?_;rotate_left
 ·rintro w' ⟨s0,s1,s2⟩;go_simp;try with_reducible rfl
 go_frame
 refine Gen.tk 4 9 ?_ rfl rfl (Or.inl ⟨by rfl,?_⟩) hHeld ?_;rotate_left
 ·rintro w' ⟨s0,s1,s2⟩;go_simp;try with_reducible rfl
 go_frame
 refine Gen.tk 5 6 ?_ rfl rfl (Or.inl ⟨by rfl,?_⟩) hHeld ?_;rotate_left
 ·rintro w' ⟨s0,s1,s2⟩;go_simp;try with_reducible rfl
 go_frame
 refine Gen.tk 6 7 ?_ rfl rfl (Or.inl ⟨by rfl,?_⟩) hHeld ?_;rotate_left
 ·rintro w' ⟨s0,s1,s2⟩;go_simp;try with_reducible rfl
 go_frame
 refine Gen.tk 7 8 ?_ rfl rfl (Or.inl ⟨by rfl,?_⟩) hHeld ?_;rotate_left
 ·rintro w' ⟨s0,s1,s2⟩;go_simp;try with_reducible rfl
 go_frame
 refine Gen.tk 8 9 ?_ rfl rfl (Or.inl ⟨by rfl,?_⟩) hHeld ?_;rotate_left
 ·rintro w' ⟨s0,s1,s2⟩;go_simp;try with_reducible rfl
 go_frame
 refine Gen.one (i:=9) (by kernel_rfl) rfl rfl (fun K hK=>?_)
 go_simp
 refine hrd.mono ?_
 rintro e w2 ⟨rfl,h1,h2⟩
 have HF:=HX.out w2 h1 h2
 have d0:=(HF.wd.seats k hk).c0
 have d1:=(HF.wd.seats k hk).c1
 have hsi:∀ c:Wld.K,((s.setK k c).seat k).clock=(s.seat k).clock:=fun c=>by unfold Wd.setK;dsimp only;rw[updN_same]
 rw[hsi] at d1
 dsimp only
 refine hK.out _ _ ⟨d0,d1,hpp w2 h2⟩ (fun hHeld=>?_)
 clear hK K
 try go_frame
 refine Gen.last (i:=10) (by kernel_rfl) rfl rfl (by kernel_rfl) (by kernel_rfl) (fun K hK=>?_)
 go_simp
 refine hK.out _ _ ?_
 clear hK K hHeld
 go_wp2_with fail
 go_ret
 exact⟨rfl,HF⟩
theorem writeC_any(A:Wa)(s:Wd)(k p q C:Nat)(o:Int)(d:ByteArray)(w:World)(h:WdIs w A s)(hk:k<s.n)(hB:WdB s C)(hC:C≤100000000000)(hp:w.cell? ⟨p,0,none⟩=some (.int .i64 o))(hq:w.cell? ⟨q,0,none⟩=some (.string d))(hd:d.size≤1000000)(hpc:p≠A.c k∧p≠A.m k)(hqc:q≠A.c k∧q≠A.m k) :
  Calls Tryz.prog 59 #[.pointer (some ⟨A.G,k*4,none⟩),tp p,tp q] w fun e w'=>e = .returned (eV ((s.seat k).k.writeE o d))∧Begun w w' A s k ((s.seat k).k.writeK o d (s.seat k).clock):=by
 obtain⟨z1,z2⟩:=h.below (Below.refl w.heap.size w).drew
 have hrd:=writeK_any (A.c k) (A.m k) (s.seat k).k o d (s.seat k).clock C w.drew (z1.cli k hk) (hB.st k hk).k hC hd
 have c0:=(h.seats k hk).c0
 have c1:=(h.seats k hk).c1
 have HX:Hid (∀ w2,CliIs w2 (A.c k) (A.m k) ((s.seat k).k.writeK o d (s.seat k).clock)→Ob [A.c k,A.m k] w.drew w2→Begun w w2 A s k ((s.seat k).k.writeK o d (s.seat k).clock)):=fun w2 h1 h2=>by
  obtain⟨y1,y2⟩:=z1.client hk h1 h2
  exact⟨y1,z2.trans y2⟩
 have hpp:∀ w2,Ob [A.c k,A.m k] w.drew w2→w2.cell? ⟨p,0,none⟩=some (.int .i64 o):=fun w2 h2=>(World.cell?_of_block (a:=⟨p,0,none⟩) (h2.block p (World.block_lt_of_cell? _ _ hp) (by simp[hpc.1,hpc.2]))).trans hp
 have hqq:∀ w2,Ob [A.c k,A.m k] w.drew w2→w2.cell? ⟨q,0,none⟩=some (.string d):=fun w2 h2=>(World.cell?_of_block (a:=⟨q,0,none⟩) (h2.block q (World.block_lt_of_cell? _ _ hq) (by simp[hqc.1,hqc.2]))).trans hq
 clear h z1 z2 hB
 go_enter Tryz.func59,Tryz.ntmps59
 go_upto_region 1 with fail
 refine Gen.start (S:=fun w'=>w'.cell? ⟨A.G,k*4,none⟩=some (tp (A.c k))∧w'.cell? ⟨A.G,k*4+1,none⟩=some (.int .i64 (s.seat k).clock)∧w'.cell? ⟨p,0,none⟩=some (.int .i64 o)∧w'.cell? ⟨q,0,none⟩=some (.string d)) (by kernel_rfl) ⟨c0,c1,hp,hq⟩ (fun hHeld=>?_)
 refine Gen.tk 0 1 ?_ rfl rfl (Or.inl ⟨by rfl,?_⟩) hHeld ?_;rotate_left
 ·rintro w' ⟨s0,s1,s2,s3⟩;go_simp;try with_reducible rfl
 go_frame
 refine Gen.tk 1 2 ?_ rfl rfl (Or.inl ⟨by rfl,?_⟩) hHeld ?_;rotate_left
 ·rintro w' ⟨s0,s1,s2,s3⟩;go_simp;try with_reducible rfl
 go_frame
 refine Gen.tk 2 3 ?_ rfl rfl (Or.inl ⟨by rfl,?_⟩) hHeld ?_;rotate_left
 ·rintro w' ⟨s0,s1,s2,s3⟩;go_simp;try with_reducible rfl
 go_frame
 refine Gen.tk 3 10 ?_ rfl rfl (Or.inl ⟨by rfl,?_⟩) hHeld ?_;rotate_left
 ·rintro w' ⟨s0,s1,s2,s3⟩;go_simp;try with_reducible rfl
 go_frame
 refine Gen.tk 4 10 ?_ rfl rfl (Or.inl ⟨by rfl,?_⟩) hHeld ?_;rotate_left
 ·rintro w' ⟨s0,s1,s2,s3⟩;go_simp;try with_reducible rfl
 go_frame
 refine Gen.tk 5 10 ?_ rfl rfl (Or.inl ⟨by rfl,?_⟩) hHeld ?_;rotate_left
 ·rintro w' ⟨s0,s1,s2,s3⟩;go_simp;try with_reducible rfl
 go_frame
 refine Gen.tk 6 7 ?_ rfl rfl (Or.inl ⟨by rfl,?_⟩) hHeld ?_;rotate_left
 ·rintro w' ⟨s0,s1,s2,s3⟩;go_simp;try with_reducible rfl
 go_frame
 refine Gen.tk 7 8 ?_ rfl rfl (Or.inl ⟨by rfl,?_⟩) hHeld ?_;rotate_left
 ·rintro w' ⟨s0,s1,s2,s3⟩;go_simp;try with_reducible rfl
 go_frame
 refine Gen.tk 8 9 ?_ rfl rfl (Or.inl ⟨by rfl,?_⟩) hHeld ?_;rotate_left
 ·rintro w' ⟨s0,s1,s2,s3⟩;go_simp;try with_reducible rfl
 go_frame
 refine Gen.tk 9 10 ?_ rfl rfl (Or.inl ⟨by rfl,?_⟩) hHeld ?_;rotate_left
 ·rintro w' ⟨s0,s1,s2,s3⟩;go_simp;try with_reducible rfl
 go_frame
 refine Gen.one (i:=10) (by kernel_rfl) rfl rfl (fun K hK=>?_)
 go_simp
 refine hrd.mono ?_
 rintro e w2 ⟨rfl,h1,h2⟩
 have HF:=HX.out w2 h1 h2
 have d0:=(HF.wd.seats k hk).c0
 have d1:=(HF.wd.seats k hk).c1
 have hsi:∀ c:Wld.K,((s.setK k c).seat k).clock=(s.seat k).clock:=fun c=>by unfold Wd.setK;dsimp only;rw[updN_same]
 rw[hsi] at d1
 dsimp only
 refine hK.out _ _ ⟨d0,d1,hpp w2 h2,hqq w2 h2⟩ (fun hHeld=>?_)
 clear hK K
 try go_frame
 refine Gen.last (i:=11) (by kernel_rfl) rfl rfl (by kernel_rfl) (by kernel_rfl) (fun K hK=>?_)
 go_simp
 refine hK.out _ _ ?_
 clear hK K hHeld
 go_wp2_with fail
 go_ret
 exact⟨rfl,HF⟩
end Wld
end
end Go.Proofs.YtbebfliimjjohabGreatDoor
