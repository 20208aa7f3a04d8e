/- Parts of the proof. -/
import Derived.Test.YtbebfliimjjohabGreatDoorLd13
import Derived.Test.YtbebfliimjjohabGreatDoorLd12
set_option maxRecDepth 100000
set_option maxHeartbeats 8000000
namespace Go.Proofs.YtbebfliimjjohabGreatDoor
section
namespace Wld
open Go.RowKit Go.Maps
open Lease (Ob I64 upd upd_same upd_other mx TabIs hol dels objB)
open Cache (tp row_kept row_below)
open Wal (R WalIs DiskIs Oq Fw rcells)
open Num (M)
theorem isObj_any(n:Int)(w:World):Calls Tryz.prog 184 #[.int .i64 n] w fun e w'=>e = .returned (.bool (objB n))∧w'=w:=by
 unfold objB
 by_cases h0:0≤n
 ·by_cases h1:n<8
  ·rw[Num.inB_true h0 (by omega)]
   go_enter Tryz.func184,Tryz.ntmps184
   go_wp2
   go_ret
   exact⟨rfl,rfl⟩
  ·rw[Num.inB_above (by omega)]
   have h2:decide (n<8)=false:=decide_eq_false h1
   go_enter Tryz.func184,Tryz.ntmps184
   go_wp2
   go_ret
   exact⟨rfl,rfl⟩
 ·rw[Num.inB_below (by omega)]
  have h2:decide (0≤n)=false:=decide_eq_false h0
  go_enter Tryz.func184,Tryz.ntmps184
  go_wp2
  go_ret
  exact⟨rfl,rfl⟩
def seatN(id:Int):Nat:=(id % 4).toNat
theorem seatN_lt(id:Int):seatN id<4:=by unfold seatN;omega
theorem seatN_eq(id:Int):((seatN id:Nat):Int)=id % 4:=by unfold seatN;omega
theorem seat_any(id:Int)(w:World)(h0:0≤id):Calls Tryz.prog 137 #[.int .i64 id] w fun e w'=>e = .returned (.int .i64 (seatN id:Nat))∧w'=w:=by
 have e:id.tmod 4=((seatN id:Nat):Int):=by rw[seatN_eq,Int.tmod_eq_emod_of_nonneg h0]
 have hl:=seatN_lt id
 generalize seatN id=sn at *
 go_enter Tryz.func137,Tryz.ntmps137
 go_wp2
 go_ret
 exact⟨by first|rfl|(simp[e];done)|(rw[e];rfl),rfl⟩
def later(c n:Int)(r:R):Bool:=decide (r.c<c)||(decide (c=r.c)&&decide (r.n<n))
theorem later_any(c n:Int)(r:R)(w:World):Calls Tryz.prog 217 #[.int .i64 c,.int .i64 n,r.agg] w fun e w'=>e = .returned (.bool (later c n r))∧Below w.heap.size w w':=by
 unfold later Wal.R.agg
 by_cases h1:r.c<c
 ·have g1:decide (r.c<c)=true:=decide_eq_true h1
  rw[g1]
  go_enter Tryz.func217,Tryz.ntmps217
  go_wp2
  go_ret
  exact⟨rfl,(Below.refl _ _).alloc (Nat.le_refl _) _⟩
 ·have g1:decide (r.c<c)=false:=decide_eq_false h1
  rw[g1]
  by_cases h2:c=r.c
  ·have g2:(c == r.c)=true:=by simpa using h2
   rw[decide_eq_true h2]
   clear h1 h2
   go_enter Tryz.func217,Tryz.ntmps217
   go_wp2
   go_ret
   exact⟨rfl,(Below.refl _ _).alloc (Nat.le_refl _) _⟩
  ·have g2:(c == r.c)=false:=by simpa using h2
   rw[decide_eq_false h2]
   clear h1 h2
   go_enter Tryz.func217,Tryz.ntmps217
   go_wp2
   go_ret
   exact⟨rfl,(Below.refl _ _).alloc (Nat.le_refl _) _⟩
theorem down_any(a:Ad)(s:Sv)(w:World)(h:SvIs w a s):Calls Tryz.prog 138 #[tp a.S] w fun e w'=>e = .returned (.bool s.down)∧w'=w:=by
 have c3:=h.c3
 have hd:=Wal.down_any a.U a.q s.rs s.down w h.log
 clear h
 go_enter Tryz.func138,Tryz.ntmps138
 go_wp2_with (go_at_call 194;refine hd.mono ?_;rintro e w' ⟨rfl,rfl⟩)
 go_ret
 exact⟨rfl,rfl⟩
theorem tear_any(a:Ad)(s:Sv)(x:Int)(w:World)(h:SvIs w a s):Calls Tryz.prog 34 #[tp a.S,.int .i64 x] w fun e w'=>e = .returned (.tuple #[])∧SvIs w' a { s with torn:=x }∧Fs a w w':=by
 have F:=h.set4 x
 have c4:=h.c4
 have hf:=h.free 4
 have hO:Fs a w (w.setCell ⟨a.S,4,none⟩ (.int .i64 x)):=(Fs.refl _ _).setS h (by omega)
 clear h
 go_enter Tryz.func34,Tryz.ntmps34
 go_wp2
 go_end0
 exact⟨rfl,F,hO⟩
theorem value_bad(a:Ad)(o:Int)(w:World)(ho:objB o=false):Calls Tryz.prog 208 #[tp a.S,.int .i64 o] w fun e w'=>e = .returned (.tuple #[.agg #[.string ⟨#[]⟩,.int .i64 0],.iface 59 (.int .i64 2)])∧Below w.heap.size w w':=by
 have ho':Hid (objB o=false):=ho
 clear ho
 go_enter Tryz.func208,Tryz.ntmps208
 go_wp2_with (go_at_call 184;refine(isObj_any _ _).mono ?_;rintro e w' ⟨rfl,rfl⟩;rw[ho'.out])
 exact bodyPost_ret (v:=.tuple #[.agg #[.string ⟨#[]⟩,.int .i64 0],.iface 59 (.int .i64 2)]) (by simp[results,Tryz.results208,go_sem]) rfl ⟨rfl,(Below.refl _ _).alloc (Nat.le_refl _) _⟩
theorem value_ok(a:Ad)(s:Sv)(o:Nat)(w:World)(h:SvIs w a s)(ho:o<8):Calls Tryz.prog 208 #[tp a.S,.int .i64 o] w fun e w'=>e = .returned (.tuple #[.agg #[.string (s.vd o),.int .i64 (s.vv o)],.nilIface])∧Below w.heap.size w w':=by
 have ho':objB o=true:=Num.inB_true (by omega) (by omega)
 have hd:=h.vd o ho
 have hv:=h.vv o ho
 have hlt:=h.lt
 have hne:a.S≠w.heap.size:=by omega
 have ho0:(0:Int)≤(o:Int):=by omega
 have ho8:(o:Int)<8:=by omega
 clear h
 go_enter Tryz.func208,Tryz.ntmps208
 go_wp2_with (go_at_call 184;refine(isObj_any _ _).mono ?_;rintro e w' ⟨rfl,rfl⟩;rw[ho'])
 exact bodyPost_ret (v:=.tuple #[.agg #[.string (s.vd o),.int .i64 (s.vv o)],.nilIface]) (by simp[results,Tryz.results208,go_sem]) rfl ⟨rfl,(Below.refl _ _).alloc (Nat.le_refl _) _⟩
def Sv.answer(s:Sv)(kind:Int)(m:M):M:=⟨kind,m.c,m.n,s.epoch,s.ses (seatN m.c:Nat),0,0,false,⟨#[]⟩⟩
theorem answer_any(a:Ad)(s:Sv)(kind:Int)(m:M)(w:World)(h:SvIs w a s)(hc:0≤m.c):Calls Tryz.prog 223 #[tp a.S,.int .i64 kind,Wire.M.agg m] w fun e w'=>e = .returned (Wire.M.agg (s.answer kind m))∧Below w.heap.size w w':=by
 obtain⟨mk,mc,mn,me,ms,mo,mv,ml,md⟩:=m
 dsimp only at hc
 have hlt:=h.lt
 have hs:=fun w=>(seat_any mc w hc).mono (R':=fun e w'=>e = .returned (.int .i64 (seatN mc:Nat))∧∃ n,w'=w.drewN n) (fun e w' h=>⟨h.1,0,h.2⟩)
 have hT:∀ o1 o2 j,SvIs (((w.alloc o1).alloc o2).drewN j) a s:=fun o1 o2 j=>((h.alloc o1).alloc o2).drewN j
 have hq:=fun o1 o2 j=>(Lease.ses_ok a.T a.m s.n (seatN mc) s.D s.vol s.ses _ (hT o1 o2 j).tab (seatN_lt mc)).mono (R':=fun e w'=>e = .returned (.tuple #[.int .i64 (s.ses (seatN mc:Nat)),.nilIface])∧∃ n,w'=(((w.alloc o1).alloc o2).drewN j).drewN n) (fun e w' h=>⟨h.1,0,h.2⟩)
 have c47:=h.c47
 have c5:=h.c5
 have hne:a.S≠w.heap.size:=by omega
 have hne1:a.S≠w.heap.size+1:=by omega
 unfold Sv.answer Wire.M.agg
 dsimp only
 clear h
 go_enter Tryz.func223,Tryz.ntmps223
 go_wp2_with fail
 go_quiet (first|(go_at_call 137;refine Calls.quiet_of (hs _))|(go_at_call 254;refine Calls.quiet_of (hq _ _ _)))
 go_wp2_with fail
 have hz:w.heap.size=(w.drewN nq).heap.size:=rfl
 have hB0:Below w.heap.size w (w.drewN nq):=⟨rfl,rfl,rfl,Nat.le_refl _,fun _ _=>rfl⟩
 have c5':(w.drewN nq).cell? ⟨a.S,5,none⟩=some (.int .i64 s.epoch):=c5
 change Code.wp _ _ _ _ (((w.drewN nq).alloc _).alloc _)
 rw[hz] at hne hne1 hlt ⊢
 rw[hz] at hB0
 clear hz hq hT hs c47 c5
 generalize w.drewN nq=w0 at *
 go_region
 all_goals go_wp2_with fail
 all_goals exact bodyPost_ret (v:=.agg #[.int .i64 kind,.int .i64 mc,.int .i64 mn,.int .i64 s.epoch,.int .i64 (s.ses (seatN mc:Nat)),.int .i64 0,.int .i64 0,.bool false,.string ⟨#[]⟩]) (by simp[results,Tryz.results223,go_sem]) rfl ⟨rfl,(((hB0.alloc (Nat.le_refl _) _).alloc (by simp) _).drew).mono hB0.size⟩
theorem MB.put{w:World}{p:Nat}(m:M)(g:∀ j,j<9→(w.cell? ⟨p,j,none⟩).isSome=true):MB (w.setCells p 0 (mcell m)) p m:=by
 have h:∀ j u,(mcell m)[j]?=some u→(w.setCells p 0 (mcell m)).cell? ⟨p,j,none⟩=some u:=fun j u hu=>by
  obtain⟨v0,r0⟩:=Option.isSome_iff_exists.1 (g 0 (by omega))
  obtain⟨v1,r1⟩:=Option.isSome_iff_exists.1 (g 1 (by omega))
  obtain⟨v2,r2⟩:=Option.isSome_iff_exists.1 (g 2 (by omega))
  obtain⟨v3,r3⟩:=Option.isSome_iff_exists.1 (g 3 (by omega))
  obtain⟨v4,r4⟩:=Option.isSome_iff_exists.1 (g 4 (by omega))
  obtain⟨v5,r5⟩:=Option.isSome_iff_exists.1 (g 5 (by omega))
  obtain⟨v6,r6⟩:=Option.isSome_iff_exists.1 (g 6 (by omega))
  obtain⟨v7,r7⟩:=Option.isSome_iff_exists.1 (g 7 (by omega))
  obtain⟨v8,r8⟩:=Option.isSome_iff_exists.1 (g 8 (by omega))
  have hj:=(List.getElem?_eq_some_iff.1 hu).1
  rw[mcell_length] at hj
  rw[← hu,List.getElem?_eq_getElem (by rw[mcell_length];exact hj)]
  exact Wire.put_cells _ _ _ _ _ _ _ _ _ r0 r1 r2 r3 r4 r5 r6 r7 r8 j hj
 exact⟨h 0 _ rfl,h 1 _ rfl,h 2 _ rfl,h 3 _ rfl,h 4 _ rfl,h 5 _ rfl,h 6 _ rfl,h 7 _ rfl,h 8 _ rfl⟩
theorem MB.alloc{w:World}{p:Nat}{m:M}(h:MB w p m)(hp:p<w.heap.size)(o:Obj):MB (w.alloc o) p m:=by
 have e:∀ j,(w.alloc o).cell? ⟨p,j,none⟩=w.cell? ⟨p,j,none⟩:=fun j=>World.cell?_alloc_lt w o ⟨p,j,none⟩ hp
 exact⟨(e _).trans h.c0,(e _).trans h.c1,(e _).trans h.c2,(e _).trans h.c3,(e _).trans h.c4,(e _).trans h.c5,(e _).trans h.c6,(e _).trans h.c7,(e _).trans h.c8⟩
theorem MB.below{w w':World}{p C:Nat}{m:M}(h:MB w p m)(hb:Below C w w')(hp:p<C):MB w' p m:=by
 have e:∀ j,w'.cell? ⟨p,j,none⟩=w.cell? ⟨p,j,none⟩:=fun j=>hb.cell (p:=⟨p,j,none⟩) hp
 exact⟨(e _).trans h.c0,(e _).trans h.c1,(e _).trans h.c2,(e _).trans h.c3,(e _).trans h.c4,(e _).trans h.c5,(e _).trans h.c6,(e _).trans h.c7,(e _).trans h.c8⟩
theorem MB.some{w:World}{p:Nat}{m:M}(h:MB w p m)(j:Nat)(hj:j<9):(w.cell? ⟨p,j,none⟩).isSome=true:=by
 match j,hj with
 | 0,_=>rw[h.c0];rfl
 | 1,_=>rw[h.c1];rfl
 | 2,_=>rw[h.c2];rfl
 | 3,_=>rw[h.c3];rfl
 | 4,_=>rw[h.c4];rfl
 | 5,_=>rw[h.c5];rfl
 | 6,_=>rw[h.c6];rfl
 | 7,_=>rw[h.c7];rfl
 | 8,_=>rw[h.c8];rfl
theorem sizes{p:Nat}:∀ (vs:List Value) (o:Nat) (w:World),(w.setCells p o vs).heap.size=w.heap.size
 | [],_,_=>rfl
 | v :: r,o,w=>by rw[World.setCells,sizes r (o+1)];simp
theorem below_sets{B p:Nat}{a:World}(hp:B≤p):∀ (vs:List Value) (o:Nat) (w:World),Below B a w→Below B a (w.setCells p o vs)
 | [],_,_,h=>h
 | v :: r,o,w,h=>by rw[World.setCells];exact below_sets hp r (o+1) _ (h.setCell (p:=⟨p,o,none⟩) hp v)
def Sv.doneM(s:Sv)(m:M)(v:Int):M:=⟨6,m.c,m.n,s.epoch,s.ses (seatN m.c:Nat),m.o,v,false,⟨#[]⟩⟩
def Sv.invalM(s:Sv)(seat:Int)(o:Nat):M:=⟨9,seat,0,s.epoch,0,o,s.vv o+1,false,⟨#[]⟩⟩
theorem inval_any(a:Ad)(s:Sv)(seat:Int)(o:Nat)(w:World)(h:SvIs w a s)(ho:o<8)(h0:0≤s.vv o)(h1:s.vv o≤4611686018427387904):Calls Tryz.prog 226 #[tp a.S,.int .i64 seat,.int .i64 o] w fun e w'=>e = .returned (Wire.M.agg (s.invalM seat o))∧Below w.heap.size w w':=by
 have hlt:=h.lt
 have c5:=h.c5
 have hv:=h.vv o ho
 have hne:a.S≠w.heap.size:=by omega
 have ho0:(0:Int)≤(o:Int):=by omega
 have ho8:(o:Int)<8:=by omega
 unfold Sv.invalM Wire.M.agg
 dsimp only
 clear h
 go_enter Tryz.func226,Tryz.ntmps226
 go_wp2_with fail
 go_region
 all_goals go_wp2_with fail
 all_goals exact bodyPost_ret (v:=.agg #[.int .i64 9,.int .i64 seat,.int .i64 0,.int .i64 s.epoch,.int .i64 0,.int .i64 o,.int .i64 (s.vv o+1),.bool false,.string ⟨#[]⟩]) (by simp[results,Tryz.results226,go_sem]) rfl ⟨rfl,((Below.refl _ _).alloc (Nat.le_refl _) _).drew⟩
theorem done_any(a:Ad)(s:Sv)(m:M)(v:Int)(w:World)(h:SvIs w a s)(hc:0≤m.c):Calls Tryz.prog 198 #[tp a.S,Wire.M.agg m,.int .i64 v] w fun e w'=>e = .returned (Wire.M.agg (s.doneM m v))∧Below w.heap.size w w':=by
 obtain⟨mk,mc,mn,me,ms,mo,mv,ml,md⟩:=m
 have hB:MB ((mbox w mk mc mn me ms mo mv ml md).alloc (.cells #[.int .i64 0,.int .i64 0,.int .i64 0,.int .i64 0,.int .i64 0,.int .i64 0,.int .i64 0,.bool false,.string ⟨#[]⟩] 129)) w.heap.size ⟨mk,mc,mn,me,ms,mo,mv,ml,md⟩:=(mbox_is w _ _ _ _ _ _ _ _ _).alloc (by simp) _
 have hZ:MB ((mbox w mk mc mn me ms mo mv ml md).alloc (.cells #[.int .i64 0,.int .i64 0,.int .i64 0,.int .i64 0,.int .i64 0,.int .i64 0,.int .i64 0,.bool false,.string ⟨#[]⟩] 129)) (w.heap.size+1) ⟨0,0,0,0,0,0,0,false,⟨#[]⟩⟩:=by
  have:=mbox_is (mbox w mk mc mn me ms mo mv ml md) 0 0 0 0 0 0 0 false ⟨#[]⟩
  rw[show (mbox w mk mc mn me ms mo mv ml md).heap.size=w.heap.size+1 by simp] at this
  exact this
 have hfz:∀ i,((mbox w mk mc mn me ms mo mv ml md).alloc (.cells #[.int .i64 0,.int .i64 0,.int .i64 0,.int .i64 0,.int .i64 0,.int .i64 0,.int .i64 0,.bool false,.string ⟨#[]⟩] 129)).frozen? ⟨w.heap.size+1,i,none⟩=false:=fun i=>by simp
 have hsz:((mbox w mk mc mn me ms mo mv ml md).alloc (.cells #[.int .i64 0,.int .i64 0,.int .i64 0,.int .i64 0,.int .i64 0,.int .i64 0,.int .i64 0,.bool false,.string ⟨#[]⟩] 129)).heap.size=w.heap.size+2:=by simp
 have hb0:Below w.heap.size w ((mbox w mk mc mn me ms mo mv ml md).alloc (.cells #[.int .i64 0,.int .i64 0,.int .i64 0,.int .i64 0,.int .i64 0,.int .i64 0,.int .i64 0,.bool false,.string ⟨#[]⟩] 129)):=((Below.refl _ _).alloc (Nat.le_refl _) _).alloc (by simp) _
 have F:SvIs ((mbox w mk mc mn me ms mo mv ml md).alloc (.cells #[.int .i64 0,.int .i64 0,.int .i64 0,.int .i64 0,.int .i64 0,.int .i64 0,.int .i64 0,.bool false,.string ⟨#[]⟩] 129)) a s:=(h.alloc _).alloc _
 unfold mbox at *
 unfold Sv.doneM Wire.M.agg
 dsimp only at hc ⊢
 clear h
 go_enter Tryz.func198,Tryz.ntmps198
 go_wp2_with fail
 generalize (w.alloc (.cells #[.int .i64 mk,.int .i64 mc,.int .i64 mn,.int .i64 me,.int .i64 ms,.int .i64 mo,.int .i64 mv,.bool ml,.string md] 129)).alloc (.cells #[.int .i64 0,.int .i64 0,.int .i64 0,.int .i64 0,.int .i64 0,.int .i64 0,.int .i64 0,.bool false,.string ⟨#[]⟩] 129)=w1 at *
 refine(answer_any a s 6 ⟨mk,mc,mn,me,ms,mo,mv,ml,md⟩ w1 F hc).mono ?_
 rintro e w2 ⟨rfl,hb⟩
 have hB2:=hB.below hb (by omega)
 have hZ2:=hZ.below hb (by omega)
 have hf2:=fun i=>(hb.frozen (p:=⟨w.heap.size+1,i,none⟩) (by dsimp only;omega)).trans (hfz i)
 have hs2:=hb.size
 have b5:=hB2.c5
 have z0:=hZ2.c0
 have z1:=hZ2.c1
 have z2:=hZ2.c2
 have z3:=hZ2.c3
 have z4:=hZ2.c4
 have z5:=hZ2.c5
 have z6:=hZ2.c6
 have z7:=hZ2.c7
 have z8:=hZ2.c8
 have hlt2:w.heap.size+1<w2.heap.size:=by omega
 have hlt3:w.heap.size<w2.heap.size:=by omega
 have hbb:=hb0.trans (hb.mono (by omega))
 unfold Sv.answer Wire.M.agg
 dsimp only at b5 ⊢
 clear hB hZ hfz F hb hb0 hB2
 go_wp2_with fail
 have hP:=MB.put ⟨6,mc,mn,s.epoch,s.ses (seatN mc:Nat),mo,v,false,⟨#[]⟩⟩ (hZ2.some)
 have hPs:(w2.setCells (w.heap.size+1) 0 (mcell ⟨6,mc,mn,s.epoch,s.ses (seatN mc:Nat),mo,v,false,⟨#[]⟩⟩)).heap.size=w2.heap.size:=sizes _ _ _
 have hPb:Below w.heap.size w (w2.setCells (w.heap.size+1) 0 (mcell ⟨6,mc,mn,s.epoch,s.ses (seatN mc:Nat),mo,v,false,⟨#[]⟩⟩)):=below_sets (by omega) _ _ _ hbb
 change bodyPost _ _ _ _ _ ((w2.setCells (w.heap.size+1) 0 (mcell ⟨6,mc,mn,s.epoch,s.ses (seatN mc:Nat),mo,v,false,⟨#[]⟩⟩)).alloc _)
 have hA:=fun o=>hP.alloc (by rw[hPs];exact hlt2) o
 have hbA:=fun o=>hPb.alloc (by rw[hPs];omega) o
 clear z0 z1 z2 z3 z4 z5 z6 z7 z8 b5 hf2 hP hPb hZ2 hPs
 generalize w2.setCells (w.heap.size+1) 0 (mcell ⟨6,mc,mn,s.epoch,s.ses (seatN mc:Nat),mo,v,false,⟨#[]⟩⟩)=W at *
 have k0:=fun o=>(hA o).c0
 have k1:=fun o=>(hA o).c1
 have k2:=fun o=>(hA o).c2
 have k3:=fun o=>(hA o).c3
 have k4:=fun o=>(hA o).c4
 have k5:=fun o=>(hA o).c5
 have k6:=fun o=>(hA o).c6
 have k7:=fun o=>(hA o).c7
 have k8:=fun o=>(hA o).c8
 exact bodyPost_ret (v:=.agg #[.int .i64 6,.int .i64 mc,.int .i64 mn,.int .i64 s.epoch,.int .i64 (s.ses (seatN mc:Nat)),.int .i64 mo,.int .i64 v,.bool false,.string ⟨#[]⟩]) (by simp[results,Tryz.results198,go_sem,k0,k1,k2,k3,k4,k5,k6,k7,k8]) rfl ⟨rfl,hbA _⟩
theorem MB.fs{w w':World}{a:Ad}{b:Nat}{m:M}(h:MB w b m)(hF:Fs a w w')(hb:b<w.heap.size)(hn:¬ foot w a b):MB w' b m:=by
 have e:∀ j,w'.cell? ⟨b,j,none⟩=w.cell? ⟨b,j,none⟩:=fun j=>World.cell?_of_block (hF.block b hb hn)
 exact⟨(e _).trans h.c0,(e _).trans h.c1,(e _).trans h.c2,(e _).trans h.c3,(e _).trans h.c4,(e _).trans h.c5,(e _).trans h.c6,(e _).trans h.c7,(e _).trans h.c8⟩
end Wld
end
section
namespace Wld
open Go.RowKit Go.Maps
open Lease (Ob I64 upd upd_same upd_other mx TabIs hol dels objB HasI)
open Cache (tp row_kept row_below)
open Wal (R WalIs DiskIs Oq Fw rcells)
open Num (M)
def Sv.flushed(s:Sv)(c:Int):Sv:={ s with D:=dels s.D c 8,vol:=upd s.vol c 0,ses:=upd s.ses c (s.ses c+1) }
def Sv.await(s:Sv)(now:Int):List Int→Sv×List Int
 | []=>(s,[])
 | c :: cs=>if now<s.vol c then ((s.await now cs).1,c :: (s.await now cs).2) else (s.flushed c).await now cs
theorem await_nil(s:Sv)(now:Int):s.await now []=(s,[]):=rfl
theorem await_cons(s:Sv)(now c:Int)(cs:List Int):s.await now (c :: cs)=if now<s.vol c then ((s.await now cs).1,c :: (s.await now cs).2) else (s.flushed c).await now cs:=rfl
def Sv.awaited(s:Sv)(o:Nat)(now:Int):Sv×List Int:=if s.down=true∨(s.waits o).length=0 then (s,[]) else s.await now (hol s.D o now 4)
theorem hol_mem{D:Lease.Dat}{o now:Int}{k:Nat}{c:Int}(h:c∈hol D o now k):∃ n:Nat,n<k∧c=(n:Int):=by
 unfold Lease.hol at h
 obtain⟨n,hn,rfl⟩:=List.mem_map.1 h
 exact⟨n,by have:=List.mem_range.1 (List.mem_filter.1 hn).1;omega,rfl⟩
theorem HasI.kept{w w':World}{B:Nat}{v:Value}{l:List Int}(h:HasI w B v l)(hb:∀ g,B≤g→g<w.heap.size→w'.heap[g]?=w.heap[g]?):HasI w' B v l:=row_kept h fun g hg=>hb g (World.ownsRow.lt h g hg).1 (World.ownsRow.lt h g hg).2
theorem WalIs.keep2{w w':World}{u q:Nat}{rs:List R}{down:Bool}(h:WalIs w u q rs down)(hs:w.heap.size≤w'.heap.size)(hu:w'.heap[u]?=w.heap[u]?)(hr:∀ v g,w.cell? ⟨u,1,none⟩=some v→v.ownBlock=some g→w'.heap[g]?=w.heap[g]?):WalIs w' u q rs down:=by
 obtain⟨h1,⟨v,hv,hr1,hr2⟩,h3,h4,h5,h6⟩:=h
 refine⟨(World.cell?_of_block (a:=⟨u,0,none⟩) hu).trans h1,⟨v,(World.cell?_of_block (a:=⟨u,1,none⟩) hu).trans hv,hr1,?_⟩,(World.cell?_of_block (a:=⟨u,2,none⟩) hu).trans h3,fun i=>(World.frozen?_of_block (a:=⟨u,i,none⟩) hu).trans (h4 i),by omega,by rw[hu];exact h6⟩
 rcases hr2 with h|⟨g,cap,cur,e1,e2,e3,e4⟩
 ·exact .inl h
 ·exact .inr ⟨g,cap,cur,e1,e2,(hr v g hv (by rw[e1];rfl)).trans e3,e4⟩
theorem Fs.beyond{a:Ad}{s:Sv}{x y z:World}(h:Fs a x y)(hs:SvIs y a s)(h1:z.os=y.os)(h2:z.tape=y.tape)(h3:z.output=y.output)(hz:y.heap.size≤z.heap.size)(hb:∀ k,k<y.heap.size→(k<x.heap.size∨foot y a k)→z.heap[k]?=y.heap[k]?):Fs a x z∧SvIs z a s:=by
 have hl:=hs.lts
 have eq:=hb a.q hl.1 (.inr (.inl rfl))
 have eU:=hb a.U hl.2.1 (.inr (.inr (.inr (.inr (.inl rfl)))))
 have eS:=hb a.S hl.2.2.2.2.1 (.inr (.inr (.inr (.inl rfl))))
 have eT:=hb a.T hl.2.2.2.1 (.inr (.inr (.inr (.inr (.inr (.inl rfl))))))
 have em:=hb a.m hl.2.2.1 (.inr (.inr (.inl rfl)))
 have hsz:=h.size
 refine⟨⟨h1.trans h.os,h2.trans h.tape,h3.trans h.output,by omega,fun k hk hf=>(hb k (by omega) (.inl hk)).trans (h.block k hk hf),fun k hk f=>h.grows k hk (foot_same (World.cell?_of_block eU) (fun i _=>World.cell?_of_block eS) f),
  fun i hi=>(World.cell?_of_block eq).trans (h.cell i hi),fun i=>(World.frozen?_of_block eq).trans (h.fro i),fun t ht=>by rw[eq];exact h.typ t ht⟩,?_⟩
 exact hs.blocks eS (WalIs.keep2 hs.log hz eU (fun v g hv hg=>hb g (hs.footLt (.inr (.inr (.inr (.inr (.inr (.inl ⟨v,hv,hg⟩))))))) (.inr (.inr (.inr (.inr (.inr (.inr (.inl ⟨v,hv,hg⟩))))))))) (DiskIs.keep hs.disk eq) (hs.tab.blocks eT em) (by rw[eT];exact hs.tt)
  (fun i v hi hv hm=>row_kept hm fun g hg=>hb g (hs.footLt (.inr (.inr (.inr (.inr (.inr (.inr ⟨i,v,hi,hv,hg⟩))))))) (.inr (.inr (.inr (.inr (.inr (.inr (.inr ⟨i,v,hi,hv,hg⟩))))))))
theorem Fs.grownI{a:Ad}{s:Sv}{x y z:World}{o:Obj}{v:Value}{l:List Int}(h:Fs a x y)(hs:SvIs y a s)(hv:HasI y x.heap.size v l)(hx:a.S<x.heap.size)(hg:(y.alloc o).grownBy z v.ownBlock):Fs a x z∧SvIs z a s:=by
 have hz:=hg.size
 simp at hz
 refine h.beyond hs hg.os hg.tape hg.output (by omega) (fun k hk hf=>?_)
 have hne:some k≠v.ownBlock:=fun e=>by
  have hlt:=(World.ownsRow.lt hv k e.symm).1
  rcases hf with hf|hf
  ·omega
  ·have hl:=hs.lts
   have ht:∃ cs f,y.heap[k]?=some (.cells cs 3 f):=by
    rcases hv.2 with ⟨rfl,_⟩|⟨g,cap,cur,rfl,hB,hh,_⟩
    ·simp[Value.ownBlock] at e
    ·simp[Value.ownBlock] at e
     subst e
     exact⟨_,_,hh⟩
   obtain⟨cs,f,ht⟩:=ht
   have h1:=hs.qU
   have h2:=hs.Um
   have h3:=hs.mT
   have h4:=hs.TS
   rcases hf with q|q|q|q|q|⟨u,q1,q2⟩|⟨i,u,qi,q1,q2⟩
   ·omega
   ·omega
   ·omega
   ·omega
   ·omega
   ·obtain⟨_,cs',f',hh⟩:=hs.rowU q1 q2
    exact typ_ne ht hh (by decide) rfl
   ·obtain⟨_,cs',f',hh⟩:=hs.rowS qi q1 q2
    exact typ_ne ht hh (by decide) rfl
 rw[hg.block k (by simp;omega) hne]
 exact Below.heap_alloc y o k hk
structure Aw(w wr:World)(a:Ad)(s:Sv)(now:Int)(hs:List Int)(hv:Value)(k:Nat)(v:Value)(s2:Sv)(l:List Int):Prop where
 sv:SvIs wr a s2
 fs:Fs a w wr
 own:HasI wr w.heap.size v l
 hold:HasI wr w.heap.size hv hs
 len:l.length≤k
 ses:∀ c,s2.ses c≤4611686018427387904+k
 eq1:(s.await now hs).1=(s2.await now (hs.drop k)).1
 eq2:(s.await now hs).2=l++(s2.await now (hs.drop k)).2
 apart:∀ g,v.ownBlock=some g→hv.ownBlock≠some g
theorem awaited_none(a:Ad)(s:Sv)(o:Nat)(now:Int)(w:World)(h:SvIs w a s)(ho:o<8)(hz:s.down=true∨(s.waits o).length=0) :
  Calls Tryz.prog 195 #[tp a.S,.int .i64 o,.int .i64 now] w fun e w'=>e = .returned (.slice none 0 0)∧w'=w:=by
 have hd:=down_any a s w h
 obtain⟨v,hv,hm⟩:=h.wait o ho
 obtain⟨ao,cc,rfl,_,_⟩:=Net.row_shape hm
 have ho0:(0:Int)≤(o:Int):=by omega
 have ho8:(o:Int)<8:=by omega
 clear h
 obtain⟨b,hb⟩:∃ b,s.down=b:=⟨_,rfl⟩
 rw[hb] at hd hz
 clear hb
 cases b with
 | true=>
  go_enter Tryz.func195,Tryz.ntmps195
  go_wp2_with (go_at_call 138;refine hd.mono ?_;rintro e w' ⟨rfl,rfl⟩)
  go_ret
  exact⟨rfl,rfl⟩
 | false=>
  have hl:(s.waits o).length=0:=hz.resolve_left (by simp)
  rw[hl] at hv
  go_enter Tryz.func195,Tryz.ntmps195
  go_wp2_with (go_at_call 138;refine hd.mono ?_;rintro e w' ⟨rfl,rfl⟩)
  go_ret
  exact⟨rfl,rfl⟩
theorem awaited_some(a:Ad)(s:Sv)(o:Nat)(now:Int)(w:World)(h:SvIs w a s)(ho:o<8)(hd0:s.down=false)(hw0:(s.waits o).length≠0)(hses:∀ c,s.ses c≤4611686018427387904)(x:Sv×List Int)(hx:Hid (s.await now (hol s.D o now 4)=x)) :
  Calls Tryz.prog 195 #[tp a.S,.int .i64 o,.int .i64 now] w fun e w'=>∃ v,e = .returned v∧HasI w' w.heap.size v x.2∧SvIs w' a x.1∧Fs a w w':=by
 have hd:=down_any a s w h
 rw[hd0] at hd
 obtain⟨v,hv,hm⟩:=h.wait o ho
 obtain⟨ao,cc,rfl,_,_⟩:=Net.row_shape hm
 obtain⟨n,hn⟩:∃ n,(s.waits o).length=n+1:=⟨(s.waits o).length-1,by omega⟩
 have hlen:=h.len o ho
 rw[hn] at hv hlen
 have hz0:(((n+1:Nat):Int) == 0)=false:=by simp;omega
 have ho0:(0:Int)≤(o:Int):=by omega
 have ho8:(o:Int)<8:=by omega
 have c47:=h.c47
 have hlt:=h.lt
 have hl:=h.lts
 have hhol:=Lease.hold_any a.T a.m s.n s.D s.vol s.ses o now w h.tab ⟨by omega,by omega⟩
 have hmem:∀ c∈hol s.D o now 4,∃ n:Nat,n<4∧c=(n:Int):=fun c hc=>hol_mem hc
 have hhl:(hol s.D o now 4).length≤4:=Lease.hol_le _ _ _ _
 obtain⟨hs,hhs⟩:∃ hs,hol s.D o now 4=hs:=⟨_,rfl⟩
 rw[hhs] at hhol hmem hhl hx
 clear hhs hm hn
 obtain⟨i0,hi,hz0',hz1,hz2⟩:=info_parts Lease.info_int
 go_enter Tryz.func195,Tryz.ntmps195
 go_wp2_with fail
 refine hd.mono ?_
 rintro e w' ⟨rfl,rfl⟩
 go_wp2_with fail
 refine hhol.mono ?_
 rintro e w1 ⟨vh,rfl,hH,hb1⟩
 clear hhol hd
 have F1:=h.below hb1
 have hF1:=Fs.of_below h hb1
 clear h hv
 obtain⟨ah,ch,rfl,hcells⟩:=hH.shape
 go_wp2_with fail
 go_loopw [7,30] (fun v i wr=>∃ (k:Nat) (s2:Sv) (l:List Int),k≤hs.length∧i = .int .i64 k∧Aw w' wr a s now hs (.slice ah hs.length ch) k v s2 l) (fun _ i _=>hs.length-(intOf i).toNat)
 case atStart=>exact⟨0,s,[],by omega,rfl,F1,hF1,Lease.HasI.nil _ _,hH,by simp,fun c=>by have:=hses c;omega,rfl,rfl,by simp[Value.ownBlock]⟩
 case round=>
  obtain⟨k,s2,l,hk,rfl,A⟩:=hrel
  by_cases hlt2:k<hs.length
  ·obtain⟨g,rfl,_⟩:=hcells (by omega)
   obtain⟨n,hn4,hn⟩:=hmem _ (List.getElem_mem hlt2)
   have hc:wr.cell? ⟨g,k,none⟩=some (.int .i64 n):=by
    have:=World.ownsRow.cellAt A.hold k (by omega)
    rw[this,List.getElem?_map,List.getElem?_eq_getElem hlt2,hn]
    rfl
   have hdr:hs.drop k=(n:Int) :: hs.drop (k+1):=by rw[← hn];exact List.drop_eq_getElem_cons hlt2
   have e1:=A.eq1
   have e2:=A.eq2
   rw[hdr,await_cons] at e1 e2
   have d47:=A.sv.c47
   have hle:=Lease.leans_ok a.T a.m s2.n n now s2.D s2.vol s2.ses wr A.sv.tab hn4
   have hkI:(k:Int)<(hs.length:Int):=by omega
   by_cases hle2:now<s2.vol n
   ·rw[decide_eq_true hle2] at hle
    rw[if_pos hle2] at e1
    rw[if_pos hle2] at e2
    obtain⟨av,cv,rfl,hcv⟩:=A.own.shape
    have HA:Hid (Aw w' wr a s now hs (.slice (some ⟨g,0,none⟩) hs.length ch) k (.slice av l.length cv) s2 l):=A
    have E1:Hid ((s.await now hs).1=(s2.await now (hs.drop (k+1))).1):=e1
    have E2:Hid ((s.await now hs).2=l++(n:Int) :: (s2.await now (hs.drop (k+1))).2):=e2
    have hll:=A.len
    have hwr:=A.fs.size
    clear A e1 e2 hdr hle2 hn hmem
    go_wp2_with fail
    refine hle.mono ?_
    rintro e w2 ⟨rfl,rfl⟩
    clear hle d47 hc
    go_wp2_with (at_builtin;refine App.wpList_append_at rfl _ _ 26 rfl w'.heap.size 3 i0 (.int .i64 0) 1 8 Tryz.underlying26 hi hz0' hz1 hz2 rfl (by decide) _ _ _ rfl (Lease.HasI.alloc HA.out.own _) ⟨w2.heap.size,0,none⟩ 1 1 [.int .i64 (n:Int)] rfl rfl (Lease.one_newI _ _ _) (Lease.one_cellI _ _) ?c3 ?c4 ?c5 ?_)
    case c3=>unfold maxLen;omega
    case c4=>omega
    case c5=>simp;omega
    intro v' w3 hown' hgrow hat
    have A:=HA.out
    obtain⟨hF3,F3⟩:=A.fs.grownI A.sv A.own hlt hgrow
    have R:Aw w' w3 a s now hs (.slice (some ⟨g,0,none⟩) hs.length ch) (k+1) v' s2 (l++[(n:Int)]):=by
     refine⟨F3,hF3,?_,?_,by simp;omega,fun c=>by have:=A.ses c;omega,E1.out,by rw[E2.out];simp,?_⟩
     ·unfold Lease.HasI
      rw[List.length_append,List.map_append]
      exact hown'
     ·refine row_kept A.hold fun b hb=>?_
      have hbl:=(World.ownsRow.lt A.hold b hb).2
      rw[hgrow.block b (by simp;omega) (fun q=>A.apart b q.symm hb)]
      exact Below.heap_alloc w2 _ b hbl
     ·intro b hb hb2
      have hbl:=(World.ownsRow.lt A.hold b hb2).2
      rcases hat b hb with q|q
      ·exact A.apart b q hb2
      ·first|omega|(simp at q;omega)
    have HR:Hid (Aw w' w3 a s now hs (.slice (some ⟨g,0,none⟩) hs.length ch) (k+1) v' s2 (l++[(n:Int)])):=R
    clear R hF3 F3 A HA hown' hgrow hat E1 E2
    go_wp2_with fail
    go_roundw
    case rel=>exact⟨k+1,s2,l++[(n:Int)],by omega,by go_num,HR.out⟩
    case measure=>simp[intOf];omega
   ·rw[decide_eq_false hle2] at hle
    rw[if_neg hle2] at e1
    rw[if_neg hle2] at e2
    have hfl:=Lease.flush_ok a.T a.m s2.n n s2.D s2.vol s2.ses wr A.sv.tab hn4 (by have:=A.ses n;omega)
    have HA:Hid (Aw w' wr a s now hs (.slice (some ⟨g,0,none⟩) hs.length ch) k u7 s2 l):=A
    have E1:Hid ((s.await now hs).1=((s2.flushed n).await now (hs.drop (k+1))).1):=e1
    have E2:Hid ((s.await now hs).2=l++((s2.flushed n).await now (hs.drop (k+1))).2):=e2
    clear A e1 e2 hdr hle2 hn hmem
    go_wp2_with fail
    refine hle.mono ?_
    rintro e w2 ⟨rfl,rfl⟩
    clear hle hc
    go_wp2_with fail
    refine hfl.mono ?_
    rintro e w3 ⟨rfl,hT3,hO3⟩
    clear hfl d47
    have A:=HA.out
    have R:Aw w' w3 a s now hs (.slice (some ⟨g,0,none⟩) hs.length ch) (k+1) u7 (s2.flushed n) l:=by
     have hlw:=A.fs.size
     have hk:∀ b,w'.heap.size≤b→b<w2.heap.size→w3.heap[b]?=w2.heap[b]?:=fun b h1 h2=>hO3.block b h2 (by simp;omega)
     refine⟨A.sv.table hT3 hO3,A.fs.ob A.sv hO3,HasI.kept A.own hk,HasI.kept A.hold hk,by have:=A.len;omega,fun c=>?_,E1.out,E2.out,A.apart⟩
     have h1:=A.ses c
     have h2:=A.ses n
     show upd s2.ses n (s2.ses n+1) c≤_
     unfold Lease.upd
     split<;>omega
    have HR:Hid (Aw w' w3 a s now hs (.slice (some ⟨g,0,none⟩) hs.length ch) (k+1) u7 (s2.flushed n) l):=R
    clear R A HA hT3 hO3 E1 E2
    go_wp2_with fail
    go_roundw
    case rel=>exact⟨k+1,s2.flushed n,l,by omega,by go_num,HR.out⟩
    case measure=>simp[intOf];omega
  ·obtain rfl:k=hs.length:=by omega
   have e1:=A.eq1
   have e2:=A.eq2
   rw[List.drop_of_length_le (Nat.le_refl _),await_nil] at e1 e2
   rw[List.append_nil] at e2
   have hx1:Hid (x.1=s2):=by rw[← hx.out];exact e1
   have hx2:Hid (x.2=l):=by rw[← hx.out];exact e2
   have HA:Hid (HasI wr w'.heap.size u7 l∧SvIs wr a s2∧Fs a w' wr):=⟨A.own,A.sv,A.fs⟩
   clear A e1 e2 hx
   go_wp2_with fail
   go_ret
   rw[hx1.out,hx2.out]
   exact⟨_,rfl,HA.out⟩
theorem awaited_any(a:Ad)(s:Sv)(o:Nat)(now:Int)(w:World)(h:SvIs w a s)(ho:o<8)(hses:∀ c,s.ses c≤4611686018427387904) :
  Calls Tryz.prog 195 #[tp a.S,.int .i64 o,.int .i64 now] w fun e w'=>∃ v,e = .returned v∧HasI w' w.heap.size v (s.awaited o now).2∧SvIs w' a (s.awaited o now).1∧Fs a w w':=by
 unfold Sv.awaited
 by_cases hz:s.down=true∨(s.waits o).length=0
 ·rw[if_pos hz]
  refine(awaited_none a s o now w h ho hz).mono ?_
  rintro e w' ⟨rfl,rfl⟩
  exact⟨_,rfl,Lease.HasI.nil _ _,h,Fs.refl _ _⟩
 ·rw[if_neg hz]
  exact awaited_some a s o now w h ho (by cases hd:s.down with|false=>rfl|true=>exact absurd (.inl hd) hz) (fun q=>hz (.inr q)) hses _ rfl
end Wld
end
section
namespace Wld
open Go.RowKit Go.Maps
open Cache (tp row_kept row_below)
open Num (M)
def sameW(mc mn:Int)(x:M):Bool:=decide (x.c=mc)&&decide (x.n=mn)
theorem pred_any(mc mn:Int)(q:Nat)(x:M)(w:World)(b1:w.cell? ⟨q,1,none⟩=some (.int .i64 mc))(b2:w.cell? ⟨q,2,none⟩=some (.int .i64 mn)) :
  Calls Tryz.prog 259 #[Wire.M.agg x,tp q] w fun e w'=>e = .returned (.bool (sameW mc mn x))∧Below w.heap.size w w':=by
 have hq:q<w.heap.size:=World.block_lt_of_cell? _ _ b1
 have hne:q≠w.heap.size:=by omega
 unfold sameW Wire.M.agg
 by_cases h1:x.c=mc
 ·have g1:(x.c == mc)=true:=by simpa using h1
  rw[decide_eq_true h1]
  clear h1
  go_enter Tryz.func259,Tryz.ntmps259
  go_wp2
  go_ret
  exact⟨rfl,(Below.refl _ _).alloc (Nat.le_refl _) _⟩
 ·have g1:(x.c == mc)=false:=by simpa using h1
  rw[decide_eq_false h1]
  clear h1
  go_enter Tryz.func259,Tryz.ntmps259
  go_wp2
  go_ret
  exact⟨rfl,(Below.refl _ _).alloc (Nat.le_refl _) _⟩
def FoundM(mc mn:Int)(l:List M)(i:Int):Prop:=(i = -1∧l.any (sameW mc mn)=false)∨(0≤i∧l.any (sameW mc mn)=true)
theorem HasM.at{w:World}{B:Nat}{v:Value}{l:List M}(h:HasM w B v l):∃ ao c,v = .slice ao l.length c∧(0<l.length→∃ g,ao=some ⟨g,0,none⟩∧B≤g∧g<w.heap.size∧∀ i j (hi:i<l.length),j<9→w.cell? ⟨g,i*9+j,none⟩=(mcell l[i])[j]?):=by
 rcases h.2 with ⟨h1,h2⟩|⟨g,cap,cur,h1,h2,h3,h4⟩
 ·exact⟨none,0,by rw[h1,h2],fun h=>by omega⟩
 ·refine⟨_,cap,h1,fun _=>⟨g,rfl,h2,(Array.getElem?_eq_some_iff.1 h3).1,fun i j hi hj=>?_⟩⟩
  subst h1
  rw[World.ownsRow.cellAt h _ (by omega)]
  exact mcells_get l i j hi hj
theorem indexM_any(mc mn:Int)(q B:Nat)(v:Value)(l:List M)(w:World)(h:HasM w B v l)(hl:l.length≤100)(b1:w.cell? ⟨q,1,none⟩=some (.int .i64 mc))(b2:w.cell? ⟨q,2,none⟩=some (.int .i64 mn)) :
  Calls Tryz.prog 282 #[v,.func (.func 259) #[] #[tp q]] w fun e w'=>∃ i,e = .returned (.int .i64 i)∧FoundM mc mn l i∧Below w.heap.size w w':=by
 have hq:q<w.heap.size:=World.block_lt_of_cell? _ _ b1
 obtain⟨ao,c,rfl,hv⟩:=h.at
 clear h
 go_enter Tryz.func282,Tryz.ntmps282
 go_wp2
 go_loopw [8] (fun i wr=>∃ k:Nat,k≤l.length∧i = .int .i64 k∧Hid ((l.take k).any (sameW mc mn)=false)∧Below w.heap.size w wr) (fun i _=>l.length-(intOf i).toNat)
 case atStart=>exact⟨0,by omega,rfl,(rfl:(l.take 0).any (sameW mc mn)=false),Below.refl _ _⟩
 case round=>
  obtain⟨k,hk,rfl,hA,hbl⟩:=hrel
  by_cases hlt:k<l.length
  ·obtain⟨g,rfl,_,hg,hcell⟩:=hv (by omega)
   have hltz:(k:Int)<(l.length:Int):=by omega
   have hc:∀ j,j<9→wr.cell? ⟨g,k*9+j,none⟩=(mcell l[k])[j]?:=fun j hj=>(hbl.cell (p:=⟨g,k*9+j,none⟩) hg).trans (hcell k j hlt hj)
   have c0:=hc 0 (by omega)
   have c1:=hc 1 (by omega)
   have c2:=hc 2 (by omega)
   have c3:=hc 3 (by omega)
   have c4:=hc 4 (by omega)
   have c5:=hc 5 (by omega)
   have c6:=hc 6 (by omega)
   have c7:=hc 7 (by omega)
   have c8:=hc 8 (by omega)
   have hcall:=pred_any mc mn q l[k] wr ((hbl.cell (p:=⟨q,1,none⟩) hq).trans b1) ((hbl.cell (p:=⟨q,2,none⟩) hq).trans b2)
   simp only[mcell,List.getElem?_cons_zero,List.getElem?_cons_succ,Nat.add_zero] at c0 c1 c2 c3 c4 c5 c6 c7 c8
   have hT:(l.take (k+1)).any (sameW mc mn)=((l.take k).any (sameW mc mn)||sameW mc mn l[k]):=by rw[List.take_succ_eq_append_getElem hlt,List.any_append];simp
   have hU:sameW mc mn l[k]=true→l.any (sameW mc mn)=true:=fun e=>List.any_eq_true.2 ⟨l[k],List.getElem_mem hlt,e⟩
   unfold Wire.M.agg at hcall
   obtain⟨y,hy⟩:∃ y,l[k]=y:=⟨_,rfl⟩
   rw[hy] at hcall c0 c1 c2 c3 c4 c5 c6 c7 c8 hT hU
   obtain⟨p,hp⟩:∃ p,sameW mc mn y=p:=⟨_,rfl⟩
   rw[hp] at hcall hT hU
   have HT:Hid ((l.take (k+1)).any (sameW mc mn)=((l.take k).any (sameW mc mn)||p)):=hT
   have HU:Hid (p=true→l.any (sameW mc mn)=true):=hU
   have HB:Hid (Below w.heap.size w wr):=hbl
   clear hy hp hbl hc hT hU hcell hv
   cases p with
   | true=>
    go_wp2_with fail
    refine hcall.mono ?_
    rintro e w' ⟨rfl,hb'⟩
    clear hcall c0 c1 c2 c3 c4 c5 c6 c7 c8
    go_wp2_with fail
    go_ret
    exact⟨_,rfl,.inr ⟨by omega,HU.out (by first|rfl|trivial)⟩,HB.out.trans (hb'.mono HB.out.size)⟩
   | false=>
    go_wp2_with fail
    refine hcall.mono ?_
    rintro e w' ⟨rfl,hb'⟩
    clear hcall c0 c1 c2 c3 c4 c5 c6 c7 c8
    go_wp2_with fail
    go_roundw
    case rel=>exact⟨k+1,by omega,by go_num,(by rw[HT.out,hA.out];rfl:(l.take (k+1)).any (sameW mc mn)=false),HB.out.trans (hb'.mono HB.out.size)⟩
    case measure=>simp[intOf];omega
  ·obtain rfl:k=l.length:=by omega
   have hltz:¬ (l.length:Int)<(l.length:Int):=by omega
   have HK:Hid (FoundM mc mn l (-1)):=.inl ⟨rfl,by have:=hA.out;rw[List.take_length] at this;exact this⟩
   clear hA hv
   go_wp2
   go_ret
   exact⟨_,rfl,HK.out,hbl⟩
theorem containsM_any(mc mn:Int)(q B:Nat)(v:Value)(l:List M)(w:World)(h:HasM w B v l)(hl:l.length≤100)(b1:w.cell? ⟨q,1,none⟩=some (.int .i64 mc))(b2:w.cell? ⟨q,2,none⟩=some (.int .i64 mn)) :
  Calls Tryz.prog 258 #[v,.func (.func 259) #[] #[tp q]] w fun e w'=>e = .returned (.bool (l.any (sameW mc mn)))∧Below w.heap.size w w':=by
 have hi:=indexM_any mc mn q B v l w h hl b1 b2
 clear h b1 b2
 obtain⟨b,hb⟩:∃ b,l.any (sameW mc mn)=b:=⟨_,rfl⟩
 have HB:Hid (l.any (sameW mc mn)=b):=hb
 rw[hb]
 clear hb
 go_enter Tryz.func258,Tryz.ntmps258
 go_wp2_with fail
 refine hi.mono ?_
 rintro e w' ⟨i,rfl,hF,hb'⟩
 rcases hF with ⟨rfl,hF⟩|⟨h0,hF⟩
 ·go_wp2_with fail
  go_ret
  exact⟨by rw[← HB.out,hF];rfl,hb'⟩
 ·have g0:decide (0≤i)=true:=decide_eq_true h0
  go_wp2_with fail
  go_ret
  exact⟨by rw[← HB.out,hF];first|rfl|simp[h0],hb'⟩
end Wld
end
end Go.Proofs.YtbebfliimjjohabGreatDoor
