/- Parts of the proof. -/
import Derived.Test.YtbebfliimjjohabGreatDoorLd29
import Derived.Maps.RangeWalk
import Derived.Test.YtbebfliimjjohabGreatDoorLd27
import Derived.Laws.CopyOwn
set_option maxRecDepth 100000
set_option maxHeartbeats 8000000
namespace Go.Proofs.YtbebfliimjjohabGreatDoor
section
namespace Wld
open Go.RowKit Go.Maps
open Lease (Ob I64 upd TabIs hol dels objB HasI map_block map_ne mx)
open Cache (tp row_kept row_below)
open Wal (R WalIs DiskIs Oq Fw rcells)
open Num (M okB strOf ints)
open Net (NetIs Only pcells)
def Wd.goneN(s:Wd)(b:Int)(f:Nat→Int)(j:Nat):Wd:={ s with step:=s.step+1,clock:=stop (s.clock+b),seat:=fun k=>if k<j then { s.seat k with clock:=stop ((s.seat k).clock+f k) } else s.seat k }
theorem goneN_zero(s:Wd)(b:Int)(f:Nat→Int):s.goneN b f 0 = { s with step:=s.step+1,clock:=stop (s.clock+b) }:=by
 unfold Wd.goneN
 simp
theorem goneN_succ(s:Wd)(b:Int)(f:Nat→Int)(j:Nat):s.goneN b f (j+1) = { s.goneN b f j with seat:=updN (s.goneN b f j).seat j { (s.goneN b f j).seat j with clock:=stop ((s.seat j).clock+f j) } }:=by
 unfold Wd.goneN
 congr 1
 funext k
 unfold updN
 dsimp only
 by_cases h:k=j
 ·subst h
  simp
 ·by_cases h2:k<j
  ·rw[if_pos (by omega),if_neg h,if_pos h2]
  ·rw[if_neg (by omega),if_neg h,if_neg h2]
structure Gn(w wr:World)(A:Wa)(s:Wd)(l:List Int)(B:Nat)(v:Value)(b:Int)(f:Nat→Int)(j:Nat):Prop where
 wd:WdIs wr A (s.goneN b f j)
 fz:Fz A s w A (s.goneN b f j) wr
 row:HasI wr B v l
theorem int_row{w w':World}{A A':Wa}{s s':Wd}{B:Nat}{v:Value}{l:List Int}(h:WdIs w A s)(hr:HasI w B v l)(hz:Fz A s w A' s' w'):HasI w' B v l:=by
 refine row_kept hr fun g hg=>?_
 obtain⟨_,hgi⟩:=row_isC hr hg
 refine hz.block g hgi.lt (fun f=>?_) (fun e=>hgi.ne e (by decide) rfl)
 rcases f with f|f|⟨v,f1,f2⟩|⟨i,hi,f⟩|⟨i,hi,f⟩|⟨f1,f2⟩
 ·exact hgi.ne h.core.typ (by decide) f
 ·exact hgi.ne h.gt (by decide) f
 ·obtain⟨v0,hv0,hr0⟩:=h.evs
  rw[hv0] at f1
  injection f1 with f1
  subst f1
  exact hgi.ne (row_isC hr0 f2).2 (by decide) rfl
 ·exact hgi.ne (h.cli i hi).isC (by decide) f
 ·exact(h.cli i hi).isM.ne hgi f.symm
 ·obtain⟨v,hv⟩:=Option.isSome_iff_exists.1 f1
  have u:=h.up v hv
  exact u.sv.notFoot hgi (by rw[u.q];exact hgi.ne h.core.typ (by decide)) (by decide) f2
theorem stop_min(x:Int):(if 549755813888<x then 549755813888 else x)=stop x:=by
 unfold stop
 split<;>split<;>omega
theorem WdIs.seatsAs{w:World}{A:Wa}{s:Wd}(h:WdIs w A s)(f:Nat→St)(hf:∀ i,i<s.n→f i=s.seat i):WdIs w A { s with seat:=f }:=by
 have c:=h.core
 exact⟨⟨c.typ,c.free,c.c0,c.c1,c.c2,c.srv,c.clk,c.sts,c.stp⟩,h.disk,h.net,h.evs,h.gt,h.gf,fun i hi=>by show SeatIs w A.G i (A.c i) (f i);rw[hf i hi];exact h.seats i hi,fun i hi=>by show CliIs w (A.c i) (A.m i) (f i).k;rw[hf i hi];exact h.cli i hi,h.ap,fun v hv=>by have u:=h.up v hv;exact⟨u.sv,u.q,u.rs,u.fails,u.left,u.ne,u.to,u.tv⟩,h.n1,h.n4⟩
theorem Fz.seatsAs{A A':Wa}{s s' s'':Wd}{w w':World}(h:Fz A s w A' s' w')(e1:s''.n=s'.n)(e2:s''.sv=s'.sv):Fz A s w A' s'' w':=
 ⟨h.os,h.tape,h.output,h.size,h.blk,fun k hk f=>h.grows k hk (by
  rcases f with f|f|⟨v,f1,f2⟩|⟨i,hi,f⟩|⟨i,hi,f⟩|⟨f1,f2⟩
  ·exact .Q f
  ·exact .G f
  ·exact .ev v f1 f2
  ·exact .c i (e1▸hi) f
  ·exact .m i (e1▸hi) f
  ·exact .sv (e2▸f1) f2),h.Q⟩
theorem WdB.gone'{w:Wd}{C:Nat}(h:WdB w C){b:Int}{f:Nat→Int}(hb:0≤b)(hf:∀ i,i<w.n→0≤f i):WdB (w.gone b f) (C+1):=by
 have h':=h.mono (Nat.le_succ C)
 refine⟨h'.to0,h'.to1,h'.tv0,h'.tv1,h'.td0,h'.td1,stop_ge (by have:=h.c0;omega),stop_le _,fun j hj=>?_,by have:=h.s0;show 0≤w.step+1;omega,by have:=h.s1;show w.step+1≤_;omega,h'.ev,h'.net,h'.netl,h'.sv,h'.recs,h'.len,h'.left0,h'.left1⟩
 have q:=h'.st j hj
 exact⟨q.k,stop_ge (by have:=q.c0;have:=hf j hj;omega),stop_le _,q.l0,q.l1,q.a0,q.a1⟩
theorem goneN_all{s:Wd}{b:Int}{f:Nat→Int}{w:World}{A:Wa}(h:WdIs w A (s.goneN b f s.n)):WdIs w A (s.gone b f):=
 h.seatsAs (fun k=>{ s.seat k with clock:=stop ((s.seat k).clock+f k) }) fun i hi=>by
  exact(if_pos (show i<s.n from hi)).symm
theorem goesW_any(A:Wa)(s:Wd)(C B:Nat)(v:Value)(l:List Int)(w:World)(h:WdIs w A s)(hB:WdB s C)(hC:C≤10000000000)(hl:HasI w B v l)(hln:l.length=1+s.n)(hok:∀ x∈l,0≤x∧x≤137438953472)(b0:Int)(hb0:l.getD 0 0=b0)(f:Nat→Int)(hf:∀ k,l.getD (1+k) 0=f k) :
  Calls Tryz.prog 37 #[tp A.Q,v] w fun e w'=>e = .returned .nilIface∧WdIs w' A (s.goes b0 f)∧Fz A s w A (s.goes b0 f) w':=by
 have n4:=h.n4
 have n1:=h.n1
 have sts:=h.core.sts
 have stp:=h.core.stp
 have fst:=h.core.free 12411
 have hco:=containsG_any B v l w hl (by omega) hok
 obtain⟨ao,cc,hao,hcells⟩:=hl.shape
 obtain⟨g,hg,hcell⟩:=hcells (by omega)
 subst hg
 subst hao
 have hwr:IntKind.i64.wrap (s.step+1)=s.step+1:=wrapI (by have:=hB.s0;omega) (by have:=hB.s1;omega)
 have hw1:IntKind.i64.wrap (1+(s.n:Int))=1+(s.n:Int):=wrapI (by omega) (by omega)
 have hm:l.length=s.n+1:=by omega
 have hne:(((s.n+1:Nat):Int) != 1+(s.n:Int))=false:=by simp;omega
 have hne2:((s.n:Int)+1 != 1+(s.n:Int))=false:=by simp;omega
 obtain⟨x1,x2⟩:=h.setStep (s.step+1)
 have hrow1:=int_row h hl x2
 have HB:Hid (WdB s C):=hB
 have HF:Hid (∀ k,l.getD (1+k) 0=f k):=hf
 clear hf
 have HL:Hid (l.length=1+s.n):=hln
 rw[hm] at hco ⊢
 have HM:Hid (l.length=s.n+1):=hm
 clear hcells hcell h hB hln hm
 go_enter Tryz.func37,Tryz.ntmps37
 go_wp2_with fail
 refine hco.mono ?_
 rintro e w2 ⟨rfl,hw2⟩
 rw[hw2]
 clear hw2 hco
 go_upto_region 4 with fail
 generalize w.setCell ⟨A.Q,12411,none⟩ (.int .i64 (s.step+1))=w3 at *
 have hc0:w3.cell? ⟨g,0,none⟩=some (.int .i64 (l.getD 0 0)):=by
  have hm:=HM.out
  have:=World.ownsRow.cellAt hrow1 0 (by omega)
  rw[this,List.getElem?_map,List.getD_eq_getElem?_getD,List.getElem?_eq_getElem (by omega)]
  rfl
 have clk:=x1.core.clk
 have fck:=x1.core.free 12408
 dsimp only at clk
 have hck:I64 (s.clock+l.getD 0 0):=by
  have h1:=HB.out.c0
  have h2:=HB.out.c1
  have hm:=HM.out
  have h3:=hok (l.getD 0 0) (by rw[List.getD_eq_getElem?_getD,List.getElem?_eq_getElem (by omega)];exact List.getElem_mem _)
  exact⟨by omega,by omega⟩
 have hwc:IntKind.i64.wrap (s.clock+l.getD 0 0)=s.clock+l.getD 0 0:=wrapI hck.1 hck.2
 rw[hb0] at hc0 hwc hck
 have HB0:Hid (l.getD 0 0=b0):=hb0
 clear hb0
 refine Gen.start (S:=fun w'=>w'.cell? ⟨A.Q,12408,none⟩=some (.int .i64 s.clock)∧w'.cell? ⟨g,0,none⟩=some (.int .i64 b0)) (by kernel_rfl) ⟨clk,hc0⟩ (fun hHeld=>?_)
 refine Gen.tk 0 10 ?_ rfl rfl (Or.inl ⟨by rfl,?_⟩) hHeld ?_;rotate_left
 ·rintro w' ⟨s0,s1⟩;go_simp;try with_reducible rfl
 go_frame
 refine Gen.tk 1 2 ?_ rfl rfl (Or.inl ⟨by rfl,?_⟩) hHeld ?_;rotate_left
 ·rintro w' ⟨s0,s1⟩;go_simp;try with_reducible rfl
 go_frame
 refine Gen.tk 2 3 ?_ rfl rfl (Or.inl ⟨by rfl,?_⟩) hHeld ?_;rotate_left
 ·rintro w' ⟨s0,s1⟩;go_simp;try with_reducible rfl
 go_frame
 refine Gen.tk 3 4 ?_ rfl rfl (Or.inl ⟨by rfl,?_⟩) hHeld ?_;rotate_left
 ·rintro w' ⟨s0,s1⟩;go_simp;try with_reducible rfl
 go_frame
 refine Gen.tk 4 8 ?_ rfl rfl (Or.inl ⟨by rfl,?_⟩) hHeld ?_;rotate_left
 ·rintro w' ⟨s0,s1⟩;go_simp;try with_reducible rfl
 go_frame
 refine Gen.tk 5 6 ?_ rfl rfl (Or.inl ⟨by rfl,?_⟩) hHeld ?_;rotate_left
 ·rintro w' ⟨s0,s1⟩;go_simp;try with_reducible rfl
 go_frame
 refine Gen.tk 6 7 ?_ rfl rfl (Or.inl ⟨by rfl,?_⟩) hHeld ?_;rotate_left
 ·rintro w' ⟨s0,s1⟩;go_simp;try with_reducible rfl
 go_frame
 refine Gen.tk 7 8 ?_ rfl rfl (Or.inl ⟨by rfl,?_⟩) hHeld ?_;rotate_left
 ·rintro w' ⟨s0,s1⟩;go_simp;try with_reducible rfl
 go_frame
 refine Gen.tk 8 9 ?_ rfl rfl (Or.inl ⟨by rfl,?_⟩) hHeld ?_;rotate_left
 ·rintro w' ⟨s0,s1⟩;go_simp;try with_reducible rfl
 go_frame
 refine Gen.tk 9 10 ?_ rfl rfl (Or.inl ⟨by rfl,?_⟩) hHeld ?_;rotate_left
 ·rintro w' ⟨s0,s1⟩;go_simp;try with_reducible rfl
 go_frame
 refine Gen.tk 10 11 ?_ rfl rfl (Or.inl ⟨by rfl,?_⟩) hHeld ?_;rotate_left
 ·rintro w' ⟨s0,s1⟩;go_simp;try with_reducible rfl
 go_frame
 refine Gen.tk 11 12 ?_ rfl rfl (Or.inl ⟨by rfl,?_⟩) hHeld ?_;rotate_left
 ·rintro w' ⟨s0,s1⟩;go_simp;try with_reducible rfl
 go_frame
 refine Gen.last (i:=12) (by kernel_rfl) rfl rfl (by kernel_rfl) (by kernel_rfl) (fun K hK=>?_)
 go_simp
 rw[stop_min]
 refine hK.out _ _ ?_
 clear hK K hHeld
 obtain⟨y1,y2⟩:=x1.setClock (stop (s.clock+b0))
 obtain⟨y3,y4⟩:=y1.below (Below.refl _ _).drew
 have hrow2:=int_row x1 hrow1 (y2.trans y4)
 have HS0:Hid (Gn w (w3.setCell ⟨A.Q,12408,none⟩ (.int .i64 (stop (s.clock+b0)))).drew A s l B (.slice (some ⟨g,0,none⟩) l.length cc) b0 f 0):=by
  refine⟨?_,?_,hrow2⟩
  ·rw[goneN_zero]
   exact y3
  ·rw[goneN_zero]
   exact x2.trans (y2.trans y4)
 have sts:=y3.core.sts
 generalize (w3.setCell ⟨A.Q,12408,none⟩ (.int .i64 (stop (s.clock+b0)))).drew=w4 at *
 clear x1 x2 y1 y2 y3 y4 hrow1 hrow2 clk fck hck hwc hc0
 go_wp2_with fail
 go_loopw [44] (fun i wr=>∃ k:Nat,k≤s.n∧i = .int .i64 k∧Gn w wr A s l B (.slice (some ⟨g,0,none⟩) l.length cc) b0 f k) (fun i _=>s.n-(intOf i).toNat)
 case atStart=>exact⟨0,by omega,rfl,HS0.out⟩
 case round=>
  obtain⟨k,hk,rfl,D⟩:=hrel
  by_cases hlt:k<s.n
  ·have hkI:(k:Int)<(s.n:Int):=by omega
   have hkI0:(0:Int)≤(k:Int):=by omega
   have hkw:IntKind.i64.wrap (1+(k:Int))=1+(k:Int):=wrapI (by omega) (by omega)
   have hk1:(1+(k:Int))<(s.n:Int)+1:=by omega
   have hk10:(0:Int)≤1+(k:Int):=by omega
   have hkN:(1+(k:Int)).toNat=1+k:=by omega
   have sts3:=D.wd.core.sts
   have clk3:=(D.wd.seats k hlt).c1
   have by3:wr.cell? ⟨g,1+k,none⟩=some (.int .i64 (f k)):=by
    have hm:=HM.out
    have:=World.ownsRow.cellAt D.row (1+k) (by omega)
    rw[← HF.out k]
    rw[this,List.getElem?_map,List.getD_eq_getElem?_getD,List.getElem?_eq_getElem (by omega)]
    rfl
   have hsk:(((s.goneN b0 f k).seat k)).clock=(s.seat k).clock:=by
    unfold Wd.goneN
    simp
   rw[hsk] at clk3
   have hfk:0≤f k∧f k≤137438953472:=by
    have hm:=HM.out
    rw[← HF.out k]
    exact hok _ (by rw[List.getD_eq_getElem?_getD,List.getElem?_eq_getElem (by omega)];exact List.getElem_mem _)
   have hcw:IntKind.i64.wrap ((s.seat k).clock+f k)=(s.seat k).clock+f k:=by
    have q:=HB.out.st k hlt
    have q0:=q.c0
    have q1:=q.c1
    exact wrapI (by omega) (by omega)
   have gf3:=D.wd.gf (k*4+1)
   have HD:Hid (Gn w wr A s l B (.slice (some ⟨g,0,none⟩) l.length cc) b0 f k):=D
   clear D hsk hfk
   obtain⟨ck,hck⟩:∃ ck,(s.seat k).clock=ck:=⟨_,rfl⟩
   obtain⟨fk,hfk⟩:∃ fk,f k=fk:=⟨_,rfl⟩
   rw[hck] at clk3 hcw
   rw[hfk] at by3 hcw
   have HCK:Hid ((s.seat k).clock=ck):=hck
   have HFK:Hid (f k=fk):=hfk
   clear hck hfk
   go_upto_region 8 with fail
   refine Gen.start (S:=fun w'=>w'.cell? ⟨A.Q,12409,none⟩=some (.slice (some ⟨A.G,0,none⟩) s.n s.n)∧w'.cell? ⟨A.G,k*4+1,none⟩=some (.int .i64 ck)∧w'.cell? ⟨g,1+k,none⟩=some (.int .i64 fk)) (by kernel_rfl) ⟨sts3,clk3,by3⟩ (fun hHeld=>?_)
   refine Gen.tk 0 1 ?_ rfl rfl (Or.inl ⟨by rfl,?_⟩) hHeld ?_;rotate_left
   ·rintro w' ⟨s0,s1,s2⟩;go_simp;try with_reducible rfl
   go_frame
   refine Gen.tk 1 2 ?_ rfl rfl (Or.inl ⟨by rfl,?_⟩) hHeld ?_;rotate_left
   ·rintro w' ⟨s0,s1,s2⟩;go_simp;try with_reducible rfl
   go_frame
   refine Gen.tk 2 3 ?_ rfl rfl (Or.inl ⟨by rfl,?_⟩) hHeld ?_;rotate_left
   ·rintro w' ⟨s0,s1,s2⟩;go_simp;try with_reducible rfl
   go_frame
   refine Gen.tk 3 20 ?_ rfl rfl (Or.inl ⟨by rfl,?_⟩) hHeld ?_;rotate_left
   ·rintro w' ⟨s0,s1,s2⟩;go_simp;try with_reducible rfl
   go_frame
   refine Gen.tk 4 20 ?_ rfl rfl (Or.inl ⟨by rfl,?_⟩) hHeld ?_;rotate_left
   ·rintro w' ⟨s0,s1,s2⟩;go_simp;try with_reducible rfl
   go_frame
   refine Gen.tk 5 6 ?_ rfl rfl (Or.inl ⟨by rfl,?_⟩) hHeld ?_;rotate_left
   ·rintro w' ⟨s0,s1,s2⟩;go_simp;try with_reducible rfl
   go_frame
   refine Gen.tk 6 7 ?_ rfl rfl (Or.inl ⟨by rfl,?_⟩) hHeld ?_;rotate_left
   ·rintro w' ⟨s0,s1,s2⟩;go_simp;try with_reducible rfl
   go_frame
   refine Gen.tk 7 8 ?_ rfl rfl (Or.inl ⟨by rfl,?_⟩) hHeld ?_;rotate_left
   ·rintro w' ⟨s0,s1,s2⟩;go_simp;try with_reducible rfl
   go_frame
   refine Gen.tk 8 10 ?_ rfl rfl (Or.inl ⟨by rfl,?_⟩) hHeld ?_;rotate_left
   ·rintro w' ⟨s0,s1,s2⟩;go_simp;try with_reducible rfl
   go_frame
   refine Gen.tk 9 10 ?_ rfl rfl (Or.inl ⟨by rfl,?_⟩) hHeld ?_;rotate_left
   ·rintro w' ⟨s0,s1,s2⟩;go_simp;try with_reducible rfl
   go_frame
   refine Gen.tk 10 11 ?_ rfl rfl (Or.inl ⟨by rfl,?_⟩) hHeld ?_;rotate_left
   ·rintro w' ⟨s0,s1,s2⟩;go_simp;try with_reducible rfl
   go_frame
   refine Gen.tk 11 12 ?_ rfl rfl (Or.inl ⟨by rfl,?_⟩) hHeld ?_;rotate_left
   ·rintro w' ⟨s0,s1,s2⟩;go_simp;try with_reducible rfl
   go_frame
   refine Gen.tk 12 18 ?_ rfl rfl (Or.inl ⟨by rfl,?_⟩) hHeld ?_;rotate_left
   ·rintro w' ⟨s0,s1,s2⟩;go_simp;try with_reducible rfl
   go_frame
   refine Gen.tk 13 16 ?_ rfl rfl (Or.inl ⟨by rfl,?_⟩) hHeld ?_;rotate_left
   ·rintro w' ⟨s0,s1,s2⟩;go_simp;try with_reducible rfl
   go_frame
   refine Gen.tk 14 15 ?_ rfl rfl (Or.inl ⟨by rfl,?_⟩) hHeld ?_;rotate_left
   ·rintro w' ⟨s0,s1,s2⟩;go_simp;try with_reducible rfl
   go_frame
   refine Gen.tk 15 16 ?_ rfl rfl (Or.inl ⟨by rfl,?_⟩) hHeld ?_;rotate_left
   ·rintro w' ⟨s0,s1,s2⟩;go_simp;try with_reducible rfl
   go_frame
   refine Gen.tk 16 17 ?_ rfl rfl (Or.inl ⟨by rfl,?_⟩) hHeld ?_;rotate_left
   ·rintro w' ⟨s0,s1,s2⟩;go_simp;try with_reducible rfl
   go_frame
   refine Gen.tk 17 18 ?_ rfl rfl (Or.inl ⟨by rfl,?_⟩) hHeld ?_;rotate_left
   ·rintro w' ⟨s0,s1,s2⟩;go_simp;try with_reducible rfl
   go_frame
   refine Gen.tk 18 19 ?_ rfl rfl (Or.inl ⟨by rfl,?_⟩) hHeld ?_;rotate_left
   ·rintro w' ⟨s0,s1,s2⟩;go_simp;try with_reducible rfl
   go_frame
   refine Gen.tk 19 20 ?_ rfl rfl (Or.inl ⟨by rfl,?_⟩) hHeld ?_;rotate_left
   ·rintro w' ⟨s0,s1,s2⟩;go_simp;try with_reducible rfl
   go_frame
   refine Gen.tk 20 21 ?_ rfl rfl (Or.inl ⟨by rfl,?_⟩) hHeld ?_;rotate_left
   ·rintro w' ⟨s0,s1,s2⟩;go_simp;try with_reducible rfl
   go_frame
   refine Gen.tk 21 22 ?_ rfl rfl (Or.inl ⟨by rfl,?_⟩) hHeld ?_;rotate_left
   ·rintro w' ⟨s0,s1,s2⟩;go_simp;try with_reducible rfl
   go_frame
   refine Gen.last (i:=22) (by kernel_rfl) rfl rfl (by kernel_rfl) (by kernel_rfl) (fun K hK=>?_)
   go_simp
   rw[stop_min]
   have HN:Hid (Gn w (wr.setCell ⟨A.G,k*4+1,none⟩ (.int .i64 (stop (ck+fk)))).drew A s l B (.slice (some ⟨g,0,none⟩) l.length cc) b0 f (k+1)):=by
    have D:=HD.out
    obtain⟨p1,p2⟩:=D.wd.setSeatClock hlt (stop (ck+fk))
    obtain⟨p3,p4⟩:=p1.below (Below.refl _ _).drew
    have e:=goneN_succ s b0 f k
    rw[HCK.out,HFK.out] at e
    refine⟨?_,?_,int_row D.wd D.row (p2.trans p4)⟩
    ·rw[e]
     exact p3
    ·rw[e]
     exact D.fz.trans (p2.trans p4)
   refine hK.out _ _ ?_
   clear hK K hHeld
   generalize (wr.setCell ⟨A.G,k*4+1,none⟩ (.int .i64 (stop (ck+fk)))).drew=w5 at *
   clear sts3 clk3 by3 gf3
   go_wp2_with fail
   go_roundw
   case rel=>exact⟨k+1,by omega,by go_num,HN.out⟩
   case measure=>simp[intOf];omega
  ·obtain rfl:k=s.n:=by omega
   have wd:=goneN_all D.wd
   have fz:=D.fz.seatsAs (s'':=s.gone b0 f) rfl rfl
   have hBg:=HB.out.gone' (b:=b0) (f:=f) (by
    rw[← HB0.out]
    have hm:=HM.out
    exact(hok _ (by rw[List.getD_eq_getElem?_getD,List.getElem?_eq_getElem (by omega)];exact List.getElem_mem _)).1) (fun i hi=>by
    have hm:=HM.out
    rw[← HF.out i]
    exact(hok _ (by rw[List.getD_eq_getElem?_getD,List.getElem?_eq_getElem (by omega)];exact List.getElem_mem _)).1)
   have HG:Hid (s.goes b0 f=(s.gone b0 f).ticked):=rfl
   obtain⟨t,ht⟩:∃ t,s.gone b0 f=t:=⟨_,rfl⟩
   rw[ht] at wd fz hBg HG
   have hup:=up_any A t wr wd
   clear D HS0 ht sts HB HF HM
   cases hs:t.sv with
   | none=>
    rw[hs] at hup
    have HR:Hid (WdIs wr A (s.goes b0 f)∧Fz A s w A (s.goes b0 f) wr):=by
     rw[HG.out]
     have e:t.ticked=t:=by unfold Wd.ticked;rw[hs]
     rw[e]
     exact⟨wd,fz⟩
    clear wd fz hBg
    go_wp2_with fail
    refine hup.mono ?_
    rintro e w2 ⟨rfl,rfl⟩
    go_wp2_with fail
    go_ret
    exact⟨rfl,HR.out⟩
   | some v=>
    rw[hs] at hup
    have HE:Hid (s.goes b0 f=t.answer (v.tickN t.clock 8)):=by
     have e:t.ticked=t.answer (v.tickN t.clock 8):=by unfold Wd.ticked;rw[hs]
     exact HG.out.trans e
    have srv:=wd.core.srv
    have clk:=wd.core.clk
    rw[hs] at srv
    unfold svP at srv
    obtain⟨z1,z2⟩:=wd.below (Below.refl wr.heap.size wr).drew
    have u:=z1.up v hs
    have hSV:=(hBg.sv v hs).1
    have hti:=tick_any A.a v t.clock _ wr.drew u.sv hSV (by omega)
    have hsm:=tick_small v t.clock 8
    have hst:=tick_seated hSV t.clock 8
    have hln:=(SvB.tick hSV t.clock 8).2
    have htm:=tick_terms v t.clock 8
    obtain⟨r,hr⟩:∃ r,v.tickN t.clock 8=r:=⟨_,rfl⟩
    rw[hr] at HE hti hsm hst hln htm
    clear hr
    clear hBg HG
    go_wp2_with fail
    refine hup.mono ?_
    rintro e w2 ⟨rfl,rfl⟩
    clear hup
    go_upto_region 11 with fail
    refine Gen.start (S:=fun w'=>w'.cell? ⟨A.Q,12407,none⟩=some (.pointer (some ⟨A.a.S,0,none⟩))∧w'.cell? ⟨A.Q,12408,none⟩=some (.int .i64 t.clock)) (by kernel_rfl) ⟨srv,clk⟩ (fun hHeld=>?_)
    refine Gen.tk 0 10 ?_ rfl rfl (Or.inl ⟨by rfl,?_⟩) hHeld ?_;rotate_left
    ·rintro w' ⟨s0,s1⟩;go_simp;try with_reducible rfl
    go_frame
    refine Gen.tk 1 2 ?_ rfl rfl (Or.inl ⟨by rfl,?_⟩) hHeld ?_;rotate_left
    ·rintro w' ⟨s0,s1⟩;go_simp;try with_reducible rfl
    go_frame
    refine Gen.tk 2 3 ?_ rfl rfl (Or.inl ⟨by rfl,?_⟩) hHeld ?_;rotate_left
    ·rintro w' ⟨s0,s1⟩;go_simp;try with_reducible rfl
    go_frame
    refine Gen.tk 3 4 ?_ rfl rfl (Or.inl ⟨by rfl,?_⟩) hHeld ?_;rotate_left
    ·rintro w' ⟨s0,s1⟩;go_simp;try with_reducible rfl
    go_frame
    refine Gen.tk 4 9 ?_ rfl rfl (Or.inl ⟨by rfl,?_⟩) hHeld ?_;rotate_left
    ·rintro w' ⟨s0,s1⟩;go_simp;try with_reducible rfl
    go_frame
    refine Gen.tk 5 6 ?_ rfl rfl (Or.inl ⟨by rfl,?_⟩) hHeld ?_;rotate_left
    ·rintro w' ⟨s0,s1⟩;go_simp;try with_reducible rfl
    go_frame
    refine Gen.tk 6 7 ?_ rfl rfl (Or.inl ⟨by rfl,?_⟩) hHeld ?_;rotate_left
    ·rintro w' ⟨s0,s1⟩;go_simp;try with_reducible rfl
    go_frame
    refine Gen.tk 7 8 ?_ rfl rfl (Or.inl ⟨by rfl,?_⟩) hHeld ?_;rotate_left
    ·rintro w' ⟨s0,s1⟩;go_simp;try with_reducible rfl
    go_frame
    refine Gen.tk 8 9 ?_ rfl rfl (Or.inl ⟨by rfl,?_⟩) hHeld ?_;rotate_left
    ·rintro w' ⟨s0,s1⟩;go_simp;try with_reducible rfl
    go_frame
    refine Gen.one (i:=9) (by kernel_rfl) rfl rfl (fun K hK=>?_)
    go_simp
    refine hti.mono ?_
    rintro e w3 ⟨v3,rfl,T3⟩
    obtain⟨y1,y2⟩:=z1.served hs T3.sv T3.fs htm.1 htm.2
    have srv3:w3.cell? ⟨A.Q,12407,none⟩=some (.pointer (some ⟨A.a.S,0,none⟩)):=y1.core.srv
    have clk3:w3.cell? ⟨A.Q,12408,none⟩=some (.int .i64 t.clock):=y1.core.clk
    have han:=answerW_any A (t.served r.1) r.1 r.2 _ v3 w3 y1 rfl T3.out.own (fun g hg=>z1.newOut hs T3.fs (World.ownsRow.lt T3.out.own g hg).1 (T3.out.sep g hg)) (by omega) hsm hst
    dsimp only
    refine hK.out _ _ ⟨srv3,clk3⟩ (fun hHeld=>?_)
    clear hK K
    try go_frame
    refine Gen.last (i:=10) (by kernel_rfl) rfl rfl (by kernel_rfl) (by kernel_rfl) (fun K hK=>?_)
    go_simp
    refine han.mono ?_
    rintro e w4 ⟨rfl,q1,q2⟩
    have HR:Hid (WdIs w4 A (s.goes b0 f)∧Fz A s w A (s.goes b0 f) w4):=by
     rw[HE.out]
     exact⟨q1,((fz.trans z2).trans y2).trans q2⟩
    dsimp only
    refine hK.out _ _ ?_
    clear hK K hHeld
    clear q1 q2 y1 y2 z1 z2 wd fz han hti T3 u
    go_wp2_with fail
    go_ret
    exact⟨rfl,HR.out⟩
end Wld
end
section
namespace Wld
open Num (M okB strOf ints)
open Wal (R)
theorem put_n(s:Wd)(t:Int)(m:M):(s.put t m).n=s.n:=by
 unfold Wd.put
 split<;>rfl
theorem sent_n(t:Int):∀ (l:List M) (s:Wd),(s.send t l).n=s.n
 | [],_=>rfl
 | m :: l,s=>(sent_n t l (s.put t m)).trans (put_n s t m)
theorem tells_n:∀ (l:List M) (s:Wd),(s.tells l).n=s.n
 | [],_=>rfl
 | m :: l,s=>(tells_n l (s.put (seatN m.c:Nat) m)).trans (put_n s _ m)
theorem fallen_n(s:Wd):s.fallen.n=s.n:=by
 unfold Wd.fallen
 split
 ·rfl
 ·split<;>rfl
theorem answer_n(s:Wd)(r:Sv×List M):(s.answer r).n=s.n:=(fallen_n _).trans (tells_n r.2 _)
theorem toldServer_n(s:Wd)(m:M):(s.toldServer m).n=s.n:=by
 unfold Wd.toldServer
 split
 ·rfl
 ·exact answer_n _ _
theorem note_n(s:Wd)(k:Nat):(s.note k).n=s.n:=by
 unfold Wd.note
 split<;>rfl
theorem toldClient_n(s:Wd)(k:Nat)(m:M):(s.toldClient k m).n=s.n:=(note_n _ k).trans (sent_n _ _ _)
theorem told_n(s:Wd)(t:Int)(m:M):(s.told t m).n=s.n:=by
 unfold Wd.told
 split
 ·exact toldServer_n _ _
 ·split
  ·exact toldClient_n _ _ _
  ·rfl
theorem deliver_n(s:Wd)(k:Nat):(s.deliver k).n=s.n:=by
 unfold Wd.deliver
 split
 ·rfl
 ·exact told_n _ _ _
theorem drain_n:∀ (f:Nat) (s:Wd),(s.drain f).n=s.n
 | 0,_=>rfl
 | f+1,s=>by
  unfold Wd.drain
  split
  ·rfl
  ·exact(drain_n f _).trans (deliver_n s 0)
theorem drained_n(s:Wd):s.drained.n=s.n:=drain_n _ s
theorem ask_n(s:Wd)(k:Nat):(s.ask k).n=s.n:=sent_n _ _ _
theorem again_n(s:Wd)(k:Nat):(s.again k).n=s.n:=ask_n _ k
theorem goes_n(s:Wd)(b:Int)(f:Nat→Int):(s.goes b f).n=s.n:=by
 unfold Wd.goes Wd.ticked
 split
 ·rfl
 ·exact answer_n _ _
theorem restart_n(s:Wd):s.restart.n=s.n:=by
 unfold Wd.restart
 split<;>rfl
def Wd.calmK(s:Wd):Nat→Wd
 | 0=>s
 | k+1=>((s.calmK k).again k).drained
theorem calmK_n(s:Wd):∀ k,(s.calmK k).n=s.n
 | 0=>rfl
 | k+1=>((drained_n _).trans (again_n _ k)).trans (calmK_n s k)
def Wd.calm1(s:Wd):Wd:=((s.restart.calmK s.n).goes 1 fun k=>if k<s.n then 1 else 0).drained
theorem calm1_n(s:Wd):s.calm1.n=s.n:=(((drained_n _).trans (goes_n _ _ _)).trans (calmK_n _ _)).trans (restart_n s)
def Wd.calm(s:Wd):Nat→Wd
 | 0=>s
 | r+1=>(s.calm r).calm1
theorem calm_n(s:Wd):∀ r,(s.calm r).n=s.n
 | 0=>rfl
 | r+1=>(calm1_n _).trans (calm_n s r)
theorem WdB.calmK{s:Wd}{C:Nat}(h:WdB s C):∀ k,k≤s.n→WdB (s.calmK k) (C+3562*k)
 | 0,_=>h
 | k+1,hk=>(((WdB.calmK h k (by omega)).again (by rw[calmK_n];omega)).drained).mono (by omega)
end Wld
end
section
namespace Wld
open Go.RowKit Go.Maps
open Lease (HasI)
theorem mul64_any(c:Int)(hc:c=2∨c=3∨c=4∨c=5)(w:World) :
  Calls Tryz.prog 135 #[.int .u64 1,.int .u64 c] w fun e w'=>e = .returned (.tuple #[.int .u64 0,.int .u64 c])∧w'=w:=by
 rcases hc with rfl|rfl|rfl|rfl
 all_goals
  go_enter Tryz.func135,Tryz.ntmps135
  go_wp2_with fail
  exact bodyPost_ret (v:=.tuple #[_,_]) (by simp[results,Tryz.results135,go_sem];kernel_rfl) rfl ⟨rfl,rfl⟩
theorem mul_any(c:Int)(hc:c=2∨c=3∨c=4∨c=5)(w:World) :
  Calls Tryz.prog 68 #[.int .u64 1,.int .u64 c] w fun e w'=>e = .returned (.tuple #[.int .u64 0,.int .u64 c])∧w'=w:=by
 have hm:=mul64_any c hc w
 have hw:IntKind.u64.wrap c=c:=by rcases hc with rfl|rfl|rfl|rfl<;>rfl
 clear hc
 go_enter Tryz.func68,Tryz.ntmps68
 go_wp2_with fail
 refine hm.mono ?_
 rintro e w2 ⟨rfl,rfl⟩
 go_wp2_with fail
 exact bodyPost_ret (v:=.tuple #[_,_]) (by simp[results,Tryz.results68,go_sem]) rfl ⟨rfl,rfl⟩
theorem info_int1:(Tryz.prog.info? 3).map (·.size)=some 1:=by kernel_rfl
def onesC(c k:Nat):List Value:=List.replicate k (.int .i64 1)++List.replicate (c-k) (.int .i64 0)
structure Rp(w wr:World)(c k:Nat):Prop where
 row:wr.heap[w.heap.size]?=some (.cells (onesC c k).toArray 3 (0,0))
 below:Below w.heap.size w wr
theorem Rp.copy{w wr:World}{c k:Nat}(h:Rp w wr c k)(hk:k≤c) :
  (Builtin.copy_ #[26,26] 3 #[.slice (some ⟨w.heap.size,k,none⟩) (c-k) (c-k),.slice (some ⟨w.heap.size,0,none⟩) k c]).run Tryz.prog wr = .ok (.int .i64 (min k (c-k):Nat)) (wr.setRow w.heap.size (onesC c (k+min k (c-k))).toArray)∧Rp w (wr.setRow w.heap.size (onesC c (k+min k (c-k))).toArray) c (k+min k (c-k)):=by
 refine⟨?_,⟨setRow_heap _ _ _ _ _ _ h.row,below_setRow h.below (Nat.le_refl _) _⟩⟩
 have hsrc:∀ j v,(List.replicate (min k (c-k)) (Value.int .i64 1))[j]?=some v→wr.cell? ((⟨w.heap.size,0,none⟩:Addr).add j)=some v:=by
  intro j v hj
  rw[List.getElem?_replicate] at hj
  split at hj
  ·cases hj
   have:(onesC c k)[j]?=some (.int .i64 1):=by
    unfold onesC
    rw[List.getElem?_append_left (by simp;omega),List.getElem?_replicate,if_pos (by omega)]
   have q:(⟨w.heap.size,0,none⟩:Addr).add j=⟨w.heap.size,j,none⟩:=by
    simp only[Addr.add]
    split<;>simp_all
   rw[q]
   simp[World.cell?,h.row,this]
  ·cases hj
 have e:=run_copy_row Tryz.prog wr 26 26 3 3 w.heap.size k (c-k) (c-k) ⟨w.heap.size,0,none⟩ k c (onesC c k).toArray 3 (List.replicate (min k (c-k)) (.int .i64 1)) Tryz.underlying26 info_int1 h.row (by simp[Nat.min_def]) hsrc (by simp[onesC];omega) (by intro v hv;rw[(List.mem_replicate.1 hv).2];rfl)
 have e2:(onesC c k).toArray.toList.take k++List.replicate (min k (c-k)) (.int .i64 1)++(onesC c k).toArray.toList.drop (k+(List.replicate (min k (c-k)) (Value.int .i64 1)).length)=onesC c (k+min k (c-k)):=by
  unfold onesC
  rw[List.length_replicate,List.take_append_of_le_length (by simp),List.take_of_length_le (by simp),List.replicate_append_replicate,List.drop_append,List.drop_eq_nil_of_le (by simp),List.drop_replicate]
  simp
  omega
 rw[e2] at e
 rw[e]
 simp[goInt]
theorem repeat_any(g c:Nat)(hc:c=2∨c=3∨c=4∨c=5)(w:World)(h0:w.cell? ⟨g,0,none⟩=some (.int .i64 1))(hg:g<w.heap.size) :
  Calls Tryz.prog 35 #[.slice (some ⟨g,0,none⟩) 1 1,.int .i64 c] w fun e w'=>∃ v,e = .returned v∧HasI w' w.heap.size v (List.replicate c 1)∧Below w.heap.size w w':=by
 obtain⟨Z,hZ⟩:∃ Z,List.replicate c (Value.int .i64 0)=Z:=⟨_,rfl⟩
 have hZl:Z.length=c:=by rw[← hZ];simp
 have hmk:∀ w,(Instr.makeSlice 26 (.int .i64 c) (.int .i64 c)).run Tryz.prog w = .ok (.slice (some ⟨w.heap.size,0,none⟩) c c) (w.alloc (.cells Z.toArray 3)):=fun _=>by rw[← hZ];rcases hc with rfl|rfl|rfl|rfl<;>kernel_rfl
 have hrw:(w.alloc (.cells Z.toArray 3)).heap[w.heap.size]?=some (.cells Z.toArray 3 (0,0)):=by show (w.heap.push _)[w.heap.size]?=_;exact Array.getElem?_push_size ..
 have hcp:=run_copy_row Tryz.prog (w.alloc (.cells Z.toArray 3)) 26 26 3 3 w.heap.size 0 c c ⟨g,0,none⟩ 1 1 Z.toArray 3 [.int .i64 1] Tryz.underlying26 info_int1 hrw (by simp[Nat.min_def];omega) (by
  intro j v hj
  match j,hj with
  | 0,hj=>
   cases hj
   exact(World.cell?_alloc_lt _ _ _ hg).trans h0) (by simp;omega) (by intro v hv;rw[List.mem_singleton.1 hv];rfl)
 have hS:Rp w ((w.alloc (.cells Z.toArray 3)).setRow w.heap.size (Z.toArray.toList.take 0++[Value.int .i64 1]++Z.toArray.toList.drop (0+[Value.int .i64 1].length)).toArray) c 1:=by
  refine⟨?_,below_setRow ((Below.refl _ _).alloc (Nat.le_refl _) _) (Nat.le_refl _) _⟩
  rw[setRow_heap _ _ Z.toArray _ 3 (0,0) hrw,← hZ]
  simp[onesC]
 generalize (w.alloc (.cells Z.toArray 3)).setRow w.heap.size (Z.toArray.toList.take 0++[Value.int .i64 1]++Z.toArray.toList.drop (0+[Value.int .i64 1].length)).toArray=w1 at hcp hS
 have HS0:Hid (Rp w w1 c 1):=hS
 have hcp2:(Builtin.copy_ #[26,26] 3 #[.slice (some ⟨w.heap.size,0,none⟩) c c,.slice (some ⟨g,0,none⟩) 1 1]).run Tryz.prog (w.alloc (.cells Z.toArray 3)) = .ok (.int .i64 1) w1:=hcp
 clear hcp hS hrw hZ hZl
 have hm:=mul_any c (by omega) w
 have hw1:IntKind.u64.wrap (c:Int)=c:=by rcases hc with rfl|rfl|rfl|rfl<;>rfl
 have hw2:IntKind.i64.wrap (c:Int)=c:=wrapI (by omega) (by omega)
 have hc0:decide ((c:Int)<0)=false:=decide_eq_false (by omega)
 have hc1:decide ((9223372036854775807:Int)<(c:Int))=false:=decide_eq_false (by omega)
 go_enter Tryz.func35,Tryz.ntmps35
 go_wp2_with fail
 refine hm.mono ?_
 rintro e w2 ⟨rfl,rfl⟩
 go_wp2_with fail
 go_loopw [8] (fun i wr=>∃ k:Nat,1≤k∧k≤c∧i = .int .i64 k∧Rp w2 wr c k) (fun i _=>c-(intOf i).toNat)
 case atStart=>exact⟨1,by omega,by omega,rfl,HS0.out⟩
 case round=>
  obtain⟨k,hk1,hk,rfl,D⟩:=hrel
  by_cases hlt:k<c
  ·have hkI:(k:Int)<(c:Int):=by omega
   have hkI0:(0:Int)≤(k:Int):=by omega
   have hkI1:(k:Int)≤(c:Int):=by omega
   have hck:¬ c=k:=by omega
   have hkw:IntKind.i64.wrap ((k:Int)+((min k (c-k):Nat):Int))=(k:Int)+((min k (c-k):Nat):Int):=wrapI (by omega) (by omega)
   go_upto_region 9 with fail
   have RC:=Rp.copy (wr:=wr.drew) ⟨D.row,D.below.drew⟩ hk
   refine Gen.start (S:=fun _=>True) (by kernel_rfl) trivial (fun hHeld=>?_)
   refine Gen.tk 0 8 ?_ rfl rfl (Or.inl ⟨by rfl,?_⟩) hHeld ?_
   rotate_left
   ·intro w' hSw
    go_simp
    try with_reducible rfl
   go_frame
   refine Gen.tk 1 3 ?_ rfl rfl (Or.inl ⟨by rfl,?_⟩) hHeld ?_
   rotate_left
   ·intro w' hSw
    go_simp
    try with_reducible rfl
   go_frame
   refine Gen.tk 2 3 ?_ rfl rfl (Or.inl ⟨by rfl,?_⟩) hHeld ?_
   rotate_left
   ·intro w' hSw
    go_simp
    try with_reducible rfl
   go_frame
   refine Gen.tk 3 7 ?_ rfl rfl (Or.inl ⟨by rfl,?_⟩) hHeld ?_
   rotate_left
   ·intro w' hSw
    go_simp
    try with_reducible rfl
   go_frame
   refine Gen.tk 4 6 ?_ rfl rfl (Or.inl ⟨by rfl,?_⟩) hHeld ?_
   rotate_left
   ·intro w' hSw
    go_simp
    try with_reducible rfl
   go_frame
   refine Gen.tk 5 6 ?_ rfl rfl (Or.inl ⟨by rfl,?_⟩) hHeld ?_
   rotate_left
   ·intro w' hSw
    go_simp
    try with_reducible rfl
   go_frame
   refine Gen.tk 6 7 ?_ rfl rfl (Or.inl ⟨by rfl,?_⟩) hHeld ?_
   rotate_left
   ·intro w' hSw
    go_simp
    try with_reducible rfl
   go_frame
   refine Gen.one (i:=7) (by kernel_rfl) rfl rfl (fun K hK=>?_)
   go_simp
   refine hK.out _ _ trivial (fun hHeld=>?_)
   clear hK K
   try go_frame
   have HN:Hid (Rp w2 (wr.drew.setRow w2.heap.size (onesC c (k+min k (c-k))).toArray) c (k+min k (c-k))):=RC.2
   have hpos:0<min k (c-k):=by omega
   have hle:k+min k (c-k)≤c:=by omega
   clear RC
   generalize wr.drew.setRow w2.heap.size (onesC c (k+min k (c-k))).toArray=w5 at *
   generalize min k (c-k)=j at *
   refine Gen.tk 8 9 ?_ rfl rfl (Or.inl ⟨by rfl,?_⟩) hHeld ?_
   rotate_left
   ·intro w' hSw
    go_simp
    try with_reducible rfl
   go_frame
   refine Gen.last (i:=9) (by kernel_rfl) rfl rfl (by kernel_rfl) (by kernel_rfl) (fun K hK=>?_)
   go_simp
   refine hK.out _ _ ?_
   clear hK K hHeld D HS0 hcp2
   go_wp2_with fail
   go_roundw
   case rel=>exact⟨k+j,by omega,by omega,by go_num,HN.out⟩
   case measure=>simp[intOf];omega
  ·obtain rfl:k=c:=by omega
   have HD:Hid (HasI wr w2.heap.size (.slice (some ⟨w2.heap.size,0,none⟩) k k) (List.replicate k 1)∧Below w2.heap.size w2 wr):=by
    refine⟨?_,D.below⟩
    unfold Lease.HasI
    rw[List.length_replicate,List.map_replicate]
    exact⟨by simp,.inr ⟨w2.heap.size,k,(onesC k k).toArray,rfl,Nat.le_refl _,D.row,Nat.le_refl _,by unfold maxLen;omega,by simp[onesC],by simp[onesC]⟩⟩
   clear D HS0 hcp2
   go_wp2_with fail
   go_ret
   exact⟨_,rfl,HD.out⟩
end Wld
end
section
namespace Wld
open Go.RowKit Go.Maps
open Lease (HasI)
open Cache (tp)
structure Ca(w wr:World)(A:Wa)(s t:Wd)(B:Nat)(v:Value)(a:Ad):Prop where
 wd:WdIs wr { A with a:=a } t
 fz:Fz A s w { A with a:=a } t wr
 row:HasI wr B v (List.replicate (s.n+1) 1)
theorem Ca.next{w wr w':World}{A:Wa}{s t t':Wd}{B:Nat}{v:Value}{a a':Ad}(h:Ca w wr A s t B v a)(hw:WdIs w' { A with a:=a' } t')(hz:Fz { A with a:=a } t wr { A with a:=a' } t' w'):Ca w w' A s t' B v a':=
 ⟨hw,h.fz.trans hz,int_row h.wd h.row hz⟩
end Wld
end
end Go.Proofs.YtbebfliimjjohabGreatDoor
