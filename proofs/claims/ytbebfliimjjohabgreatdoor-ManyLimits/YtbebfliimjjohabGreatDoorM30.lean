/- Parts of the proof. -/
import Derived.Test.YtbebfliimjjohabGreatDoorM29
set_option maxRecDepth 100000
set_option maxHeartbeats 8000000
set_option linter.all false
open Go.Proofs.Tryz
namespace Go.Proofs.YtbebfliimjjohabGreatDoor
open Go.RowKit Go.Maps
open Lease (Ob gv gV cL ji fV fg dA kk mx)
open Cache (tp bp bD)
open Wal (R jf fo dE bW cY Oq)
open Num (M iC)
namespace Wld
variable{a:Ad}{ml:Bool}{md:Bh}{mk mc mn me ms mv now:Int}{o B:Nat}{w:A1}
structure Wr(w wr:World)(a:Ad)(s:Sv)(o:Nat)(l0:List M)(li:List Int)(C:Nat)(vi:Value)(m:M)(k:Nat)(v:Value):Prop where
 e:gI w wr a v s (l0++(li.take k).map λc=>s.af c o)
 i:MB wr w.heap.size m
 p:w.heap.size<wr.heap.size
 t:¬fy wr a w.heap.size
 j:dA wr C vi li
 h:∀g,v.ownBlock=some g->vi.ownBlock≠some g
 b:∀g,v.ownBlock=some g->g≠w.heap.size
def L8{s:Sv}(mk mc mn me ms mv:Int)(ml:Bool)(md:Bh)(now:Int)(h:cx w a s)(ho:o<8)(hB:mS s B)(eU:B<=100000000000000)(hm:Vg o ⟨mk,mc,mn,me,ms,o,mv,ml,md⟩):
  Calls prog 186 #[tp a.S,Wire.M.ab ⟨mk,mc,mn,me,ms,o,mv,ml,md⟩,iI now] w λe w'=>∃v,e=.returned v/\gI w w' a v (s.ah ⟨mk,mc,mn,me,ms,o,mv,ml,md⟩ o now).1 (s.ah ⟨mk,mc,mn,me,ms,o,mv,ml,md⟩ o now).2:=by
 have hc:0<=mc:=by have:=hm.2.1;simp[fo,Num.m6]at this;omega
 have da:MB (dW w mk mc mn me ms o mv ml md) w.heap.size ⟨mk,mc,mn,me,ms,o,mv,ml,md⟩:=ie w;have F:cx (dW w mk mc mn me ms o mv ml md) a s:=h.j _;have hF:Fs a w (dW w mk mc mn me ms o mv ml md):=(Fs.j).O h _;have dt:¬fy (dW w mk mc mn me ms o mv ml md) a w.heap.size:=h.O ((au _ _).alloc (aa _) _) (aa _);have ef:(dW w mk mc mn me ms o mv ml md).heap.size=w.heap.size+1:=by simp
 have eW:(0:Int)<=(o:Int):=by omega
 have e0:(o:Int)<8:=by omega
 have eG:=h.e;have eg:=mJ mc;have eN:(0:Int)<=((bx mc:Nat):Int):=by omega
 have eQ:((bx mc:Nat):Int)<4:=by omega
 have dd:=λw=>oz (id:=mc) w hc;unfold dW at *;unfold Wire.M.ab;dsimp only;clear h;go_enter func186,ntmps186;go_upto_region 1 with fail
 generalize w.alloc (.cells #[.int .i64 mk,.int .i64 mc,.int .i64 mn,.int .i64 me,.int .i64 ms,.int .i64 o,.int .i64 mv,.bool ml,.string md] 129)=w1 at *;have b1:=da.i;dsimp only at b1;obtain⟨Y,l1,l2,l3,l4,l5⟩:=F.ai eg;have D:=F.lt;have p0:=λob=>(aH w1 ob ⟨a.S,23+bx mc*6,none⟩ D).trans Y;have p1:=λob=>(aH w1 ob ⟨a.S,23+bx mc*6+1,none⟩ D).trans l1;have p2:=λob=>(aH w1 ob ⟨a.S,23+bx mc*6+2,none⟩ D).trans l2;have p3:=λob=>(aH w1 ob ⟨a.S,23+bx mc*6+3,none⟩ D).trans l3;have p4:=λob=>(aH w1 ob ⟨a.S,23+bx mc*6+4,none⟩ D).trans l4;have p5:=λob=>(aH w1 ob ⟨a.S,23+bx mc*6+5,none⟩ D).trans l5;have pb:=λob=>(aH w1 ob ⟨w.heap.size,1,none⟩ (by dsimp only;omega)).trans b1;have eh:a.S≠w1.heap.size:=by omega
 have dv:w.heap.size≠w1.heap.size:=by omega
 obtain⟨L,hL⟩:∃L,s.last (bx mc)=L:=⟨_,rfl⟩;rw[hL]at Y l1 l2 l3 l4 l5 p0 p1 p2 p3 p4 p5;go_cut[7] from 11 to 18 (λx wx=>x=.pointer (some ⟨w.heap.size+1,0,none⟩)/\wx=(w1.alloc (.cells #[.int .i64 L.c,.int .i64 L.n,.int .i64 L.o,.int .i64 L.v,.string L.d,.int .i64 L.e] 138)).drew)
 case first=>
  go_region_with (first|(go_at_call 137;refine(dd _).mono ?_;rintro e w'⟨rfl,rfl⟩))
  all_goals go_wp2_with fail
  all_goals go_meet
  all_goals exact⟨rfl,rfl⟩
 case rest=>
  obtain⟨rfl,hW⟩:=hcut;have Z:Below w1.heap.size w1 wc:=by rw[hW];exact((au _ _).alloc (aa _) _).drew
  have e1:wc.heap.size=w.heap.size+2:=by rw[hW];show (w1.alloc _).heap.size=_;simp;omega
  have cd:Wal.Bx wc (w.heap.size+1) L:=by
   rw[hW,<-ef];exact Wal.Bx.h w1 L _
  have F2:=F.h Z;have a0:=hF.I F Z;have E:=da.e Z (by omega);have cA:¬fy wc a w.heap.size:=λf=>dt ((fI (aj (Z.block a.U F.e.2.1)) (λi _=>aj (Z.block a.S F.e.2.2.2.2.1))) f);have dy:¬fy wc a (w.heap.size+1):=F.O Z (by omega);clear hW F hF da dt p0 p1 p2 p3 p4 p5 pb Y l1 l2 l3 l4 l5 b1 Z eh dv D;obtain⟨x0,x1,x2,x3,x4,x5⟩:=id cd;have b0:=E.y;have b1:=E.i;have b2:=E.u;have b3:=E.j;have b4:=E.p;have b5:=E.h;have b6:=E.t;have b7:=E.x;have b8:=E.A;dsimp only at b0 b1 b2 b3 b4 b5 b6 b7 b8;by_cases m:mc=L.c/\mn=L.n
  .have HE:Hid (s.ah ⟨mk,mc,mn,me,ms,o,mv,ml,md⟩ o now=(s,[s.aU ⟨mk,mc,mn,me,ms,o,mv,ml,md⟩ L.v])):=by
    unfold Hid Sv.ah;dsimp only;rw[hL,az m]
   have a1:=Iw (a:=a) (s:=s) ⟨mk,mc,mn,me,ms,o,mv,ml,md⟩ L.v (w:=wc) F2 hc;obtain⟨K,ad⟩:∃K,s.aU ⟨mk,mc,mn,me,ms,o,mv,ml,md⟩ L.v=K:=⟨_,rfl⟩;have HM:Hid (s.aU ⟨mk,mc,mn,me,ms,o,mv,ml,md⟩ L.v=K):=ad;rw[ad]at a1;unfold Wire.M.ab at a1;dsimp only at a1;rw[show (.agg #[.int .i64 K.k,.int .i64 K.c,.int .i64 K.n,.int .i64 K.e,.int .i64 K.s,.int .i64 K.o,.int .i64 K.v,.bool K.l,.string K.d]:Bg)=Wire.M.ab K from rfl]at a1;have g1:(mc==L.c)=true:=by simpa using m.1
   have g2:(mn==L.n)=true:=by simpa using m.2
   clear m ad hL;go_wp2_with fail
   refine a1.mono ?_;rintro e w3⟨rfl,G⟩;have F3:=F2.h G;have ba:=a0.I F2 G;clear a1 F2 a0 E cd;go_wp2_with (refine ej rfl 35 rfl K rfl ?_)
   go_ret;rw[HE.out,HM.out];exact⟨_,rfl,gI.one K F3 ba⟩
  .have HE:Hid (s.ah ⟨mk,mc,mn,me,ms,o,mv,ml,md⟩ o now=if j0 mc mn L=false then (s,[]) else if (s.aw ⟨mk,mc,mn,me,ms,o,mv,ml,md⟩ o).2=false then ((s.aw ⟨mk,mc,mn,me,ms,o,mv,ml,md⟩ o).1,[]) else (s.aw ⟨mk,mc,mn,me,ms,o,mv,ml,md⟩ o).1.a5 o now):=by
    unfold Hid Sv.ah;dsimp only;rw[hL,ax m]
   have bc:=DQ mc mn L wc;have N:=hB.ac hm;obtain⟨x,hx⟩:∃x,s.aw ⟨mk,mc,mn,me,ms,o,mv,ml,md⟩ o=x:=⟨_,rfl⟩;have ce:=λw h=>IE (a:=a) (s:=s) (mk:=mk) (mc:=mc) (mn:=mn) (me:=me) (ms:=ms) (mv:=mv) (o:=o) (ml:=ml) (md:=md) (w:=w) h ho (x:=x) hx;rw[hx]at HE N;obtain⟨se,be⟩:=x;dsimp only at HE N ce;unfold Wire.M.ab Wal.R.H at *;dsimp only at ce;go_upto_region 2 with fail
   go_cut[30] from 19 to 29 (λx wx=>x=.bool false/\wx=wc)
   case first=>
    by_cases h1:mc=L.c
    .have g1:(mc==L.c)=true:=by simpa using h1
     have g2:(mn==L.n)=false:=by simpa using λq=>m ⟨h1,q⟩
     clear m h1;go_wp2_with fail
     go_meet
     case rel=>exact⟨rfl,rfl⟩
    .have g1:(mc==L.c)=false:=by simpa using h1
     clear m h1;go_wp2_with fail
     go_meet
     case rel=>exact⟨rfl,rfl⟩
   case rest=>
    obtain⟨rfl,em⟩:=hcut;rename_i wd;subst em;clear m hL hx;cases D:j0 mc mn L with
    |false=>
     rw[D]at bc;have bg:Hid (s.ah ⟨mk,mc,mn,me,ms,o,mv,ml,md⟩ o now=(s,[])):=HE.out.trans (az D);go_wp2_with fail
     refine bc.mono ?_;rintro e w3⟨rfl,G⟩;have F3:=F2.h G;have ba:=a0.I F2 G;clear bc F2 a0 E cd;go_wp2_with fail
     go_ret;rw[bg.out];exact⟨_,rfl,VQ.h,F3,ba⟩
    |true=>
     rw[D]at bc;have bg:Hid (s.ah ⟨mk,mc,mn,me,ms,o,mv,ml,md⟩ o now=if be=false then (se,[]) else se.a5 o now):=HE.out.trans (ax (by rw[D];decide));go_wp2_with fail
     refine bc.mono ?_;rintro e w3⟨rfl,G⟩;have e2:=G.size;have F3:=F2.h G;have ba:=a0.I F2 G;have J:=E.e G (by omega);have bK:¬fy w3 a w.heap.size:=λf=>cA ((fI (aj (G.block a.U F2.e.2.1)) (λi _=>aj (G.block a.S F2.e.2.2.2.2.1))) f);clear bc F2 a0 E cd x0 x1 x2 x3 x4 x5 b0 b1 b2 b3 b4 b5 b6 b7 b8 cA dy G HE D;have b0:=J.y;have b1:=J.i;have b2:=J.u;have b3:=J.j;have b4:=J.p;have b5:=J.h;have b6:=J.t;have b7:=J.x;have b8:=J.A;dsimp only at b0 b1 b2 b3 b4 b5 b6 b7 b8;go_wp2_with fail
     refine(ce w3 F3).mono ?_;rintro e w4⟨rfl,F4,W⟩;have df:=ba.e W;have dk:=J.H W (by omega) bK;have bO:¬fy w4 a w.heap.size:=λf=>bK (W.h _ (by omega) f);have e3:=W.b;clear ce F3 ba J bK W b0 b1 b2 b3 b4 b5 b6 b7 b8;have b5:=dk.h;dsimp only at b5;cases be with
     |false=>
      have cg:Hid (s.ah ⟨mk,mc,mn,me,ms,o,mv,ml,md⟩ o now=(se,[])):=bg.out.trans (az rfl);go_wp2_with fail
      go_ret;rw[cg.out];exact⟨_,rfl,VQ.h,F4,df⟩
     |true=>
      have cg:Hid (s.ah ⟨mk,mc,mn,me,ms,o,mv,ml,md⟩ o now=se.a5 o now):=bg.out.trans (ax (by decide));clear bg;have dz:=sM (a:=a) (s:=se) (o:=o) now (w:=w4) F4 ho (N.w o) (λc=>by have:=N.x c;omega) N.i (λx=>by have:=N.j x;have:=N.u;omega) N.b N.h;obtain⟨dl,en⟩:=N.H o now;obtain⟨ck,eo⟩:=dl.I o now;go_wp2_with fail
      refine dz.mono ?_;rintro e w5⟨v5,rfl,T5⟩;have F5:=T5.h;have dM:=df.e T5.e;have dm:=dk.H T5.e (by omega) bO;have bR:¬fy w5 a w.heap.size:=λf=>bO (T5.e.h _ (by omega) f);have e4:=T5.e.b;have O5:VQ w w5 a v5 (se.I o now).2:=⟨T5.b.b.H (by omega),T5.b.e⟩;have cl:∀g,v5.ownBlock=some g->g≠w.heap.size/\g<w5.heap.size:=λg hg=>⟨by have:=(bv T5.b.b g hg).1;omega,(bv T5.b.b g hg).2⟩;obtain⟨av,cv,ep,eq,_⟩:=Net.cZ T5.b.b;subst ep;have dN:=sO (a:=a) (s:=(se.I o now).1) (o:=o) now (w:=w5) F5 ho (λc=>by have:=dl.x c;omega);clear dz F4 df dk bO T5 b5 eq;have b5:=dm.h;dsimp only at b5;go_wp2_with fail
      refine dN.mono ?_;rintro e w6⟨vi,rfl,hI,F6,P⟩;have dS:=dM.e P;have dV:=dm.H P (by omega) bR;have cG:¬fy w6 a w.heap.size:=λf=>bR (P.h _ (by omega) f);have O6:=O5.j P;have e5:=P.b;clear dN F5 dM dm bR b5 O5;have dX:Hid (s.ah ⟨mk,mc,mn,me,ms,o,mv,ml,md⟩ o now=(((se.I o now).1.e o now).1,(se.I o now).2++((se.I o now).1.e o now).2.map λc=>((se.I o now).1.e o now).1.af c o)):=cg.out;clear cg;obtain⟨Q,dn⟩:∃Q,((se.I o now).1.e o now).1=Q:=⟨_,rfl⟩;obtain⟨C,dr⟩:∃C,((se.I o now).1.e o now).2=C:=⟨_,rfl⟩;obtain⟨Y,co⟩:∃Y,(se.I o now).2=Y:=⟨_,rfl⟩;rw[dn]at ck F6;rw[dr]at eo hI;rw[co]at en O6 cl;rw[dn,dr,co]at dX;rw[co];clear dn dr co dl;obtain⟨ai,ci,rfl,cp⟩:=hI.e;have cM:∀g,(Value.slice av Y.length cv).ownBlock=some g->(Value.slice ai C.length ci).ownBlock≠some g:=λg hg e=>by
       have q1:=(cl g hg).2;have q2:=(bv hI g e).1;omega
      have er:Hid (Wr w w6 a Q o Y C w5.heap.size (.slice ai C.length ci) ⟨mk,mc,mn,me,ms,o,mv,ml,md⟩ 0 (.slice av Y.length cv)):=⟨⟨by simpa using O6,F6,dS⟩,dV,by omega,cG,hI,cM,λg hg=>(cl g hg).1⟩;obtain⟨i0,hi,es,eu,ev⟩:=dw kw;have ex:=ck.i o;have ey:Q.vv o<=4611686018427387904:=by have:=ck.j o;have:=ck.u;omega
      clear O6 F6 dS dV cG hI cl cM P;go_wp2_with fail
      go_loopw [8,61] (λv i wr=>∃k:Nat,k<=C.length/\i=.int .i64 k/\Wr w wr a Q o Y C w5.heap.size (.slice ai C.length ci) ⟨mk,mc,mn,me,ms,o,mv,ml,md⟩ k v) (λ_ i _=>C.length-(intOf i).toNat)
      case atStart=>exact⟨0,by omega,rfl,er.out⟩
      case round=>
       obtain⟨k,hk,rfl,A⟩:=hrel;by_cases cT:k<C.length
       .obtain⟨g,rfl,_⟩:=cp (by omega);have cb:wr.cell? ⟨g,k,none⟩=some (.int .i64 C[k]):=by
         have:=bJ A.j k (by omega);rw[this,di,aB cT];rfl
        have b5:=A.i.h;dsimp only at b5;have aI:=DO a (s:=Q) C[k] o wr A.e.h ho ex ey;have d0:(C.take (k+1)).map (λc=>Q.af c o)=(C.take k).map (λc=>Q.af c o)++[Q.af C[k] o]:=by
         rw[bF cT,dQ];rfl
        have HT:Hid ((C.take (k+1)).map (λc=>Q.af c o)=(C.take k).map (λc=>Q.af c o)++[Q.af C[k] o]):=d0;obtain⟨lk,d6⟩:∃lk,C[k]=lk:=⟨_,rfl⟩;rw[d6]at cb aI HT;obtain⟨K,ad⟩:∃K,Q.af lk o=K:=⟨_,rfl⟩;rw[ad]at aI HT;have e6:Hid (Q.af lk o=K):=ad;have e7:(k:Int)<(C.length:Int):=by omega
        have HA:Hid (Wr w wr a Q o Y C w5.heap.size (.slice (some ⟨g,0,none⟩) C.length ci) ⟨mk,mc,mn,me,ms,o,mv,ml,md⟩ k u8):=A;obtain⟨lo,cs⟩:∃lo,Y++(C.take k).map (λc=>Q.af c o)=lo:=⟨_,rfl⟩;have eS:lo.length<=14:=by rw[<-cs];simp;omega
        have ez:Hid (Y++(C.take k).map (λc=>Q.af c o)=lo):=cs;have O1:=A.e.b;have F1:=A.e.h;have d7:=A.e.e;rw[cs]at O1;clear A d0 ad d6 cs;go_wp2_with fail
        refine aI.mono ?_;rintro e w7⟨rfl,V⟩;have F7:=F1.h V;have ds:=d7.I F1 V;have O7:=O1.j (Fs.H F1 V);have e8:=ds.b;have eT:=V.size;have r:=HA.out.i.e V HA.out.p;have ct:=HA.out.j.H V;obtain⟨eA,eB,d8,d9,_⟩:=Net.cZ O7.b;subst d8;have cW:Hid (∀f,fy w7 a f->fy wr a f):=λf hf=>fI (aj (V.block a.U F1.e.2.1)) (λi _=>aj (V.block a.S F1.e.2.2.2.2.1)) hf;clear aI F1 d7 O1 d9 b5 cb V;go_wp2_with (first|refine ej rfl 70 rfl K rfl ?_|(at_builtin;refine App.je rfl (t:=141) rfl (base:=w.heap.size) (e:=129) (i:=i0) (z:=.agg #[.int .i64 0,.int .i64 0,.int .i64 0,.int .i64 0,.int .i64 0,.int .i64 0,.int .i64 0,.bool false,.string ⟨#[]⟩]) (size:=9) (bytes:=80) underlying141 hi es eu ev rfl (by decide) rfl (O7.b.alloc _) ⟨w7.heap.size,0,none⟩ 1 1 (f8 K) rfl rfl (ox w7 K) (jZ) ?r3 ?r4 ?r5 ?_))
        case r3=>unfold maxLen;omega
        case r4=>omega
        case r5=>simp;omega
        intro v9 w9 cc cw aS;obtain⟨O9,F9,ea⟩:=O7.H F7 ds cc cw aS;have X:∀q,q<w7.heap.size->(Value.slice eA lo.length eB).ownBlock≠some q->w9.heap[q]?=w7.heap[q]?:=λq hq hn=>(cw.block q (by simp;omega) (λe=>hn e.symm)).trans (fJ w7 _ q hq);have eC:Hid (Wr w w9 a Q o Y C w5.heap.size (.slice (some ⟨g,0,none⟩) C.length ci) ⟨mk,mc,mn,me,ms,o,mv,ml,md⟩ (k+1) v9):=by
         have e9:=HA.out.p;have eb:=X w.heap.size (by omega) (λe=>HA.out.b _ e rfl);have e:∀j,w9.cell? ⟨w.heap.size,j,none⟩=w7.cell? ⟨w.heap.size,j,none⟩:=λj=>aj eb;have eF:=cw.size;simp at eF;refine⟨⟨?_,F9,ea⟩,⟨(e _).trans r.y,(e _).trans r.i,(e _).trans r.u,(e _).trans r.j,(e _).trans r.p,(e _).trans r.h,(e _).trans r.t,(e _).trans r.x,(e _).trans r.A⟩,by omega,λf=>?_,bp ct λq hq=>X q (bv ct q hq).2 (λe=>HA.out.h q e hq),λq hq e=>?_,λq hq=>?_⟩;rw[HT.out,<-bQ,ez.out];exact O9;have f7:fy w7 a w.heap.size:=by
          have ec:=F7.e;refine fI (aj (X a.U ec.2.1 (λe=>O7.e _ e (.inr (.inr (.inr (.inl rfl))))))) (λi _=>aj (X a.S ec.2.2.2.2.1 (λe=>O7.e _ e (.inr (.inr (.inl rfl)))))) f
         exact HA.out.t (cW.out _ f7);rcases aS q hq with h9|h9
         exact HA.out.h q h9 e;have:=(bv ct q e).2;omega;rcases aS q hq with h9|h9
         exact HA.out.b q h9;omega
        clear O7 O9 F7 F9 ds ea cc cw aS r ct X HA HT cW;go_wp2_with fail
        go_roundw
        case rel=>exact⟨k+1,by omega,by go_num,eC.out⟩
        case measure=>simp[intOf];omega
       .obtain rfl:k=C.length:=by omega
        have HA:Hid (Wr w wr a Q o Y C w5.heap.size (.slice ai C.length ci) ⟨mk,mc,mn,me,ms,o,mv,ml,md⟩ C.length u8):=A;clear A;go_wp2_with fail
        go_ret;have T:=HA.out.e;rw[gz]at T;rw[dX.out];exact⟨_,rfl,T⟩
structure KP(s:Sv)(now:Int)(B:Nat):Prop where
 e:mS s B
 b:B<=100000000000000
 h:0<=now
 i:now<=549755813888
 j:0<=s.i
 o:s.i<=274877906944
 p:0<=s.b
 t:s.b<=274877906944
def U1{s:Sv}{mo:Int}(h:cx w a s)(hd:s.dS=true\/mc<0\/mo<0\/8<=mo):
  Calls prog 131 #[tp a.S,Wire.M.ab ⟨mk,mc,mn,me,ms,mo,mv,ml,md⟩,iI now] w λe k=>∃v,e=.returned v/\gI w k a v s []:=by
 have c:MB (dW w mk mc mn me ms mo mv ml md) w.heap.size ⟨mk,mc,mn,me,ms,mo,mv,ml,md⟩:=ie w;have F:cx (dW w mk mc mn me ms mo mv ml md) a s:=h.j _;have l:Fs a w (dW w mk mc mn me ms mo mv ml md):=(Fs.j).O h _;unfold dW at *;unfold Wire.M.ab


 go_enter func131,ntmps131;go_upto_region 1 with fail
 generalize w.alloc (.cells #[iI mk,iI mc,iI mn,iI me,iI ms,iI mo,iI mv,.bool ml,.string md] 129)=w1 at *;have m:=c.i;have b5:=c.h;dsimp only at m b5;have b:=pZ F;have d:Hid (gI w w1 a (.slice none 0 0) s []):=⟨VQ.h,F,l⟩;have n :Hid _:= hd;cases hd1:s.dS with
 |true=>
  rw[hd1]at b;go_wp2_with fail
  apply b.mono;rintro e w2⟨rfl,rfl⟩;go_wp2_with fail
  go_ret;exact⟨_,rfl,d.out⟩
 |false=>
  rw[hd1]at b;by_cases f:mc<0
  .have o:= aR f;go_wp2_with fail
   apply b.mono;rintro e w2⟨rfl,rfl⟩;go_wp2_with fail
   go_ret;exact⟨_,rfl,d.out⟩
  .have o:= aK f;have g:fg mo=false:=by
    rcases n.out with q|q|q|q
    rw[hd1]at q;cases q;exact(f q).elim;exact Num.kN q;exact Num.kM (by omega)
   have p :Hid _:= g;go_wp2_with fail
   apply b.mono;rintro e w2⟨rfl,rfl⟩;go_wp2_with (go_at_call 184;refine(kS).mono ?_;rintro e k⟨rfl,rfl⟩;rw[p.out])
   go_ret;exact⟨_,rfl,d.out⟩
def U0{s:Sv}(h:cx w a s)(d:KP s now B)(E:o<8)(U:okM ⟨mk,mc,mn,me,ms,o,mv,ml,md⟩)(y:s.dS=false):
  Calls prog 131 #[tp a.S,Wire.M.ab ⟨mk,mc,mn,me,ms,o,mv,ml,md⟩,iI now] w λe r=>∃v,e=.returned v/\gI w r a v (s.ai ⟨mk,mc,mn,me,ms,o,mv,ml,md⟩ now).1 (s.ai ⟨mk,mc,mn,me,ms,o,mv,ml,md⟩ now).2:=by
 have hc:0<=mc:=by have:=U.1;simp[fo,Num.m6]at this;omega
 have G:MB (dW w mk mc mn me ms o mv ml md) w.heap.size ⟨mk,mc,mn,me,ms,o,mv,ml,md⟩:=ie w;have F:cx (dW w mk mc mn me ms o mv ml md) a s:=h.j _;have X:Fs a w (dW w mk mc mn me ms o mv ml md):=(Fs.j).O h _;have I:fg o=true:=Num.fX (by omega) (by omega);have z:Hid (fg o=true):=I;have A:Hid (s.ai ⟨mk,mc,mn,me,ms,o,mv,ml,md⟩ now=if mk=1 then s.a3 ⟨mk,mc,mn,me,ms,o,mv,ml,md⟩ o now else if mk=2 then s.ah ⟨mk,mc,mn,me,ms,o,mv,ml,md⟩ o now else if mk=3 then s.an ⟨mk,mc,mn,me,ms,o,mv,ml,md⟩ now else if mk=4 then s.av ⟨mk,mc,mn,me,ms,o,mv,ml,md⟩ o now else (s,[])):=by
  unfold Hid Sv.ai;have Y:¬(s.dS=true\/mc<0\/(o:Int)<0\/8<=(o:Int)):=by
   rintro(q|q|q|q);rw[y]at q;cases q;omega;omega;omega
  exact ax Y
 have J:w.heap.size<=(dW w mk mc mn me ms o mv ml md).heap.size:=by simp

 unfold dW at *;unfold Wire.M.ab


 go_enter func131,ntmps131;go_upto_region 1 with fail
 generalize w.alloc (.cells #[iI mk,iI mc,iI mn,iI me,iI ms,iI o,iI mv,.bool ml,.string md] 129)=w1 at *;have ⟨b0,Z,b2,b3,b4,b5,b6,b7,b8⟩:=G








 dsimp only at b0 Z b2 b3 b4 b5 b6 b7 b8;have g:=pZ F;rw[y]at g;have g1:decide (mc<0)=false:=aK (by omega);have K:=QT mk mc mn me ms mv ml md F E hc d.h d.i d.j d.o (by have:=d.e.n;have:=d.b;omega);have L:=L8 mk mc mn me ms mv ml md now F E d.e d.b ⟨rfl,U⟩;have N:=LM mk mc mn me ms o mv ml md F hc (d.e.ok (by have:=d.b;omega)) d.h d.i d.p d.t;have P:=I3 mk mc mn me ms mv ml md now F E hc (d.e.w o) (λc=>by have:=d.e.x c;have:=d.b;omega) d.e.i (λx=>by have:=d.e.j x;have:=d.e.u;omega) d.e.b d.e.h;unfold Wire.M.ab at K L N P;dsimp only at K L N P;have V:Hid (Fs a w w1):=X;have HS:Hid (cx w1 a s):=F;have HZ:Hid (w.heap.size<=w1.heap.size):=J;have fin:∀{w2:A1} {v:Bg} {W:Sv} {l:List M},gI w1 w2 a v W l->gI w w2 a v W l:=λT=>⟨⟨T.b.b.H HZ.out,T.b.e⟩,T.h,V.out.e T.e⟩

 by_cases k1:mk=1
 .subst k1;have f:=A.out.trans (az rfl);go_wp2_with fail
  apply g.mono;rintro e w2⟨rfl,rfl⟩

  go_wp2_with (go_at_call 184;refine(kS).mono ?_;rintro e r⟨rfl,rfl⟩;rw[z.out])
  apply K.mono;rintro e w3⟨Q,rfl,m⟩;have k:=fin m

  go_wp2_with fail
  go_ret;rw[f];exact⟨_,rfl,k⟩
 .by_cases C:mk=2
  .subst C;have f:=(A.out.trans (ax k1)).trans (az rfl);go_wp2_with fail
   apply g.mono;rintro e w2⟨rfl,rfl⟩

   go_wp2_with (go_at_call 184;refine(kS).mono ?_;rintro e r⟨rfl,rfl⟩;rw[z.out])
   apply L.mono;rintro e w3⟨Q,rfl,m⟩;have k:=fin m

   go_wp2_with fail
   go_ret;rw[f];exact⟨_,rfl,k⟩
  .by_cases D:mk=3
   .subst D;have f:=((A.out.trans (ax k1)).trans (ax C)).trans (az rfl);go_wp2_with fail
    apply g.mono;rintro e w2⟨rfl,rfl⟩

    go_wp2_with (go_at_call 184;refine(kS).mono ?_;rintro e r⟨rfl,rfl⟩;rw[z.out])
    apply N.mono;rintro e w3⟨Q,rfl,m⟩;have k:=fin m

    go_wp2_with fail
    go_ret;rw[f];exact⟨_,rfl,k⟩
   .by_cases R:mk=4
    .subst R;have f:=(((A.out.trans (ax k1)).trans (ax C)).trans (ax D)).trans (az rfl);go_wp2_with fail
     apply g.mono;rintro e w2⟨rfl,rfl⟩

     go_wp2_with (go_at_call 184;refine(kS).mono ?_;rintro e r⟨rfl,rfl⟩;rw[z.out])
     apply P.mono;rintro e w3⟨Q,rfl,m⟩;have k:=fin m

     go_wp2_with fail
     go_ret;rw[f];exact⟨_,rfl,k⟩
    .have f:=(((A.out.trans (ax k1)).trans (ax C)).trans (ax D)).trans (ax R);have q1:(mk==1)=false:=by simpa using k1
     have q2:(mk==2)=false:=by simpa using C
     have q3:(mk==3)=false:=by simpa using D
     have q4:(mk==4)=false:=by simpa using R
     have k:Hid (gI w w1 a (.slice none 0 0) s []):=⟨VQ.h,HS.out,V.out⟩;go_wp2_with fail
     apply g.mono;rintro e w2⟨rfl,rfl⟩;go_wp2_with (go_at_call 184;refine(kS).mono ?_;rintro e r⟨rfl,rfl⟩;rw[z.out])
     go_ret;rw[f];exact⟨_,rfl,k.out⟩
def Qw{s:Sv}{m:M}(h:cx w a s)(c:KP s now B)(d:okM m):
  Calls prog 131 #[tp a.S,Wire.M.ab m,iI now] w λe f=>∃v,e=.returned v/\gI w f a v (s.ai m now).1 (s.ai m now).2:=by
 obtain⟨mk,mc,mn,me,ms,b,mv,ml,md⟩:=m;by_cases hd:s.dS=true\/mc<0\/b<0\/8<=b;have e:s.ai ⟨mk,mc,mn,me,ms,b,mv,ml,md⟩ now=(s,[]):=az hd;rw[e];exact U1 h hd;have g:s.dS=false:=by cases q:s.dS with
  |false=>rfl
  |true=>exact(hd (.inl q)).elim
 obtain⟨o,rfl⟩:∃o:Nat,b=o:=⟨b.toNat,by omega⟩;exact U0 h c (by omega) d g
structure Ev where
 b:Int
 m9:Int
 rG:Int
 d:ByteArray
 yO:Int
 Hy:Bool
 Zk:Bool
 h:Int
 iA:Int
 i:Int
structure St where
 k:K
 cM:Int
 fN:Int
 fu:Int
structure Wd where
 b:Int
 i:Int
 o:Int
 rs:List R
 oP:Bool
 tR:Int
 dM:List (Int×M)
 sv:Option Sv
 cT:Int
 n:Nat
 aI:Nat->St
 ba:List Ev
 bK:Int
def Wd.ac(w:Wd)(tz:Int)(m:M):Wd:=if iC m=true/\w.dM.length<200 then {w with dM:=w.dM++[(tz,m)]} else w
def Wd.V(w:Wd)(tz:Int)(l:List M):Wd:=l.foldl (λw m=>w.ac tz m) w
def Wd.O(w:Wd)(l:List M):Wd:=l.foldl (λw m=>w.ac (bx m.c:Nat) m) w
def Wd.Z(w:Wd)(s:Sv):Wd:={w with rs:=s.rs,oP:=s.dX,tR:=s.da,sv:=some s}
def Wd.af(w:Wd):Wd:=match w.sv with
 |none=>w
 |some s=>if s.dS=true then {w with sv:=none} else w
def Wd.al(w:Wd)(r:Sv×List M):Wd:=((w.Z r.1).O r.2).af
def Wd.H(w:Wd)(m:M):Wd:=match w.sv with
 |none=>w
 |some s=>w.al (s.ai m w.cT)
def Wd.ab(w:Wd)(k:Nat)(c:K):Wd:={w with aI:=bB w.aI k {w.aI k with k:=c} }
def Ev.e(e:Ev)(c:K)(step:Int):Ev:={e with m9:=c.gY,rG:=c.io,d:=c.d,yO:=c.zk,Hy:=c.gW,Zk:=c.H0,iA:=if c.gW=true then step else e.iA}
def Wd.j(w:Wd)(k:Nat):Wd:=
 if (w.aI k).fu<0 then w
 else {w with ba:=w.ba.modify (w.aI k).fu.toNat λe=>e.e (w.aI k).k w.bK,aI:=bB w.aI k {w.aI k with fu:=if (w.aI k).k.gW=true then -1 else (w.aI k).fu} }
def Wd.aq(w:Wd)(k:Int):Bool:=decide (0<=k/\k<(w.n:Int))
def Wd.ap(w:Wd)(k:Nat)(m:M):Wd:=((w.ab k ((w.aI k).k.V m).1).V (-1) ((w.aI k).k.V m).2).j k
def Wd.bs(w:Wd)(tz:Int)(m:M):Wd:=if tz = -1 then w.H m else if w.aq tz=true then w.ap tz.toNat m else w
def Wd.I(w:Wd)(k:Nat):Wd:=match w.dM[k]? with
 |none=>w
 |some p=>({w with dM:=w.dM.eraseIdx k,bK:=w.bK+1}).bs p.1 p.2
def Wd.b8(w:Wd)(k:Nat):Wd:={w with dM:=w.dM.eraseIdx k}
def Wd.b7(w:Wd)(k:Nat):Wd:=(w.ab k ((w.aI k).k.ag (w.aI k).cM)).V (-1) ((w.aI k).k.ae (w.aI k).cM)
def Wd.aU(w:Wd)(k:Nat):Wd:=({w with bK:=w.bK+1}).b7 k
def Wd.b0(w:Wd)(k:Nat):Wd:=if (w.aI k).fu<0 then w else w.b7 k
def Wd.ag(w:Wd)(k:Nat)(c:K):Wd:={w with bK:=w.bK+1,ba:=w.ba++[⟨k,0,0,⟨#[]⟩,0,false,false,w.bK+1,0,(w.aI k).fN⟩],aI:=bB w.aI k {w.aI k with k:=c,fu:=w.ba.length} }
def Wd.ao(w:Wd)(k:Nat)(c:K):Wd:=((w.ag k c).j k).b0 k
def Wd.cf(w:Wd)(k:Nat)(o:Int):Wd:=w.ao k ((w.aI k).k.al o (w.aI k).cM)
def Wd.ca(w:Wd)(k:Nat)(o:Int)(d:ByteArray):Wd:=w.ao k ((w.aI k).k.O 2 o d 0 false false (w.aI k).cM)
def ra(x:Int):Int:=if x<549755813888 then x else 549755813888
def Wd.b6(w:Wd)(b:Int)(a:Nat->Int):Wd:={w with bK:=w.bK+1,cT:=ra (w.cT+b),aI:=λk=>{w.aI k with cM:=ra ((w.aI k).cM+a k)} }
def Wd.a2(w:Wd):Wd:=match w.sv with
 |none=>w
 |some s=>w.al (s.ae w.cT 8)
def Wd.aw(w:Wd)(b:Int)(a:Nat->Int):Wd:=(w.b6 b a).a2
def Sv.ab(tz tv td:Int)(b:List R)(a:Bool)(left:Int):Sv:=⟨tz,tv,td,0,0,0,λ_=>⟨#[]⟩,λ_=>0,λ_=>⟨0,0,0,0,⟨#[]⟩,0⟩,.map [],λ_=>0,λ_=>0,0,λ_=>[],b,false,a,left⟩
def Sv.al(tz tv td:Int)(b:List R)(a:Bool)(left:Int):Sv:=b.foldl Sv.h (Sv.ab tz tv td b a left)
def Sv.O(s:Sv)(now:Int):Sv:={s with gq:=if 0<s.bO then now+s.b else s.gq,bO:=s.bO+1}
def kc(e:Int):R:=⟨0,0,-1,0,⟨#[]⟩,e⟩
def Sv.aq(tz tv td:Int)(b:List R)(a:Bool)(left:Int)(now:Int):Sv:=(((Sv.al tz tv td b a left).O now).ac (kc ((Sv.al tz tv td b a left).O now).bO)).1
variable{s:Sv}
def Wd.start(w:Wd):Wd:=w.Z (Sv.aq w.b w.i w.o w.rs false 0 w.cT)
def Wd.e(w:Wd):Wd:=match w.sv with
 |some _=>w
 |none=>({w with bK:=w.bK+1}).start
def ia(td t:Int):Int:=t*(1000-td)/(1000+td)
def Wd.a4(w:Wd):Nat->Wd
 |0=>w
 |f+1=>if w.dM.length=0 then w else (w.I 0).a4 f
abbrev YI (tob tv td:Int) (U T:Nat):Array Value:=#[.int .i64 tob,.int .i64 tv,.int .i64 td,tp U,.int .i64 0,.int .i64 0,.int .i64 0,.string ⟨#[]⟩,.int .i64 0,.string ⟨#[]⟩,.int .i64 0,.string ⟨#[]⟩,.int .i64 0,.string ⟨#[]⟩,.int .i64 0,.string ⟨#[]⟩,.int .i64 0,.string ⟨#[]⟩,.int .i64 0,.string ⟨#[]⟩,.int .i64 0,.string ⟨#[]⟩,.int .i64 0,.int .i64 0,.int .i64 0,.int .i64 0,.int .i64 0,.string ⟨#[]⟩,.int .i64 0,.int .i64 0,.int .i64 0,.int .i64 0,.int .i64 0,.string ⟨#[]⟩,.int .i64 0,.int .i64 0,.int .i64 0,.int .i64 0,.int .i64 0,.string ⟨#[]⟩,.int .i64 0,.int .i64 0,.int .i64 0,.int .i64 0,.int .i64 0,.string ⟨#[]⟩,.int .i64 0,tp T,.slice none 0 0,.slice none 0 0,.slice none 0 0,.slice none 0 0,.slice none 0 0,.slice none 0 0,.slice none 0 0,.slice none 0 0]
def lt8{P:Nat->Prop}(h0:P 0)(a:P 1)(b:P 2)(c:P 3)(d:P 4)(e:P 5)(f:P 6)(g:P 7):∀i,i<8->P i:=λi h=>by
 match i,h with
 |0,_=>exact h0
 |1,_=>exact a
 |2,_=>exact b
 |3,_=>exact c
 |4,_=>exact d
 |5,_=>exact e
 |6,_=>exact f
 |7,_=>exact g
def cx.a4{q U m T:Nat}{tob tv td:Int}{f:List R}(t:dE w U q f false)(y:bW w q f false 0)(l:cL w T m (.map []) (λ_=>0) (λ_=>0) 0)(z:q<U)(A:U<m)(B:m<T):cx (w.alloc (.cells (YI tob tv td U T) 144)) ⟨q,w.heap.size,U,T,m⟩ (Sv.ab tob tv td f false 0):=by
 have n:=l.Z;have b:Below w.heap.size w (w.alloc (.cells (YI tob tv td U T) 144)):=(au _ _).alloc (aa _) _;have r:(w.alloc (.cells (YI tob tv td U T) 144)).heap[w.heap.size]?=some (.cells (YI tob tv td U T) 144):=bw w _;have c:∀i,(w.alloc (.cells (YI tob tv td U T) 144)).cell? (aA w.heap.size i)=(YI tob tv td U T)[i]?:=λi=>bS _ _ _ _ _ _ r;have o:=l.x;refine⟨⟨_,_,r⟩,λi=>by simp,c 0,c 1,c 2,c 3,c 4,c 5,c 6,lt8 (c 7) (c 9) (c 11) (c 13) (c 15) (c 17) (c 19) (c 21),lt8 (c 8) (c 10) (c 12) (c 14) (c 16) (c 18) (c 20) (c 22),λi p j u d=>?_,c 47,?_,?_,t.e b,y.e b (by omega),l.H b,o.imp λ_ k=>k.imp λ_ k=>(b.block T n.1).trans k,z,A,B,by dsimp only;omega,λi _=>by simp[Sv.ab]⟩;have s:j<6:=by
  have:=(aT.1 d).1;simpa[Wal.R.h] using this
 rw[<-d];show (w.alloc _).cell? (aA w.heap.size (23+i*6+j))=_;rw[c];match i,p,j,s with
 |0,_,0,_=>rfl
 |0,_,1,_=>rfl
 |0,_,2,_=>rfl
 |0,_,3,_=>rfl
 |0,_,4,_=>rfl
 |0,_,5,_=>rfl
 |1,_,0,_=>rfl
 |1,_,1,_=>rfl
 |1,_,2,_=>rfl
 |1,_,3,_=>rfl
 |1,_,4,_=>rfl
 |1,_,5,_=>rfl
 |2,_,0,_=>rfl
 |2,_,1,_=>rfl
 |2,_,2,_=>rfl
 |2,_,3,_=>rfl
 |2,_,4,_=>rfl
 |2,_,5,_=>rfl
 |3,_,0,_=>rfl
 |3,_,1,_=>rfl
 |3,_,2,_=>rfl
 |3,_,3,_=>rfl
 |3,_,4,_=>rfl
 |3,_,5,_=>rfl
 exact lt8 ⟨_,c 48,iy.h⟩ ⟨_,c 49,iy.h⟩ ⟨_,c 50,iy.h⟩ ⟨_,c 51,iy.h⟩ ⟨_,c 52,iy.h⟩ ⟨_,c 53,iy.h⟩ ⟨_,c 54,iy.h⟩ ⟨_,c 55,iy.h⟩;intro i j u v p s C d E g D;have:= lt8 (P:=λi=>(YI tob tv td U T)[48+i]?=some (.slice none 0 0)) rfl rfl rfl rfl rfl rfl rfl rfl i p;have a:= d;rw[c,this]at a;injection a with a
 subst a;simp[Value.ownBlock]at D
def BB:∀(l:List R) (i j:Nat) (h:i<l.length),j<6->(cY l)[i*6+j]?=(l[i].h)[j]?
 | [],_,_,h,_=>by simp at h
 |r::l,0,j,_,a=>by
  have e:cY (r::l)=r.h++cY l:=by simp[Wal.cY]
  rw[e,bn (by simp[Wal.R.h];omega)];simp
 |r::l,i+1,j,h,a=>by
  have e:cY (r::l)=r.h++cY l:=by simp[Wal.cY]
  have b:r.h.length=6:=by simp[Wal.R.h]
  rw[e,aQ (by omega),b,show (i+1)*6+j-6=i*6+j by omega];exact BB l i j (by simpa using h) a
def iY(s:Sv)(r:R):(s.h r).i=s.i/\(s.h r).b=s.b/\(s.h r).o=s.o/\(s.h r).dS=s.dS/\(s.h r).dX=s.dX/\(s.h r).da=s.da/\(s.h r).waits=s.waits/\(s.h r).gq=s.gq/\(s.h r).xC=s.xC/\(s.h r).D=s.D/\(s.h r).mR=s.mR/\(s.h r).iu=s.iu/\(s.h r).n=s.n:=by
 unfold Sv.h;split;simp;split<;>simp
def kQ:∀(l:List R) (s:Sv),(l.foldl Sv.h s).i=s.i/\(l.foldl Sv.h s).b=s.b/\(l.foldl Sv.h s).o=s.o/\(l.foldl Sv.h s).dS=s.dS/\(l.foldl Sv.h s).dX=s.dX/\(l.foldl Sv.h s).da=s.da/\(l.foldl Sv.h s).waits=s.waits/\(l.foldl Sv.h s).gq=s.gq/\(l.foldl Sv.h s).xC=s.xC/\(l.foldl Sv.h s).D=s.D/\(l.foldl Sv.h s).mR=s.mR/\(l.foldl Sv.h s).iu=s.iu/\(l.foldl Sv.h s).n=s.n/\(l.foldl Sv.h s).rs=s.rs
 | [],s=>by simp
 |r::l,s=>by
  let ⟨p,q,t,u,v,w,x,y,z,a,c,d,e,f⟩:=kQ l (s.h r)
  let ⟨k1,A,B,C,E,F,G,H,I,g,j,k,m⟩:=iY s r
  rw[gQ];exact⟨p.trans k1,q.trans A,t.trans B,u.trans C,v.trans E,w.trans F,x.trans G,y.trans H,z.trans I,a.trans g,c.trans j,d.trans k,e.trans m,f.trans (oe s r)⟩
structure Nw(w5 wr:World)(a:Ad)(z:Sv)(rs:List R)(B:Nat)(v:Value)(k:Nat):Prop where
 e:cx wr a ((rs.take k).foldl Sv.h z)
 h:Fs a w5 wr
 b:wr.ownsRow B 138 6 v rs.length (cY rs)
 i:∀g,v.ownBlock=some g->¬fy wr a g
end Wld
end Go.Proofs.YtbebfliimjjohabGreatDoor
