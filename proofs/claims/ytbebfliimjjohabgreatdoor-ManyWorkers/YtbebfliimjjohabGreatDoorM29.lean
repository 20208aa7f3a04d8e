/- Parts of the proof. -/
import Derived.Test.YtbebfliimjjohabGreatDoorM28
set_option maxRecDepth 100000
set_option maxHeartbeats 8000000
set_option linter.all false
open Go.Proofs.Tryz
namespace Go.Proofs.YtbebfliimjjohabGreatDoor open Gen (la on tk)
open Go.RowKit Go.Maps
open Lease (Ob fN ic cy jm fY eI de kk mx)
open Cache (tp aZ bq)
open Wal (R jv fH du bM cO Oq)
open Num (M iH)
open Bare (iZ)
namespace Wld
variable{a:Ad}{ml:Bool}{md:DS}{mk mc mn me ms mv now tob tv td:Int}{rs:List R}{o B:Nat}{w:Ba}
structure Wr(w wr:World)(a:Ad)(s:Sv)(o:Nat)(l0:List M)(li:List Int)(C:Nat)(vi:Value)(m:M)(k:Nat)(v:Value):Prop where
 e:gg w wr a v s (l0++(li.take k).map λc=>s.Z c o)
 i:MB wr w.heap.size m
 p:w.heap.size<wr.heap.size
 t:¬eM wr a w.heap.size
 j:de wr C vi li
 h:∀g,v.ownBlock=some g->vi.ownBlock≠some g
 b:∀g,v.ownBlock=some g->g≠w.heap.size
def Ko{s:Sv}(mk mc mn me ms mv:Int)(ml:Bool)(md:DS)(now:Int)(h:bZ w a s)(ho:o<8)(hB:kR s B)(fb:B<=100000000000000)(hm:Px o ⟨mk,mc,mn,me,ms,o,mv,ml,md⟩):
  Calls prog 186 #[tp a.S,Wire.M.ab ⟨mk,mc,mn,me,ms,o,mv,ml,md⟩,iI now] w λe w'=>∃v,e=.returned v/\gg w w' a v (s.ab ⟨mk,mc,mn,me,ms,o,mv,ml,md⟩ o now).1 (s.ab ⟨mk,mc,mn,me,ms,o,mv,ml,md⟩ o now).2:=by
 have hc:0<=mc:=by have:=hm.2.1;simp[fH,Num.lY]at this;omega
 have dy:MB (dL w mk mc mn me ms o mv ml md) w.heap.size ⟨mk,mc,mn,me,ms,o,mv,ml,md⟩:=gF w;have F:bZ (dL w mk mc mn me ms o mv ml md) a s:=h.j _;have hF:Fs a w (dL w mk mc mn me ms o mv ml md):=(Fs.j).O h _;have d8:¬eM (dL w mk mc mn me ms o mv ml md) a w.heap.size:=h.O ((au _ _).alloc (aj _) _) (aj _);have eA:(dL w mk mc mn me ms o mv ml md).heap.size=w.heap.size+1:=aY;have fc:(0:Int)<=(o:Int):=ak;have fd:(o:Int)<8:=ak;have e6:=h.e;have eB:=na mc;have e7:(0:Int)<=((bK mc:Nat):Int):=ak;have e8:((bK mc:Nat):Int)<4:=ak;have dz:=λw=>nd (id:=mc) w hc;unfold dL at *;unfold Wire.M.ab;dsimp only;clear h;go_in;go_upto_region 1 with fail
 generalize w.alloc (.cells #[.int .i64 mk,.int .i64 mc,.int .i64 mn,.int .i64 me,.int .i64 ms,.int .i64 o,.int .i64 mv,.bool ml,.string md] 129)=w1 at *;have b1:=dy.i;dsimp only at b1;obtain⟨Y,l1,l2,l3,l4,l5⟩:=F.al eB;have D:=F.lt;have p0:=λob=>(aC w1 ob (aA a.S (23+bK mc*6)) D).trans Y;have p1:=λob=>(aC w1 ob (aA a.S (23+bK mc*6+1)) D).trans l1;have p2:=λob=>(aC w1 ob (aA a.S (23+bK mc*6+2)) D).trans l2;have p3:=λob=>(aC w1 ob (aA a.S (23+bK mc*6+3)) D).trans l3;have p4:=λob=>(aC w1 ob (aA a.S (23+bK mc*6+4)) D).trans l4;have p5:=λob=>(aC w1 ob (aA a.S (23+bK mc*6+5)) D).trans l5;have pb:=λob=>(aC w1 ob (aA w.heap.size 1) jB).trans b1;have eC:a.S≠w1.heap.size:=ak;have d9:w.heap.size≠w1.heap.size:=ak;obtain⟨L,hL⟩:∃L,s.last (bK mc)=L:=⟨_,rfl⟩;rw[hL]at Y l1 l2 l3 l4 l5 p0 p1 p2 p3 p4 p5;go_cut[7] from 11 to 18 (λx wx=>x=.pointer (some (aA (w.heap.size+1) 0))/\wx=(w1.alloc (.cells #[iI L.c,iI L.n,iI L.o,iI L.v,.string L.d,iI L.e] 138)).drew)
 case first=>
  go_region_with (first|(go_at_call 137;refine(dz _).mono ?_;rintro e w'⟨rfl,rfl⟩))
  all_goals go_wp2
  all_goals go_meet
  all_goals exact⟨rfl,rfl⟩
 case rest=>
  obtain⟨rfl,hW⟩:=hcut;have ad:FF w1 wc:=by rw[hW];exact((au _ _).alloc (aj _) _).drew
  have fi:wc.heap.size=w.heap.size+2:=by rw[hW];show (w1.alloc _).heap.size=_;simp;omega
  have ct:Wal.Bx wc (w.heap.size+1) L:=by
   rw[hW,<-eA];exact Wal.Bx.h w1 L _
  have F2:=F.h ad;have bm:=hF.I F ad;have E:=dy.e ad ak;have dn:¬eM wc a w.heap.size:=λf=>d8 ((fe (aa (ad.block a.U F.e.2.1)) (λi _=>aa (ad.block a.S F.e.2.2.2.2.1))) f);have ea:¬eM wc a (w.heap.size+1):=F.O ad ak;clear hW F hF dy d8 p0 p1 p2 p3 p4 p5 pb Y l1 l2 l3 l4 l5 b1 ad eC d9 D;obtain⟨x0,x1,x2,x3,x4,x5⟩:=id ct;have b0:=E.y;have b1:=E.i;have b2:=E.u;have b3:=E.j;have b4:=E.p;have b5:=E.h;have b6:=E.t;have b7:=E.x;have b8:=E.A;dsimp only at b0 b1 b2 b3 b4 b5 b6 b7 b8;by_cases m:mc=L.c/\mn=L.n
  .have HE:Hid (s.ab ⟨mk,mc,mn,me,ms,o,mv,ml,md⟩ o now=(s,[s.av ⟨mk,mc,mn,me,ms,o,mv,ml,md⟩ L.v])):=by
    unfold Hid Sv.ab;dsimp only;rw[hL,aH m]
   have bO:=GJ (a:=a) (s:=s) ⟨mk,mc,mn,me,ms,o,mv,ml,md⟩ L.v (w:=wc) F2 hc;obtain⟨K,aS⟩:∃K,s.av ⟨mk,mc,mn,me,ms,o,mv,ml,md⟩ L.v=K:=⟨_,rfl⟩;have HM:Hid (s.av ⟨mk,mc,mn,me,ms,o,mv,ml,md⟩ L.v=K):=aS;rw[aS]at bO;unfold Wire.M.ab at bO;dsimp only at bO;rw[show (.agg #[iI K.k,iI K.c,iI K.n,iI K.e,iI K.s,iI K.o,iI K.v,.bool K.l,.string K.d]:Dv)=Wire.M.ab K from rfl]at bO;have g1:(mc==L.c)=true:=dD m.1;have g2:(mn==L.n)=true:=dD m.2;clear m aS hL;go_wp2_with fail
   refine bO.mono ?_;rintro e w3⟨rfl,G⟩;have F3:=F2.h G;have bR:=bm.I F2 G;clear bO F2 bm E ct;go_wp2_with (refine dS rfl 35 rfl K rfl ?_)
   go_ret;rw[HE.out,HM.out];exact⟨_,rfl,gg.one K F3 bR⟩
  .have HE:Hid (s.ab ⟨mk,mc,mn,me,ms,o,mv,ml,md⟩ o now=if vm mc mn L=false then (s,[]) else if (s.aU ⟨mk,mc,mn,me,ms,o,mv,ml,md⟩ o).2=false then ((s.aU ⟨mk,mc,mn,me,ms,o,mv,ml,md⟩ o).1,[]) else (s.aU ⟨mk,mc,mn,me,ms,o,mv,ml,md⟩ o).1.a2 o now):=by
    unfold Hid Sv.ab;dsimp only;rw[hL,ay m]
   have cj:=CJ mc mn L wc;have N:=hB.ab hm;obtain⟨x,hx⟩:∃x,s.aU ⟨mk,mc,mn,me,ms,o,mv,ml,md⟩ o=x:=⟨_,rfl⟩;have cw:=λw h=>GS (a:=a) (s:=s) (mk:=mk) (mc:=mc) (mn:=mn) (me:=me) (ms:=ms) (mv:=mv) (o:=o) (ml:=ml) (md:=md) (w:=w) h ho (x:=x) hx;rw[hx]at HE N;obtain⟨se,be⟩:=x;dsimp only at HE N cw;unfold Wire.M.ab Wal.R.H at *;dsimp only at cw;go_upto_region 2 with fail
   go_cut[30] from 19 to 29 (λx wx=>x=.bool false/\wx=wc)
   case first=>
    by_cases h1:mc=L.c
    .have g1:(mc==L.c)=true:=dD h1;have g2:(mn==L.n)=false:=by simpa using λq=>m ⟨h1,q⟩
     clear m h1;go_wp2_with fail
     go_meet
     case rel=>exact⟨rfl,rfl⟩
    .have g1:(mc==L.c)=false:=dD h1;clear m h1;go_wp2_with fail
     go_meet
     case rel=>exact⟨rfl,rfl⟩
   case rest=>
    obtain⟨rfl,eF⟩:=hcut;rename_i wd;subst eF;clear m hL hx;cases D:vm mc mn L with
    |false=>
     rw[D]at cj;have ck:Hid (s.ab ⟨mk,mc,mn,me,ms,o,mv,ml,md⟩ o now=(s,[])):=HE.out.trans (aH D);go_wp2_with fail
     refine cj.mono ?_;rintro e w3⟨rfl,G⟩;have F3:=F2.h G;have bR:=bm.I F2 G;clear cj F2 bm E ct;go_wp2;go_ret;rw[ck.out];exact⟨_,rfl,T8.h,F3,bR⟩
    |true=>
     rw[D]at cj;have ck:Hid (s.ab ⟨mk,mc,mn,me,ms,o,mv,ml,md⟩ o now=if be=false then (se,[]) else se.a2 o now):=HE.out.trans (ay (by rw[D];decide));go_wp2_with fail
     refine cj.mono ?_;rintro e w3⟨rfl,G⟩;have fj:=G.size;have F3:=F2.h G;have bR:=bm.I F2 G;have J:=E.e G ak;have cl:¬eM w3 a w.heap.size:=λf=>dn ((fe (aa (G.block a.U F2.e.2.1)) (λi _=>aa (G.block a.S F2.e.2.2.2.2.1))) f);clear cj F2 bm E ct x0 x1 x2 x3 x4 x5 b0 b1 b2 b3 b4 b5 b6 b7 b8 dn ea G HE D;have b0:=J.y;have b1:=J.i;have b2:=J.u;have b3:=J.j;have b4:=J.p;have b5:=J.h;have b6:=J.t;have b7:=J.x;have b8:=J.A;dsimp only at b0 b1 b2 b3 b4 b5 b6 b7 b8;go_wp2_with fail
     refine(cw w3 F3).mono ?_;rintro e w4⟨rfl,F4,W⟩;have dJ:=bR.e W;have dN:=J.H W ak cl;have cm:¬eM w4 a w.heap.size:=λf=>cl (W.h _ ak f);have fk:=W.b;clear cw F3 bR J cl W b0 b1 b2 b3 b4 b5 b6 b7 b8;have b5:=dN.h;dsimp only at b5;cases be with
     |false=>
      have cA:Hid (s.ab ⟨mk,mc,mn,me,ms,o,mv,ml,md⟩ o now=(se,[])):=ck.out.trans (aH rfl);go_wp2;go_ret;rw[cA.out];exact⟨_,rfl,T8.h,F4,dJ⟩
     |true=>
      have cA:Hid (s.ab ⟨mk,mc,mn,me,ms,o,mv,ml,md⟩ o now=se.a2 o now):=ck.out.trans (ay cn);clear ck;have ec:=rB (a:=a) (s:=se) (o:=o) now (w:=w4) F4 ho (N.i o) (λc=>by have:=N.p c;omega) N.Ey (λx=>by have:=N.Cs x;have:=N.D1;omega) N.oG N.oH;obtain⟨dP,eG⟩:=N.h o now;obtain⟨cB,eJ⟩:=dP.j o now;go_wp2_with fail
      refine ec.mono ?_;rintro e w5⟨v5,rfl,T5⟩;have F5:=T5.h;have ef:=dJ.e T5.e;have dT:=dN.H T5.e ak cm;have co:¬eM w5 a w.heap.size:=λf=>cm (T5.e.h _ ak f);have fl:=T5.e.b;have O5:T8 w w5 a v5 (se.H o now).2:=⟨T5.b.b.H ak,T5.b.e⟩;have cG:∀g,v5.ownBlock=some g->g≠w.heap.size/\g<w5.heap.size:=λg hg=>⟨by have:=(bj T5.b.b g hg).1;omega,(bj T5.b.b g hg).2⟩;obtain⟨av,cv,eK,eN,_⟩:=Net.cP T5.b.b;subst eK;have eg:=rE (a:=a) (s:=(se.H o now).1) (o:=o) now (w:=w5) F5 ho (λc=>by have:=dP.p c;omega);clear ec F4 dJ dN cm T5 b5 eN;have b5:=dT.h;dsimp only at b5;go_wp2_with fail
      refine eg.mono ?_;rintro e w6⟨vi,rfl,hI,F6,P⟩;have em:=ef.e P;have en:=dT.H P ak co;have dr:¬eM w6 a w.heap.size:=λf=>co (P.h _ ak f);have O6:=O5.j P;have fo:=P.b;clear eg F5 ef dT co b5 O5;have ep:Hid (s.ab ⟨mk,mc,mn,me,ms,o,mv,ml,md⟩ o now=(((se.H o now).1.e o now).1,(se.H o now).2++((se.H o now).1.e o now).2.map λc=>((se.H o now).1.e o now).1.Z c o)):=cA.out;clear cA;obtain⟨Q,d0⟩:∃Q,((se.H o now).1.e o now).1=Q:=⟨_,rfl⟩;obtain⟨C,d6⟩:∃C,((se.H o now).1.e o now).2=C:=⟨_,rfl⟩;obtain⟨Y,cW⟩:∃Y,(se.H o now).2=Y:=⟨_,rfl⟩;rw[d0]at cB F6;rw[d6]at eJ hI;rw[cW]at eG O6 cG;rw[d0,d6,cW]at ep;rw[cW];clear d0 d6 cW dP;obtain⟨ai,ci,rfl,dd⟩:=hI.e;have ds:∀g,(Value.slice av Y.length cv).ownBlock=some g->(Value.slice ai C.length ci).ownBlock≠some g:=λg hg e=>by
       have q1:=(cG g hg).2;have q2:=(bj hI g e).1;omega
      have eQ:Hid (Wr w w6 a Q o Y C w5.heap.size (.slice ai C.length ci) ⟨mk,mc,mn,me,ms,o,mv,ml,md⟩ 0 (.slice av Y.length cv)):=⟨⟨dD O6,F6,em⟩,en,ak,dr,hI,ds,λg hg=>(cG g hg).1⟩;obtain⟨i0,hi,eS,eT,eU⟩:=dg jP;have eW:=cB.Ey o;have e0:Q.vv o<=4611686018427387904:=by have:=cB.Cs o;have:=cB.D1;omega
      clear O6 F6 em en dr hI cG ds P;go_wp2;go_loopw [8,61] (λv i wr=>∃k:Nat,k<=C.length/\i = iI k/\Wr w wr a Q o Y C w5.heap.size (.slice ai C.length ci) ⟨mk,mc,mn,me,ms,o,mv,ml,md⟩ k v) (λ_ i _=>C.length-(intOf i).toNat)
      case atStart=>exact⟨0,ak,rfl,eQ.out⟩
      case round=>
       obtain⟨k,hk,rfl,A⟩:=hrel;by_cases dt:k<C.length
       .obtain⟨g,rfl,_⟩:=dd ak;have cp:wr.cell? (aA g k)=some (iI C[k]):=by
         have:=bC A.j k ak;rw[this,cU,aE dt];rfl
        have b5:=A.i.h;dsimp only at b5;have a0:=CI a (s:=Q) C[k] o wr A.e.h ho eW e0;have eq:(C.take (k+1)).map (λc=>Q.Z c o)=(C.take k).map (λc=>Q.Z c o)++[Q.Z C[k] o]:=by
         rw[bw dt,dE];rfl
        have HT:Hid ((C.take (k+1)).map (λc=>Q.Z c o)=(C.take k).map (λc=>Q.Z c o)++[Q.Z C[k] o]):=eq;obtain⟨lk,er⟩:∃lk,C[k]=lk:=⟨_,rfl⟩;rw[er]at cp a0 HT;obtain⟨K,aS⟩:∃K,Q.Z lk o=K:=⟨_,rfl⟩;rw[aS]at a0 HT;have fp:Hid (Q.Z lk o=K):=aS;have fr:(k:Int)<(C.length:Int):=ak;have HA:Hid (Wr w wr a Q o Y C w5.heap.size (.slice (some (aA g 0)) C.length ci) ⟨mk,mc,mn,me,ms,o,mv,ml,md⟩ k u8):=A;obtain⟨lo,df⟩:∃lo,Y++(C.take k).map (λc=>Q.Z c o)=lo:=⟨_,rfl⟩;have e9:lo.length<=14:=by rw[<-df];simp;omega
        have e1:Hid (Y++(C.take k).map (λc=>Q.Z c o)=lo):=df;have O1:=A.e.b;have F1:=A.e.h;have es:=A.e.e;rw[df]at O1;clear A eq aS er df;go_wp2_with fail
        refine a0.mono ?_;rintro e w7⟨rfl,V⟩;have F7:=F1.h V;have d7:=es.I F1 V;have O7:=O1.j (Fs.H F1 V);have fs:=d7.b;have fa:=V.size;have r:=HA.out.i.e V HA.out.p;have dk:=HA.out.j.H V;obtain⟨e2,e3,ev,ex,_⟩:=Net.cP O7.b;subst ev;have dv:Hid (∀f,eM w7 a f->eM wr a f):=λf hf=>fe (aa (V.block a.U F1.e.2.1)) (λi _=>aa (V.block a.S F1.e.2.2.2.2.1)) hf;clear a0 F1 es O1 ex b5 cp V;go_wp2_with (first|refine dS rfl 70 rfl K rfl ?_|(at_builtin;refine App.iC rfl (t:=141) rfl (base:=w.heap.size) (e:=129) (i:=i0) (z:=.agg #[iI 0,iI 0,iI 0,iI 0,iI 0,iI 0,iI 0,.bool false,.string ⟨#[]⟩]) (size:=9) (bytes:=80) underlying141 hi eS eT eU rfl cn rfl (O7.b.alloc _) (FI w7 0) 1 1 (gh K) rfl rfl (m8 w7 K) (jx) ?r3 ?r4 ?r5 ?_))
        case r3=>unfold maxLen;omega
        case r4=>omega
        case r5=>simp;omega
        intro v9 w9 cs dm a1;obtain⟨O9,F9,ey⟩:=O7.H F7 d7 cs dm a1;have X:∀q,q<w7.heap.size->(Value.slice e2 lo.length e3).ownBlock≠some q->w9.heap[q]?=w7.heap[q]?:=λq hq hn=>(dm.block q fS (λe=>hn e.symm)).trans (ff w7 _ q hq);have e4:Hid (Wr w w9 a Q o Y C w5.heap.size (.slice (some (aA g 0)) C.length ci) ⟨mk,mc,mn,me,ms,o,mv,ml,md⟩ (k+1) v9):=by
         have fx:=HA.out.p;have eb:=X w.heap.size ak (λe=>HA.out.b _ e rfl);have e:∀j,w9.cell? (FI w j)=w7.cell? (FI w j):=λj=>aa eb;have e5:=dm.size;simp at e5;refine⟨⟨?_,F9,ey⟩,⟨(e _).trans r.y,(e _).trans r.i,(e _).trans r.u,(e _).trans r.j,(e _).trans r.p,(e _).trans r.h,(e _).trans r.t,(e _).trans r.x,(e _).trans r.A⟩,ak,λf=>?_,aZ dk λq hq=>X q (bj dk q hq).2 (λe=>HA.out.h q e hq),λq hq e=>?_,λq hq=>?_⟩;rw[HT.out,<-bP,e1.out];exact O9;have f7:eM w7 a w.heap.size:=by
          have ez:=F7.e;refine fe (aa (X a.U ez.2.1 (λe=>O7.e _ e (.inr (.inr (.inr (.inl rfl))))))) (λi _=>aa (X a.S ez.2.2.2.2.1 (λe=>O7.e _ e (.inr (.inr (.inl rfl)))))) f
         exact HA.out.t (dv.out _ f7);rcases a1 q hq with h9|h9
         exact HA.out.h q h9 e;have:=(bj dk q e).2;omega;rcases a1 q hq with h9|h9
         exact HA.out.b q h9;omega
        clear O7 O9 F7 F9 d7 ey cs dm a1 r dk X HA HT dv;go_wp2;go_roundw
        case rel=>exact⟨k+1,ak,by go_num,e4.out⟩
        case measure=>simp[intOf];omega
       .obtain rfl:k=C.length:=ak;have HA:Hid (Wr w wr a Q o Y C w5.heap.size (.slice ai C.length ci) ⟨mk,mc,mn,me,ms,o,mv,ml,md⟩ C.length u8):=A;clear A;go_wp2;go_ret;have T:=HA.out.e;rw[fP]at T;rw[ep.out];exact⟨_,rfl,T⟩
structure Ju(s:Sv)(now:Int)(B:Nat):Prop where
 e:kR s B
 b:B<=100000000000000
 h:0<=now
 i:now<=549755813888
 j:0<=s.i
 o:s.i<=274877906944
 p:0<=s.b
 t:s.b<=274877906944
def SY{s:Sv}{mo:Int}(h:bZ w a s)(l:s.jw=true\/mc<0\/mo<0\/8<=mo):
  Calls prog 131 #[tp a.S,Wire.M.ab ⟨mk,mc,mn,me,ms,mo,mv,ml,md⟩,iI now] w λe k=>∃v,e=.returned v/\gg w k a v s []:=by
 have c:MB (dL w mk mc mn me ms mo mv ml md) w.heap.size ⟨mk,mc,mn,me,ms,mo,mv,ml,md⟩:=gF w;have F:bZ (dL w mk mc mn me ms mo mv ml md) a s:=h.j _;have hF:Fs a w (dL w mk mc mn me ms mo mv ml md):=(Fs.j).O h _;unfold dL at *;unfold Wire.M.ab


 go_in;go_upto_region 1 with fail
 generalize w.alloc (.cells #[iI mk,iI mc,iI mn,iI me,iI ms,iI mo,iI mv,.bool ml,.string md] 129)=w1 at *;have b1:=c.i;have b5:=c.h;dsimp only at b1 b5;have b:=oK F;have d:Hid (gg w w1 a (.slice none 0 0) s []):=⟨T8.h,F,hF⟩;have m :Hid _:= l;cases hd1:s.jw with
 |true=>
  rw[hd1]at b;go_wp2_with fail
  apply b.mono;rintro e w2⟨rfl,rfl⟩;go_wp2;go_ret;exact⟨_,rfl,d.out⟩
 |false=>
  rw[hd1]at b;by_cases f:mc<0
  .have n:= aX f;go_wp2_with fail
   apply b.mono;rintro e w2⟨rfl,rfl⟩;go_wp2;go_ret;exact⟨_,rfl,d.out⟩
  .have n:= aK f;have g:eI mo=false:=by
    rcases m.out with q|q|q|q
    rw[hd1]at q;cases q;exact(f q).elim;exact Num.j4 q;exact Num.j3 ak
   have o :Hid _:= g;go_wp2_with fail
   apply b.mono;rintro e w2⟨rfl,rfl⟩;go_wp2_with (go_at_call 184;refine(kb).mono ?_;rintro e k⟨rfl,rfl⟩;rw[o.out])
   go_ret;exact⟨_,rfl,d.out⟩
def SX{s:Sv}(h:bZ w a s)(d:Ju s now B)(C:o<8)(D:ZS ⟨mk,mc,mn,me,ms,o,mv,ml,md⟩)(u:s.jw=false):
  Calls prog 131 #[tp a.S,Wire.M.ab ⟨mk,mc,mn,me,ms,o,mv,ml,md⟩,iI now] w λe r=>∃v,e=.returned v/\gg w r a v (s.an ⟨mk,mc,mn,me,ms,o,mv,ml,md⟩ now).1 (s.an ⟨mk,mc,mn,me,ms,o,mv,ml,md⟩ now).2:=by
 have hc:0<=mc:=by have:=D.1;simp[fH,Num.lY]at this;omega
 have G:MB (dL w mk mc mn me ms o mv ml md) w.heap.size ⟨mk,mc,mn,me,ms,o,mv,ml,md⟩:=gF w;have F:bZ (dL w mk mc mn me ms o mv ml md) a s:=h.j _;have hF:Fs a w (dL w mk mc mn me ms o mv ml md):=(Fs.j).O h _;have I:eI o=true:=Num.fu ak ak;have y:Hid (eI o=true):=I;have z:Hid (s.an ⟨mk,mc,mn,me,ms,o,mv,ml,md⟩ now=if mk=1 then s.aw ⟨mk,mc,mn,me,ms,o,mv,ml,md⟩ o now else if mk=2 then s.ab ⟨mk,mc,mn,me,ms,o,mv,ml,md⟩ o now else if mk=3 then s.ah ⟨mk,mc,mn,me,ms,o,mv,ml,md⟩ now else if mk=4 then s.aq ⟨mk,mc,mn,me,ms,o,mv,ml,md⟩ o now else (s,[])):=by
  unfold Hid Sv.an;have W:¬(s.jw=true\/mc<0\/(o:Int)<0\/8<=(o:Int)):=by
   rintro(q|q|q|q);rw[u]at q;cases q;omega;omega;omega
  exact ay W
 have J:w.heap.size<=(dL w mk mc mn me ms o mv ml md).heap.size:=aY

 unfold dL at *;unfold Wire.M.ab


 go_in;go_upto_region 1 with fail
 generalize w.alloc (.cells #[iI mk,iI mc,iI mn,iI me,iI ms,iI o,iI mv,.bool ml,.string md] 129)=w1 at *;have ⟨b0,b1,b2,b3,b4,b5,b6,b7,b8⟩:=G








 dsimp only at b0 b1 b2 b3 b4 b5 b6 b7 b8;have g:=oK F;rw[u]at g;have Z:decide (mc<0)=false:=aK ak;have K:=Pa mk mc mn me ms mv ml md F C hc d.h d.i d.j d.o (Pz d.e.n d.b);have L:=Ko mk mc mn me ms mv ml md now F C d.e d.b ⟨rfl,D.1,D.2.1,D.2.2,C⟩;have N:=Ka mk mc mn me ms o mv ml md F hc (d.e.ok (jd d.b)) d.h d.i d.p d.t;have P:=Hf mk mc mn me ms mv ml md now F C hc (d.e.i o) (λc=>by have:=d.e.p c;have:=d.b;omega) d.e.Ey (λx=>by have:=d.e.Cs x;have:=d.e.D1;omega) d.e.oG d.e.oH;unfold Wire.M.ab at K L N P;dsimp only at K L N P;have U:Hid (Fs a w w1):=hF;have X:Hid (bZ w1 a s):=F;have Y:Hid (w.heap.size<=w1.heap.size):=J;have fin:∀{w2:Ba} {v:Dv} {V:Sv} {l:List M},gg w1 w2 a v V l->gg w w2 a v V l:=λT=>⟨⟨T.b.b.H Y.out,T.b.e⟩,T.h,U.out.e T.e⟩

 by_cases k1:mk=1
 .subst k1;have f:=z.out.trans (aH rfl);go_wp2_with fail
  apply g.mono;rintro e w2⟨rfl,rfl⟩

  go_wp2_with (go_at_call 184;refine(kb).mono ?_;rintro e r⟨rfl,rfl⟩;rw[y.out])
  apply K.mono;rintro e w3⟨Q,rfl,m⟩;have k:=fin m

  go_wp2;go_ret;rw[f];exact⟨_,rfl,k⟩
 .by_cases A:mk=2
  .subst A;have f:=(z.out.trans (ay k1)).trans (aH rfl);go_wp2_with fail
   apply g.mono;rintro e w2⟨rfl,rfl⟩

   go_wp2_with (go_at_call 184;refine(kb).mono ?_;rintro e r⟨rfl,rfl⟩;rw[y.out])
   apply L.mono;rintro e w3⟨Q,rfl,m⟩;have k:=fin m

   go_wp2;go_ret;rw[f];exact⟨_,rfl,k⟩
  .by_cases E:mk=3
   .subst E;have f:=((z.out.trans (ay k1)).trans (ay A)).trans (aH rfl);go_wp2_with fail
    apply g.mono;rintro e w2⟨rfl,rfl⟩

    go_wp2_with (go_at_call 184;refine(kb).mono ?_;rintro e r⟨rfl,rfl⟩;rw[y.out])
    apply N.mono;rintro e w3⟨Q,rfl,m⟩;have k:=fin m

    go_wp2;go_ret;rw[f];exact⟨_,rfl,k⟩
   .by_cases R:mk=4
    .subst R;have f:=(((z.out.trans (ay k1)).trans (ay A)).trans (ay E)).trans (aH rfl);go_wp2_with fail
     apply g.mono;rintro e w2⟨rfl,rfl⟩

     go_wp2_with (go_at_call 184;refine(kb).mono ?_;rintro e r⟨rfl,rfl⟩;rw[y.out])
     apply P.mono;rintro e w3⟨Q,rfl,m⟩;have k:=fin m

     go_wp2;go_ret;rw[f];exact⟨_,rfl,k⟩
    .have f:=(((z.out.trans (ay k1)).trans (ay A)).trans (ay E)).trans (ay R);have q1:(mk==1)=false:=dD k1;have q2:(mk==2)=false:=dD A;have q3:(mk==3)=false:=dD E;have q4:(mk==4)=false:=dD R;have k:Hid (gg w w1 a (.slice none 0 0) s []):=⟨T8.h,X.out,U.out⟩;go_wp2_with fail
     apply g.mono;rintro e w2⟨rfl,rfl⟩;go_wp2_with (go_at_call 184;refine(kb).mono ?_;rintro e r⟨rfl,rfl⟩;rw[y.out])
     go_ret;rw[f];exact⟨_,rfl,k.out⟩
def OJ{s:Sv}{m:M}(h:bZ w a s)(d:Ju s now B)(f:ZS m):
  Calls prog 131 #[tp a.S,Wire.M.ab m,iI now] w λe g=>∃v,e=.returned v/\gg w g a v (s.an m now).1 (s.an m now).2:=by
 obtain⟨mk,mc,mn,me,ms,b,mv,ml,md⟩:=m;by_cases c:s.jw=true\/mc<0\/b<0\/8<=b;have e:s.an ⟨mk,mc,mn,me,ms,b,mv,ml,md⟩ now=(s,[]):=aH c;rw[e];exact SY h c;have i:s.jw=false:=by cases q:s.jw with
  |false=>rfl
  |true=>exact(c (.inl q)).elim
 obtain⟨o,rfl⟩:∃o:Nat,b=o:=⟨b.toNat,ak⟩;exact SX h d ak f i
structure Ev where
 b:Int
 Aa:Int
 Js:Int
 d:ByteArray
 N6:Int
 Gj:Bool
 XA:Bool
 i:Int
 uX:Int
 j:Int
structure St where
 k:K
 fo:Int
 pF:Int
 kH:Int
structure Wd where
 b:Int
 i:Int
 o:Int
 rs:List R
 qp:Bool
 sD:Int
 dP:List (Int×M)
 sv:Option Sv
 dJ:Int
 n:Nat
 bm:Nat->St
 bO:List Ev
 cm:Int
def Wd.af(w:Wd)(tz:Int)(m:M):Wd:=if iH m=true/\w.dP.length<200 then {w with dP:=w.dP++[(tz,m)]} else w
def Wd.O(w:Wd)(tz:Int)(l:List M):Wd:=l.foldl (λw m=>w.af tz m) w
def Wd.I(w:Wd)(l:List M):Wd:=l.foldl (λw m=>w.af (bK m.c:Nat) m) w
def Wd.Z(w:Wd)(s:Sv):Wd:={w with rs:=s.rs,qp:=s.iD,sD:=s.eK,sv:=some s}
def Wd.ae(w:Wd):Wd:=match w.sv with
 |none=>w
 |some s=>if s.jw=true then {w with sv:=none} else w
def Wd.av(w:Wd)(r:Sv×List M):Wd:=((w.Z r.1).I r.2).ae
def Wd.H(w:Wd)(m:M):Wd:=match w.sv with
 |none=>w
 |some s=>w.av (s.an m w.dJ)
def Wd.ac(w:Wd)(k:Nat)(c:K):Wd:={w with bm:=cq w.bm k {w.bm k with k:=c} }
def Ev.h(e:Ev)(c:K)(step:Int):Ev:={e with Aa:=c.pB,Js:=c.kW,d:=c.d,N6:=c.Sl,Gj:=c.oE,XA:=c.N7,uX:=if c.oE=true then step else e.uX}
def Wd.V(w:Wd)(k:Nat):Wd:=
 if (w.bm k).kH<0 then w
 else {w with bO:=w.bO.modify (w.bm k).kH.toNat λe=>e.h (w.bm k).k w.cm,bm:=cq w.bm k {w.bm k with kH:=if (w.bm k).k.oE=true then -1 else (w.bm k).kH} }
def Wd.ah(w:Wd)(k:Int):Bool:=decide (0<=k/\k<(w.n:Int))
def Wd.an(w:Wd)(k:Nat)(m:M):Wd:=((w.ac k ((w.bm k).k.I m).1).O (-1) ((w.bm k).k.I m).2).V k
def Wd.b1(w:Wd)(tz:Int)(m:M):Wd:=if tz = -1 then w.H m else if w.ah tz=true then w.an tz.toNat m else w
def Wd.j(w:Wd)(k:Nat):Wd:=match w.dP[k]? with
 |none=>w
 |some p=>({w with dP:=w.dP.eraseIdx k,cm:=w.cm+1}).b1 p.1 p.2
def Wd.ca(w:Wd)(k:Nat):Wd:={w with dP:=w.dP.eraseIdx k}
def Wd.ao(w:Wd)(k:Nat):Wd:=match w.dP[k]? with
 |none=>w
 |some p=>if w.dP.length<200 then {w with dP:=w.dP++[p]} else w
def Wd.b5(w:Wd)(k:Nat):Wd:=(w.ac k ((w.bm k).k.ah (w.bm k).fo)).O (-1) ((w.bm k).k.ag (w.bm k).fo)
def Wd.aw(w:Wd)(k:Nat):Wd:=({w with cm:=w.cm+1}).b5 k
def Wd.b6(w:Wd)(k:Nat):Wd:=if (w.bm k).kH<0 then w else w.b5 k
def Wd.ai(w:Wd)(k:Nat)(c:K):Wd:={w with cm:=w.cm+1,bO:=w.bO++[⟨k,0,0,⟨#[]⟩,0,false,false,w.cm+1,0,(w.bm k).pF⟩],bm:=cq w.bm k {w.bm k with k:=c,kH:=w.bO.length} }
def Wd.al(w:Wd)(k:Nat)(c:K):Wd:=((w.ai k c).V k).b6 k
def Wd.cc(w:Wd)(k:Nat)(o:Int):Wd:=w.al k ((w.bm k).k.ao o (w.bm k).fo)
def Wd.b8(w:Wd)(k:Nat)(o:Int)(d:ByteArray):Wd:=w.al k ((w.bm k).k.V 2 o d 0 false false (w.bm k).fo)
def pT(x:Int):Int:=if x<549755813888 then x else 549755813888
def Wd.b3(w:Wd)(b:Int)(a:Nat->Int):Wd:={w with cm:=w.cm+1,dJ:=pT (w.dJ+b),bm:=λk=>{w.bm k with fo:=pT ((w.bm k).fo+a k)} }
def Wd.a3(w:Wd):Wd:=match w.sv with
 |none=>w
 |some s=>w.av (s.ac w.dJ 8)
def Wd.aq(w:Wd)(b:Int)(a:Nat->Int):Wd:=(w.b3 b a).a3
def Wd.ab(w:Wd)(a b:Int):Wd:=match w.sv with
 |none=>{w with qp:=true,sD:=mx a 0}
 |some s=>w.Z {s with iD:=true,eK:=mx a 0,xU:=b}
def Wd.aU(w:Wd):Wd:={w with cm:=w.cm+1,sv:=none}
def Sv.al(tz tv td:Int)(rs:List R)(a:Bool)(left:Int):Sv:=⟨tz,tv,td,0,0,0,λ_=>⟨#[]⟩,λ_=>0,λ_=>⟨0,0,0,0,⟨#[]⟩,0⟩,.map [],λ_=>0,λ_=>0,0,λ_=>[],rs,false,a,left⟩
def Sv.ae(tz tv td:Int)(rs:List R)(a:Bool)(left:Int):Sv:=rs.foldl Sv.h (Sv.al tz tv td rs a left)
def Sv.ai(s:Sv)(now:Int):Sv:={s with ge:=if 0<s.bR then now+s.b else s.ge,bR:=s.bR+1}
def tZ(e:Int):R:=⟨0,0,-1,0,⟨#[]⟩,e⟩
def Sv.a6(tz tv td:Int)(rs:List R)(a:Bool)(left:Int)(now:Int):Sv:=(((Sv.ae tz tv td rs a left).ai now).af (tZ ((Sv.ae tz tv td rs a left).ai now).bR)).1
variable{s:Sv}
def Wd.start(w:Wd):Wd:=w.Z (Sv.a6 w.b w.i w.o w.rs false 0 w.dJ)
def Wd.e(w:Wd):Wd:=match w.sv with
 |some _=>w
 |none=>({w with cm:=w.cm+1}).start
def ij(td t:Int):Int:=t*(1000-td)/(1000+td)
def Wd.ch(w:Wd)(k:Nat)(life:Int):Wd:={w with bm:=cq w.bm k {w.bm k with k:=K.j (life*4+k) (ij w.o w.b) (ij w.o w.i),pF:=life,kH:=-1} }
def Wd.bs(w:Wd)(k:Nat):Wd:=({w with cm:=w.cm+1}).ch k ((w.bm k).pF+1)
def Wd.a2(w:Wd):Nat->Wd
 |0=>w
 |f+1=>if w.dP.length=0 then w else (w.j 0).a2 f
def Wd.h(to' tv td:Int)(n:Nat):Wd:=⟨to',tv,td,[],false,0,[],none,0,n,λk=>⟨K.j k (ij td to') (ij td tv),0,0,-1⟩,[],0⟩
abbrev WY (tob tv td:Int) (U T:Nat):Array Value:=#[.int .i64 tob,.int .i64 tv,.int .i64 td,tp U,.int .i64 0,.int .i64 0,.int .i64 0,.string ⟨#[]⟩,.int .i64 0,.string ⟨#[]⟩,.int .i64 0,.string ⟨#[]⟩,.int .i64 0,.string ⟨#[]⟩,.int .i64 0,.string ⟨#[]⟩,.int .i64 0,.string ⟨#[]⟩,.int .i64 0,.string ⟨#[]⟩,.int .i64 0,.string ⟨#[]⟩,.int .i64 0,.int .i64 0,.int .i64 0,.int .i64 0,.int .i64 0,.string ⟨#[]⟩,.int .i64 0,.int .i64 0,.int .i64 0,.int .i64 0,.int .i64 0,.string ⟨#[]⟩,.int .i64 0,.int .i64 0,.int .i64 0,.int .i64 0,.int .i64 0,.string ⟨#[]⟩,.int .i64 0,.int .i64 0,.int .i64 0,.int .i64 0,.int .i64 0,.string ⟨#[]⟩,.int .i64 0,tp T,.slice none 0 0,.slice none 0 0,.slice none 0 0,.slice none 0 0,.slice none 0 0,.slice none 0 0,.slice none 0 0,.slice none 0 0]
def lt8{P:Nat->Prop}(h0:P 0)(a:P 1)(b:P 2)(c:P 3)(d:P 4)(e:P 5)(f:P 6)(g:P 7):∀i,i<8->P i:=λi h=>by
 match i,h with
 |0,_=>exact h0
 |1,_=>exact a
 |2,_=>exact b
 |3,_=>exact c
 |4,_=>exact d
 |5,_=>exact e
 |6,_=>exact f
 |7,_=>exact g
def bZ.a4{q U m T:Nat}(s:du w U q rs false)(t:bM w q rs false 0)(f:cy w T m (.map []) (λ_=>0) (λ_=>0) 0)(y:q<U)(z:U<m)(A:m<T):bZ (w.alloc (.cells (WY tob tv td U T) 144)) ⟨q,w.heap.size,U,T,m⟩ (Sv.al tob tv td rs false 0):=by
 have l:=f.Z;have b:FF w (w.alloc (.cells (WY tob tv td U T) 144)):=(au _ _).alloc (aj _) _;have p:(w.alloc (.cells (WY tob tv td U T) 144)).heap[w.heap.size]?=some (.cells (WY tob tv td U T) 144):=bo w _;have c:∀i,(w.alloc (.cells (WY tob tv td U T) 144)).cell? (FI w i)=(WY tob tv td U T)[i]?:=λi=>bN _ _ _ _ _ _ p;have n:=f.x;refine⟨⟨_,_,p⟩,λi=>aY,c 0,c 1,c 2,c 3,c 4,c 5,c 6,lt8 (c 7) (c 9) (c 11) (c 13) (c 15) (c 17) (c 19) (c 21),lt8 (c 8) (c 10) (c 12) (c 14) (c 16) (c 18) (c 20) (c 22),λi o j u d=>?_,c 47,?_,?_,s.e b,t.e b ak,f.H b,n.imp λ_ k=>k.imp λ_ k=>(b.block T l.1).trans k,y,z,A,jB,λi _=>by simp[Sv.al]⟩;have r:j<6:=by
  have:=(bB.1 d).1;simpa[Wal.R.h] using this
 rw[<-d];show (w.alloc _).cell? (FI w (23+i*6+j))=_;rw[c];match i,o,j,r with
 |0,_,0,_=>rfl
 |0,_,1,_=>rfl
 |0,_,2,_=>rfl
 |0,_,3,_=>rfl
 |0,_,4,_=>rfl
 |0,_,5,_=>rfl
 |1,_,0,_=>rfl
 |1,_,1,_=>rfl
 |1,_,2,_=>rfl
 |1,_,3,_=>rfl
 |1,_,4,_=>rfl
 |1,_,5,_=>rfl
 |2,_,0,_=>rfl
 |2,_,1,_=>rfl
 |2,_,2,_=>rfl
 |2,_,3,_=>rfl
 |2,_,4,_=>rfl
 |2,_,5,_=>rfl
 |3,_,0,_=>rfl
 |3,_,1,_=>rfl
 |3,_,2,_=>rfl
 |3,_,3,_=>rfl
 |3,_,4,_=>rfl
 |3,_,5,_=>rfl
 exact lt8 ⟨_,c 48,gR.e⟩ ⟨_,c 49,gR.e⟩ ⟨_,c 50,gR.e⟩ ⟨_,c 51,gR.e⟩ ⟨_,c 52,gR.e⟩ ⟨_,c 53,gR.e⟩ ⟨_,c 54,gR.e⟩ ⟨_,c 55,gR.e⟩;intro i j u v o r B d D g C;have:= lt8 (P:=λi=>(WY tob tv td U T)[48+i]?=some (.slice none 0 0)) rfl rfl rfl rfl rfl rfl rfl rfl i o;have a:= d;rw[c,this]at a;injection a with a
 subst a;simp[Value.ownBlock]at C
def AG:∀(l:List R) (i j:Nat) (h:i<l.length),j<6->(cO l)[i*6+j]?=(l[i].h)[j]?
 | [],_,_,h,_=>by simp at h
 |r::l,0,j,_,a=>by
  have e:cO (r::l)=r.h++cO l:=by simp[Wal.cO]
  rw[e,bE (by simp[Wal.R.h];omega)];simp
 |r::l,i+1,j,h,a=>by
  have e:cO (r::l)=r.h++cO l:=by simp[Wal.cO]
  have b:r.h.length=6:=by simp[Wal.R.h]
  rw[e,bg ak,b,show (i+1)*6+j-6=i*6+j by omega];exact AG l i j (dD h) a
def nR(s:Sv)(r:R):(s.h r).i=s.i/\(s.h r).b=s.b/\(s.h r).o=s.o/\(s.h r).jw=s.jw/\(s.h r).iD=s.iD/\(s.h r).eK=s.eK/\(s.h r).waits=s.waits/\(s.h r).ge=s.ge/\(s.h r).xU=s.xU/\(s.h r).D=s.D/\(s.h r).oQ=s.oQ/\(s.h r).iK=s.iK/\(s.h r).n=s.n:=by
 unfold Sv.h;split;simp;split<;>simp
def rC:∀(l:List R) (s:Sv),(l.foldl Sv.h s).i=s.i/\(l.foldl Sv.h s).b=s.b/\(l.foldl Sv.h s).o=s.o/\(l.foldl Sv.h s).jw=s.jw/\(l.foldl Sv.h s).iD=s.iD/\(l.foldl Sv.h s).eK=s.eK/\(l.foldl Sv.h s).waits=s.waits/\(l.foldl Sv.h s).ge=s.ge/\(l.foldl Sv.h s).xU=s.xU/\(l.foldl Sv.h s).D=s.D/\(l.foldl Sv.h s).oQ=s.oQ/\(l.foldl Sv.h s).iK=s.iK/\(l.foldl Sv.h s).n=s.n/\(l.foldl Sv.h s).rs=s.rs
 | [],s=>aY
 |r::l,s=>by
  let ⟨p,q,t,u,v,w,x,y,z,a,c,d,e,f⟩:=rC l (s.h r)
  let ⟨k1,A,B,C,E,F,G,H,I,g,j,k,m⟩:=nR s r
  rw[lM];exact⟨p.trans k1,q.trans A,t.trans B,u.trans C,v.trans E,w.trans F,x.trans G,y.trans H,z.trans I,a.trans g,c.trans j,d.trans k,e.trans m,f.trans (pI s r)⟩
structure Nw(w5 wr:World)(a:Ad)(z:Sv)(rs:List R)(B:Nat)(v:Value)(k:Nat):Prop where
 e:bZ wr a ((rs.take k).foldl Sv.h z)
 h:Fs a w5 wr
 b:wr.ownsRow B 138 6 v rs.length (cO rs)
 i:∀g,v.ownBlock=some g->¬eM wr a g
def Ti{q:Nat}(hD:bM w q rs false 0)(hq:q<w.heap.size)(hlen:rs.length<=200)(hfu:rs.length=200->0<q/\iZ w)(hbd:∀r∈rs,0<=r.c/\r.o<8)(hep:0<=(Sv.ae tob tv td rs false 0).bR)(hep1:(Sv.ae tob tv td rs false 0).bR<=1000)(hn0:0<=now)(hn1:now<=549755813888)(hv0:0<=tv)(hv1:tv<=274877906944):
  Calls prog 123 #[.pointer (some (aA q 3)),.agg #[iI tob,iI tv,iI td],iI now] w λe w'=>∃a:Ad,a.q=q/\e=.returned (.tuple #[tp a.S,.nilIface])/\bZ w' a (Sv.a6 tob tv td rs false 0 now)/\Oq q w w'/\∀k,eM w' a k->k=q\/w.heap.size<=k:=by
 have HLN:Hid (rs.length=200->0<q/\iZ w):=hfu;have hle:rs.length<201:=ak;clear hlen hfu;go_in;go_upto_region 1 with fail
 generalize hW:w.alloc (.cells #[.int .i64 tob,.int .i64 tv,.int .i64 td] 29)=w1;have hb1:FF w w1:=by rw[<-hW];exact(au _ _).alloc (aj _) _
 have hs1:w1.heap.size=w.heap.size+1:=by rw[<-hW];simp
 have t0:w1.cell? (FI w 0)=some (iI tob):=by rw[<-hW];exact bN _ _ _ _ _ _ (bo w _)
 have t1:w1.cell? (FI w 1)=some (iI tv):=by rw[<-hW];exact bN _ _ _ _ _ _ (bo w _)
 have t2:w1.cell? (FI w 2)=some (iI td):=by rw[<-hW];exact bN _ _ _ _ _ _ (bo w _)
 clear hW;have hD1:=hD.e hb1 hq;have hop:=Wal.RR hD1 ak;go_wp2_with fail
 refine hop.mono ?_;rintro e w2⟨U,rfl,hL2,hU,hb2⟩;have hD2:=hD1.e hb2 ak;have hs2:=hb2.size;have hU2:=hL2.p;have s0:=(hb2.cell (p:=(FI w 0)) jB).trans t0;have s1:=(hb2.cell (p:=(FI w 1)) jB).trans t1;have s2:=(hb2.cell (p:=(FI w 2)) jB).trans t2;clear hop t0 t1 t2;go_upto_region 4 with fail
 have hln:=Lease.VK w2.drew;rw[show w2.drew.heap.size=w2.heap.size from rfl]at hln;refine Gen.start (S:=λw'=>w'.cell? (FI w 0)=some (iI tob)/\w'.cell? (FI w 1)=some (iI tv)/\w'.cell? (FI w 2)=some (iI td)) bt ⟨s0,s1,s2⟩ (λqH=>?_);refine Gen.tz ?_;refine on 2 λK hK=>?_;go_simp;refine hln.mono ?_;rintro e w3⟨rfl,hT3,hb3,hs3⟩;replace hb3:Below w2.heap.size w2.drew w3:=hb3;dsimp only;have r0:=(hb3.cell (p:=(FI w 0)) jB).trans s0;have r1:=(hb3.cell (p:=(FI w 1)) jB).trans s1;have r2:=(hb3.cell (p:=(FI w 2)) jB).trans s2;refine hK.out _ _ ⟨r0,r1,r2⟩ (λqH=>?_);clear hK K;try simp only[Act.put,ax,aJ,aI]
 refine tk 3 4 qH ?_;go_frame;refine on 4 λK hK=>?_;go_simp;have hb3':FF w2 w3:=⟨hb3.os,hb3.tape,hb3.output,hb3.size,hb3.block⟩;have F:=bZ.a4 (tob:=tob) (tv:=tv) (td:=td) (hL2.e hb3') (hD2.e hb3' ak) hT3 ak hU2 ak;rw[hs3]at F;change K _ (w3.alloc (.cells (WY tob tv td U (w2.heap.size+1)) 144));generalize hW:w3.alloc (.cells (WY tob tv td U (w2.heap.size+1)) 144)=w4;rw[hW]at F;have hb4:FF w3 w4:=by rw[<-hW];exact(au _ _).alloc (aj _) _
 have hs4:w4.heap.size=w3.heap.size+1:=by rw[<-hW];simp
 have hbw:FF w w4:=(hb1.trans (hb2.mono ak)).trans ((hb3'.mono ak).trans (hb4.mono ak));have r0':=(hb4.cell (p:=(FI w 0)) jB).trans r0;have r1':=(hb4.cell (p:=(FI w 1)) jB).trans r1;have r2':=(hb4.cell (p:=(FI w 2)) jB).trans r2;have hft:∀k,eM w4 ⟨q,w2.heap.size+2,U,w2.heap.size+1,w2.heap.size⟩ k->k=q\/w.heap.size<k:=λk f=>by
  rcases f with f|f|f|f|f|⟨v,f1,f2⟩|⟨i,v,hi,f1,f2⟩
  exact .inl f;exact .inr (by dsimp only at f;omega);exact .inr (by dsimp only at f;omega);exact .inr (by dsimp only at f;omega);exact .inr (by dsimp only at f;omega);have:=(F.V f1 f2).1;exact .inr (by dsimp only at this;omega);have:=(F.ac hi f1 f2).1;exact .inr (by dsimp only at this;omega)
 clear hW hL2 hD2 hT3 hb3 hb3' hb4 hD hD1 r0 r1 r2 s0 s1 s2 hln;refine hK.out _ _ ⟨r0',r1',r2'⟩ (λqH=>?_);clear hK K;try simp only[Act.put,ax,aJ,aI]
 refine la 5 λK hK=>?_;go_simp;refine hK.out _ _ ?_;clear hK K qH;obtain⟨a,ha⟩:∃a:Ad,a=⟨q,w2.heap.size+2,U,w2.heap.size+1,w2.heap.size⟩:=⟨_,rfl⟩;have hrec:=Wal.Gd U q rs false w4 (by have:=F.B;exact this) ak;rw[<-ha]at F hft;have aS:a.S=w2.heap.size+2:=by rw[ha]
 have aq:a.q=q:=by rw[ha]
 have aU:a.U=U:=by rw[ha]
 rw[<-aS];have aSl:w.heap.size<=a.S:=ak;clear ha aS;subst aU;subst aq;go_wp2_with fail
 refine hrec.mono ?_;rintro e w5⟨v5,rfl,hrow5,hb5⟩;have F5:=F.h hb5;have hfr5:∀g,v5.ownBlock=some g->¬eM w5 a g:=λg hg=>F.O hb5 (bj hrow5 g hg).1;have hs5:=hb5.size;have hq5:=hbw.trans (hb5.mono ak);have hft5:∀k,eM w5 a k->k=a.q\/w.heap.size<k:=λk f=>hft k (fe (aa (hb5.block a.U F.e.2.1)) (λi _=>aa (hb5.block a.S F.e.2.2.2.2.1)) f);obtain⟨av,cv,hav,hcv,hcn⟩:=Net.cP hrow5;subst hav;have HN:Hid (Nw w5 w5 a (Sv.al tob tv td rs false 0) rs w4.heap.size (.slice av rs.length cv) 0):=⟨F5,Fs.j,hrow5,hfr5⟩;clear hrow5 hfr5 F5 hrec F hcv;go_wp2;go_loopw [29] (λi wr=>∃k:Nat,k<=rs.length/\i = iI k/\Nw w5 wr a (Sv.al tob tv td rs false 0) rs w4.heap.size (.slice av rs.length cv) k) (λi _=>rs.length-(intOf i).toNat)
 case atStart=>exact⟨0,ak,rfl,HN.out⟩
 case round=>
  obtain⟨k,hk,rfl,A⟩:=hrel;by_cases hlt:k<rs.length
  .obtain⟨g,rfl⟩:∃g,av=some (aA g 0):=by
    rcases A.b.2 with⟨e,h0⟩|⟨g,cap,cur,e,_⟩
    omega;injection e with e
    exact⟨g,e⟩
   have hcell:∀j u,(rs[k].h)[j]?=some u->wr.cell? (aA g (k*6+j))=some u:=λj u hu=>by
    have hj:j<6:=by
     have:=(bB.1 hu).1;simpa[Wal.R.h] using this
    have:=bC A.b (k*6+j) ak;rw[this,AG rs k j hlt hj];exact hu
   obtain⟨hc0,ho8⟩:=hbd rs[k] (bp hlt);have HTK:Hid ((rs.take (k+1)).foldl Sv.h (Sv.al tob tv td rs false 0)=((rs.take k).foldl Sv.h (Sv.al tob tv td rs false 0)).h rs[k]):=by
    unfold Hid;rw[bw hlt,EC];rfl
   obtain⟨r,hr⟩:∃r,rs[k]=r:=⟨_,rfl⟩;rw[hr]at hcell hc0 ho8 HTK;have q0:wr.cell? (aA g (k*6))=some (iI r.c):=hcell 0 _ rfl;have q1:=hcell 1 _ rfl;have q2:=hcell 2 _ rfl;have q3:=hcell 3 _ rfl;have q4:=hcell 4 _ rfl;have q5:=hcell 5 _ rfl;have hkI:(k:Int)<(rs.length:Int):=ak;have hkI0:(0:Int)<=(k:Int):=ak;have hap:=Cv r (A.e.j (.cells #[iI r.c,iI r.n,iI r.o,iI r.v,.string r.d,iI r.e] 138)) hc0 ho8;unfold Wal.R.H at hap;have HA:Hid (Nw w5 wr a (Sv.al tob tv td rs false 0) rs w4.heap.size (.slice (some (aA g 0)) rs.length cv) k):=A;have hwr:=A.e;clear A hcell hr;go_wp2_with fail
   generalize hW:wr.alloc (.cells #[.int .i64 r.c,.int .i64 r.n,.int .i64 r.o,.int .i64 r.v,.string r.d,.int .i64 r.e] 138)=w6 at *;have hb6:FF wr w6:=by rw[<-hW];exact(au _ _).alloc (aj _) _
   refine hap.mono ?_;rintro e w7⟨rfl,F7,hF67⟩;have hF6:=HA.out.h.I hwr hb6;have HN7:Hid (Nw w5 w7 a (Sv.al tob tv td rs false 0) rs w4.heap.size (.slice (some (aA g 0)) rs.length cv) (k+1)):=by
    have hr6:=bq HA.out.b hb6;have hsep6:∀x,(Value.slice (some (aA g 0)) rs.length cv).ownBlock=some x->¬eM w6 a x:=λx hx f=>HA.out.i x hx (fe (aa (hb6.block a.U hwr.e.2.1)) (λi _=>aa (hb6.block a.S hwr.e.2.2.2.2.1)) f);exact⟨HTK.out▸F7,hF6.e hF67,aZ hr6 λx hx=>hF67.o x (bj hr6 x hx).2 (hsep6 x hx),λx hx f=>hsep6 x hx (hF67.h x (bj hr6 x hx).2 f)⟩
   clear hap F7 hF67 hF6 hb6 hW HA hwr q0 q1 q2 q3 q4 q5;go_wp2;go_roundw
   case rel=>exact⟨k+1,ak,by go_num,HN7.out⟩
   case measure=>simp[intOf];omega
  .obtain rfl:k=rs.length:=ak;have F:=A.e;have hF:=A.h;rw[fP]at F;obtain⟨so,hso⟩:∃so,Sv.ae tob tv td rs false 0=so:=⟨_,rfl⟩;have HSO:Hid (Sv.ae tob tv td rs false 0=so):=hso;have F':bZ wr a so:=hso▸F;rw[hso]at hep hep1;have hall:=rC rs (Sv.al tob tv td rs false 0);have htv:so.b=tv:=hso▸hall.2.1;have hdn:so.jw=false:=hso▸hall.2.2.2.1;have hfl:so.iD=false:=hso▸hall.2.2.2.2.1;have hlf:so.eK=0:=hso▸hall.2.2.2.2.2.1;have hrs:so.rs=rs:=hso▸hall.2.2.2.2.2.2.2.2.2.2.2.2.2;have hbx:wr.heap[w.heap.size]?=w5.heap[w.heap.size]?:=hF.o _ ak (λf=>by
    rcases hft5 _ f with q|q
    have:=F'.e.1;omega;omega)
   have v1:=(aa (a:=(FI w 1)) hbx).trans ((hb5.cell (p:=(FI w 1)) jB).trans r1');have c5:=F'.c5;have c6:=F'.c6;have f5:=F'.o 5;have f6:=F'.o 6;clear A F hso hall hbx HN;have hw1:IntKind.i64.wrap (now+tv)=now+tv:=jA ak ak;have hw2:IntKind.i64.wrap (so.bR+1)=so.bR+1:=jA ak ak;obtain⟨rd,hrd⟩:∃rd,(if 0<so.bR then now+so.b else so.ge)=rd:=⟨_,rfl⟩;have HRD:Hid ((if 0<so.bR then now+so.b else so.ge)=rd):=hrd;clear hrd;go_upto_if 41 with fail
   go_cut[] from 42 to 48 (λwx=>bZ wx a {so with ge:=rd}/\Fs a wr wx)
   case first=>
    by_cases h0:0<so.bR
    .have HF6:Hid (bZ (wr.setCell (aA a.S 6) (iI (now+tv))) a {so with ge:=rd}/\Fs a wr (wr.setCell (aA a.S 6) (iI (now+tv)))):=⟨by rw[show rd=now+tv by rw[<-HRD.out,aH h0,htv]];exact(F'.af (now+tv)).2.2,(Fs.j).ac F' ak⟩;clear F' htv;go_wp2;all_goals first|omega|(go_meet;exact HF6.out)
    .have HF6:Hid (bZ wr a {so with ge:=rd}/\Fs a wr wr):=⟨by rw[show rd=so.ge by rw[<-HRD.out,ay h0]];exact F',Fs.j⟩;clear F' htv;go_wp2;all_goals first|omega|(go_meet;exact HF6.out)
   case rest=>
    obtain⟨F6,hF6⟩:=hcut;have hF56:=hF.e hF6;have d5:=F6.c5;have e5:=F6.o 5;dsimp only at d5;have F7:bZ (wc.setCell (aA a.S 5) (iI (so.bR+1))) a (so.ai now):=by
     unfold Sv.ai;rw[HRD.out];exact(F6.af (so.bR+1)).2.1
    have hF7:Fs a w5 (wc.setCell (aA a.S 5) (iI (so.bR+1))):=hF56.ac F6 ak;go_upto_region 13 with fail
    generalize wc.setCell ⟨a.S,5,none⟩ (.int .i64 (so.bR+1))=w8 at *;have hadd:=Lj 0 (r:=tZ (so.bR+1)) F7 (by
     have ht:fH (so.bR+1)=true:=Num.fu ak ak;show (fH (so.bR+1)&&_)=true;rw[ht];rfl) (by show 0<=so.eK;omega) (by show so.eK<=_;omega)
    obtain⟨ec,hec,HEC⟩:∃ec,((so.ai now).af (tZ (so.bR+1))).2=ec/\Hid (ec=0\/ec=12/\0<a.q/\iZ w):=by
     refine⟨_,rfl,?_⟩;unfold Sv.af Hid;have k1:(so.ai now).jw=false:=hdn;have k2:(so.ai now).rs=rs:=hrs;have k3:(so.ai now).iD=false:=hfl;rw[ay (by rw[k1];decide)];by_cases hl:rs.length=200;rw[aH (k2▸hl)];exact .inr ⟨rfl,HLN.out hl⟩;rw[ay (k2▸hl),ay (by rw[k3];simp)];exact .inl rfl
    have HZ:Hid (Sv.a6 tob tv td rs false 0 now=((so.ai now).af (tZ (so.bR+1))).1):=by
     unfold Hid Sv.a6;rw[HSO.out];rfl
    rw[hec]at hadd;have d5':=F7.c5;have hde:(so.ai now).bR=so.bR+1:=rfl;rw[hde]at d5';unfold tZ Wal.R.H at hadd;dsimp only at hadd;have HF57:Hid (Fs a w5 w8):=hF7;clear hec F7 F6 hF6 hF56 d5 e5 hF c5 c6 f5 f6 v1 hde;go_wp2_with fail
    refine hadd.mono ?_;rintro e w9⟨rfl,F9,hF9⟩;have hall:Fs a w5 w9:=HF57.out.e hF9;have HP:Hid (∃a':Ad,a'.q=a.q/\tp a.S=tp a'.S/\bZ w9 a' (Sv.a6 tob tv td rs false 0 now)/\Oq a.q w w9/\∀k,eM w9 a' k->k=a.q\/w.heap.size<=k):=by
     refine⟨a,rfl,rfl,HZ.out▸F9,?_,λk f=>?_⟩;refine⟨hall.A.trans hq5.os,hall.u.trans hq5.tape,hall.p.trans hq5.output,aO hq5.size hall.b,λk hk hkq=>?_,λi _ hi=>?_,λi _=>?_,λt ht=>?_⟩;have hk5:k<w5.heap.size:=ak;rw[hall.o k hk5 (λf=>by
      rcases hft5 k f with q|q
      exact hkq q;omega)]
     exact hq5.block k hk;rw[hall.s i hi];exact hq5.cell (p:=(aA a.q i)) hq;rw[hall.x i];exact hq5.frozen (p:=(aA a.q i)) hq;exact hall.y t (by rw[hq5.block a.q hq];exact ht);by_cases hk:k<w5.heap.size;rcases hft5 k (hall.h k hk f) with q|q
     exact .inl q;exact .inr ak;exact .inr ak
    rcases HEC.out with rfl|⟨rfl,hq0,hlaid⟩
    .rw[show eV 0=.nilIface from rfl];clear hadd F9 hF9 hall;go_wp2_with fail
     obtain⟨a',p1,p2,p3,p4,p5⟩:=HP.out;exact bn (v:=.tuple #[tp a.S,.nilIface]) (by simp[results,results123,go_sem]) rfl ⟨a',p1,by rw[<-p2],p3,p4,p5⟩
    rw[show eV 12=.iface 59 (iI 12) from rfl];have hla9:iZ w9:=by
     obtain⟨a',p1,p2,p3,p4,p5⟩:=HP.out;have h0:=hlaid;unfold Bare.iZ at h0⊢;exact(aa (p4.b 0 (Bare.iZ.h hlaid) ak)).trans h0
    have htell:=Bare.zN 12 hla9;have hSl:=F9.e;clear hadd F9 hF9 hall;go_wp2_with fail
    refine htell.mono ?_;rintro e wT⟨rfl,hbT⟩;have HPT:Hid (∃a':Ad,a'.q=a.q/\tp a.S=tp a'.S/\bZ wT a' (Sv.a6 tob tv td rs false 0 now)/\Oq a.q w wT/\∀k,eM wT a' k->k=a.q\/w.heap.size<=k):=by
     obtain⟨a',p1,p2,p3,p4,p5⟩:=HP.out;refine⟨a',p1,p2,p3.h hbT,?_,λk f=>?_⟩;exact p4.H (Oq.e hbT);by_cases hk:k<w9.heap.size;exact p5 k (fe (aa (hbT.block _ p3.e.2.1)) (λi _=>aa (hbT.block _ p3.e.2.2.2.2.1)) f);have:=p4.h;exact .inr ak
    clear HP htell;go_wp2_with fail
    obtain⟨a',p1,p2,p3,p4,p5⟩:=HPT.out;exact bn (v:=.tuple #[tp a.S,.nilIface]) (by simp[results,results123,go_sem]) rfl ⟨a',p1,by rw[<-p2],p3,p4,p5⟩
end Wld
end Go.Proofs.YtbebfliimjjohabGreatDoor
