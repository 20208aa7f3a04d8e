/- Parts of the proof. -/
import Derived.Test.YtbebfliimjjohabGreatDoorM30
set_option maxRecDepth 100000
set_option maxHeartbeats 8000000
set_option linter.all false
open Go.Proofs.Tryz
namespace Go.Proofs.YtbebfliimjjohabGreatDoor open Gen (la on tk)
open Go.RowKit Go.Maps
open Lease (Ob gv gV cL ji fV fg dA kk mx bX eE)
open Cache (tp bp bD)
open Wal (R jf fo dE bW cY Oq Fw)
open Num (M dD gy iC)
open Bare (jC)
open Wire (uJ i5 sH tC)
namespace Wld
theorem Vb{q:Nat}{tob tv td now:Int}{rs:List R}{w:World}(hD:bW w q rs false 0)(hq:q<w.heap.size)(hlen:rs.length<=200)(hfu:rs.length=200->0<q/\jC w)(hbd:∀r∈rs,0<=r.c/\r.o<8)(hep:0<=(Sv.al tob tv td rs false 0).bO)(hep1:(Sv.al tob tv td rs false 0).bO<=1000)(hn0:0<=now)(hn1:now<=549755813888)(hv0:0<=tv)(hv1:tv<=274877906944):
  Calls prog 123 #[.pointer (some (aA q 3)),.agg #[iI tob,iI tv,iI td],iI now] w λe w'=>∃a:Ad,a.q=q/\e=.returned (.tuple #[tp a.S,.nilIface])/\cx w' a (Sv.aq tob tv td rs false 0 now)/\Oq q w w'/\∀k,fy w' a k->k=q\/w.heap.size<=k:=by
 have HLN:Hid (rs.length=200->0<q/\jC w):=hfu
 have hle:rs.length<201:=by omega
 clear hlen hfu
 go_enter func123,ntmps123
 go_upto_region 1 with fail
 generalize hW:w.alloc (.cells #[.int .i64 tob,.int .i64 tv,.int .i64 td] 29)=w1
 have hb1:Below w.heap.size w w1:=by rw[<-hW];exact(au _ _).alloc (aa _) _
 have hs1:w1.heap.size=w.heap.size+1:=by rw[<-hW];simp
 have t0:w1.cell? ⟨w.heap.size,0,none⟩=some (.int .i64 tob):=by rw[<-hW];exact bS _ _ _ _ _ _ (bw w _)
 have t1:w1.cell? ⟨w.heap.size,1,none⟩=some (.int .i64 tv):=by rw[<-hW];exact bS _ _ _ _ _ _ (bw w _)
 have t2:w1.cell? ⟨w.heap.size,2,none⟩=some (.int .i64 td):=by rw[<-hW];exact bS _ _ _ _ _ _ (bw w _)
 clear hW
 have hD1:=hD.e hb1 hq
 have hop:=Wal.TZ hD1 (by omega)
 go_wp2_with fail
 refine hop.mono ?_
 rintro e w2⟨U,rfl,hL2,hU,hb2⟩
 have hD2:=hD1.e hb2 (by omega)
 have hs2:=hb2.size
 have hU2:=hL2.o
 have s0:=(hb2.cell (p:=⟨w.heap.size,0,none⟩) (by dsimp only;omega)).trans t0
 have s1:=(hb2.cell (p:=⟨w.heap.size,1,none⟩) (by dsimp only;omega)).trans t1
 have s2:=(hb2.cell (p:=⟨w.heap.size,2,none⟩) (by dsimp only;omega)).trans t2
 clear hop t0 t1 t2
 go_upto_region 4 with fail
 have hln:=Lease.Xv w2.drew
 rw[show w2.drew.heap.size=w2.heap.size from rfl]at hln
 refine Gen.start (S:=λw'=>w'.cell? ⟨w.heap.size,0,none⟩=some (.int .i64 tob)/\w'.cell? ⟨w.heap.size,1,none⟩=some (.int .i64 tv)/\w'.cell? ⟨w.heap.size,2,none⟩=some (.int .i64 td)) (by kernel_rfl) ⟨s0,s1,s2⟩ (λhHeld=>?_)
 refine tk 0 3 hHeld ?_
 go_frame
 refine tk 1 3 hHeld ?_
 go_frame
 refine on 2 λK hK=>?_
 go_simp
 refine hln.mono ?_
 rintro e w3⟨rfl,hT3,hb3,hs3⟩
 dsimp only
 have r0:=(hb3.cell (p:=⟨w.heap.size,0,none⟩) (by dsimp only;omega)).trans s0
 have r1:=(hb3.cell (p:=⟨w.heap.size,1,none⟩) (by dsimp only;omega)).trans s1
 have r2:=(hb3.cell (p:=⟨w.heap.size,2,none⟩) (by dsimp only;omega)).trans s2
 refine hK.out _ _ ⟨r0,r1,r2⟩ (λhHeld=>?_)
 clear hK K
 try simp only[Act.put,ar,aD,aC]
 refine tk 3 4 hHeld ?_
 go_frame
 refine on 4 λK hK=>?_
 go_simp
 have hb3':Below w2.heap.size w2 w3:=⟨hb3.os,hb3.tape,hb3.output,hb3.size,hb3.block⟩
 have F:=cx.a4 (tob:=tob) (tv:=tv) (td:=td) (hL2.e hb3') (hD2.e hb3' (by omega)) hT3 (by omega) hU2 (by omega)
 rw[hs3]at F
 change K _ (w3.alloc (.cells (YI tob tv td U (w2.heap.size+1)) 144))
 generalize hW:w3.alloc (.cells (YI tob tv td U (w2.heap.size+1)) 144)=w4
 rw[hW]at F
 have hb4:Below w3.heap.size w3 w4:=by rw[<-hW];exact(au _ _).alloc (aa _) _
 have hs4:w4.heap.size=w3.heap.size+1:=by rw[<-hW];simp
 have hbw:Below w.heap.size w w4:=(hb1.trans (hb2.mono (by omega))).trans ((hb3'.mono (by omega)).trans (hb4.mono (by omega)))
 have r0':=(hb4.cell (p:=⟨w.heap.size,0,none⟩) (by dsimp only;omega)).trans r0
 have r1':=(hb4.cell (p:=⟨w.heap.size,1,none⟩) (by dsimp only;omega)).trans r1
 have r2':=(hb4.cell (p:=⟨w.heap.size,2,none⟩) (by dsimp only;omega)).trans r2
 have hft:∀k,fy w4 ⟨q,w2.heap.size+2,U,w2.heap.size+1,w2.heap.size⟩ k->k=q\/w.heap.size<k:=λk f=>by
  rcases f with f|f|f|f|f|⟨v,f1,f2⟩|⟨i,v,hi,f1,f2⟩
  .exact .inl f
  .exact .inr (by dsimp only at f;omega)
  .exact .inr (by dsimp only at f;omega)
  .exact .inr (by dsimp only at f;omega)
  .exact .inr (by dsimp only at f;omega)
  .have:=(F.V f1 f2).1
   exact .inr (by dsimp only at this;omega)
  .have:=(F.ac hi f1 f2).1
   exact .inr (by dsimp only at this;omega)
 clear hW hL2 hD2 hT3 hb3 hb3' hb4 hD hD1 r0 r1 r2 s0 s1 s2 hln
 refine hK.out _ _ ⟨r0',r1',r2'⟩ (λhHeld=>?_)
 clear hK K
 try simp only[Act.put,ar,aD,aC]
 refine la 5 λK hK=>?_
 go_simp
 refine hK.out _ _ ?_
 clear hK K hHeld
 obtain⟨a,ha⟩:∃a:Ad,a=⟨q,w2.heap.size+2,U,w2.heap.size+1,w2.heap.size⟩:=⟨_,rfl⟩
 have hrec:=Wal.Hs U q rs false w4 (by have:=F.F;exact this) (by omega)
 rw[<-ha]at F hft
 have aS:a.S=w2.heap.size+2:=by rw[ha]
 have aq:a.q=q:=by rw[ha]
 have aU:a.U=U:=by rw[ha]
 rw[<-aS]
 have aSl:w.heap.size<=a.S:=by omega
 clear ha aS
 subst aU
 subst aq
 go_wp2_with fail
 refine hrec.mono ?_
 rintro e w5⟨v5,rfl,hrow5,hb5⟩
 have F5:=F.h hb5
 have hfr5:∀g,v5.ownBlock=some g->¬fy w5 a g:=λg hg=>F.O hb5 (bv hrow5 g hg).1
 have hs5:=hb5.size
 have hq5:=hbw.trans (hb5.mono (by omega))
 have hft5:∀k,fy w5 a k->k=a.q\/w.heap.size<k:=λk f=>hft k (fI (aj (hb5.block a.U F.e.2.1)) (λi _=>aj (hb5.block a.S F.e.2.2.2.2.1)) f)
 obtain⟨av,cv,hav,hcv,hcn⟩:=Net.cZ hrow5
 subst hav
 have HN:Hid (Nw w5 w5 a (Sv.ab tob tv td rs false 0) rs w4.heap.size (.slice av rs.length cv) 0):=⟨F5,Fs.j,hrow5,hfr5⟩
 clear hrow5 hfr5 F5 hrec F hcv
 go_wp2_with fail
 go_loopw [29] (λi wr=>∃k:Nat,k<=rs.length/\i=.int .i64 k/\Nw w5 wr a (Sv.ab tob tv td rs false 0) rs w4.heap.size (.slice av rs.length cv) k) (λi _=>rs.length-(intOf i).toNat)
 case atStart=>exact⟨0,by omega,rfl,HN.out⟩
 case round=>
  obtain⟨k,hk,rfl,A⟩:=hrel
  by_cases hlt:k<rs.length
  .obtain⟨g,rfl⟩:∃g,av=some ⟨g,0,none⟩:=by
    rcases A.b.2 with⟨e,h0⟩|⟨g,cap,cur,e,_⟩
    .omega
    .injection e with e
     exact⟨g,e⟩
   have hcell:∀j u,(rs[k].h)[j]?=some u->wr.cell? ⟨g,k*6+j,none⟩=some u:=λj u hu=>by
    have hj:j<6:=by
     have:=(aT.1 hu).1
     simpa[Wal.R.h] using this
    have:=bJ A.b (k*6+j) (by omega)
    rw[this,BB rs k j hlt hj]
    exact hu
   obtain⟨hc0,ho8⟩:=hbd rs[k] (bA hlt)
   have HTK:Hid ((rs.take (k+1)).foldl Sv.h (Sv.ab tob tv td rs false 0)=((rs.take k).foldl Sv.h (Sv.ab tob tv td rs false 0)).h rs[k]):=by
    unfold Hid
    rw[bF hlt,tU]
    rfl
   obtain⟨r,hr⟩:∃r,rs[k]=r:=⟨_,rfl⟩
   rw[hr]at hcell hc0 ho8 HTK
   have q0:wr.cell? ⟨g,k*6,none⟩=some (.int .i64 r.c):=hcell 0 _ rfl
   have q1:=hcell 1 _ rfl
   have q2:=hcell 2 _ rfl
   have q3:=hcell 3 _ rfl
   have q4:=hcell 4 _ rfl
   have q5:=hcell 5 _ rfl
   have hkI:(k:Int)<(rs.length:Int):=by omega
   have hkI0:(0:Int)<=(k:Int):=by omega
   have hap:=DA r (A.e.j (.cells #[.int .i64 r.c,.int .i64 r.n,.int .i64 r.o,.int .i64 r.v,.string r.d,.int .i64 r.e] 138)) hc0 ho8
   unfold Wal.R.H at hap
   have HA:Hid (Nw w5 wr a (Sv.ab tob tv td rs false 0) rs w4.heap.size (.slice (some ⟨g,0,none⟩) rs.length cv) k):=A
   have hwr:=A.e
   clear A hcell hr
   go_wp2_with fail
   generalize hW:wr.alloc (.cells #[.int .i64 r.c,.int .i64 r.n,.int .i64 r.o,.int .i64 r.v,.string r.d,.int .i64 r.e] 138)=w6 at *
   have hb6:Below wr.heap.size wr w6:=by rw[<-hW];exact(au _ _).alloc (aa _) _
   refine hap.mono ?_
   rintro e w7⟨rfl,F7,hF67⟩
   have hF6:=HA.out.h.I hwr hb6
   have HN7:Hid (Nw w5 w7 a (Sv.ab tob tv td rs false 0) rs w4.heap.size (.slice (some ⟨g,0,none⟩) rs.length cv) (k+1)):=by
    have hr6:=bD HA.out.b hb6
    have hsep6:∀x,(Value.slice (some ⟨g,0,none⟩) rs.length cv).ownBlock=some x->¬fy w6 a x:=λx hx f=>HA.out.i x hx (fI (aj (hb6.block a.U hwr.e.2.1)) (λi _=>aj (hb6.block a.S hwr.e.2.2.2.2.1)) f)
    exact⟨by rw[HTK.out];exact F7,hF6.e hF67,bp hr6 λx hx=>hF67.o x (bv hr6 x hx).2 (hsep6 x hx),λx hx f=>hsep6 x hx (hF67.h x (bv hr6 x hx).2 f)⟩
   clear hap F7 hF67 hF6 hb6 hW HA hwr q0 q1 q2 q3 q4 q5
   go_wp2_with fail
   go_roundw
   case rel=>exact⟨k+1,by omega,by go_num,HN7.out⟩
   case measure=>simp[intOf];omega
  .obtain rfl:k=rs.length:=by omega
   have F:=A.e
   have hF:=A.h
   rw[gz]at F
   obtain⟨so,hso⟩:∃so,Sv.al tob tv td rs false 0=so:=⟨_,rfl⟩
   have HSO:Hid (Sv.al tob tv td rs false 0=so):=hso
   have F':cx wr a so:=by rw[<-hso];exact F
   rw[hso]at hep hep1
   have hall:=kQ rs (Sv.ab tob tv td rs false 0)
   have htv:so.b=tv:=by rw[<-hso];exact hall.2.1
   have hdn:so.dS=false:=by rw[<-hso];exact hall.2.2.2.1
   have hfl:so.dX=false:=by rw[<-hso];exact hall.2.2.2.2.1
   have hlf:so.da=0:=by rw[<-hso];exact hall.2.2.2.2.2.1
   have hrs:so.rs=rs:=by rw[<-hso];exact hall.2.2.2.2.2.2.2.2.2.2.2.2.2
   have hbx:wr.heap[w.heap.size]?=w5.heap[w.heap.size]?:=hF.o _ (by omega) (λf=>by
    rcases hft5 _ f with q|q
    .have:=F'.e.1;omega
    .omega)
   have v1:=(aj (a:=⟨w.heap.size,1,none⟩) hbx).trans ((hb5.cell (p:=⟨w.heap.size,1,none⟩) (by dsimp only;omega)).trans r1')
   have c5:=F'.c5
   have c6:=F'.c6
   have f5:=F'.o 5
   have f6:=F'.o 6
   clear A F hso hall hbx HN
   have hw1:IntKind.i64.wrap (now+tv)=now+tv:=jJ (by omega) (by omega)
   have hw2:IntKind.i64.wrap (so.bO+1)=so.bO+1:=jJ (by omega) (by omega)
   obtain⟨rd,hrd⟩:∃rd,(if 0<so.bO then now+so.b else so.gq)=rd:=⟨_,rfl⟩
   have HRD:Hid ((if 0<so.bO then now+so.b else so.gq)=rd):=hrd
   clear hrd
   go_upto_if 41 with fail
   go_cut[] from 42 to 48 (λwx=>cx wx a {so with gq:=rd}/\Fs a wr wx)
   case first=>
    by_cases h0:0<so.bO
    .have HF6:Hid (cx (wr.setCell ⟨a.S,6,none⟩ (.int .i64 (now+tv))) a {so with gq:=rd}/\Fs a wr (wr.setCell ⟨a.S,6,none⟩ (.int .i64 (now+tv)))):=⟨by rw[show rd=now+tv by rw[<-HRD.out,az h0,htv]];exact F'.a6 (now+tv),(Fs.j).ac F' (by omega)⟩
     clear F' htv
     go_wp2_with fail
     all_goals first|omega|(go_meet;exact HF6.out)
    .have HF6:Hid (cx wr a {so with gq:=rd}/\Fs a wr wr):=⟨by rw[show rd=so.gq by rw[<-HRD.out,ax h0]];exact F',Fs.j⟩
     clear F' htv
     go_wp2_with fail
     all_goals first|omega|(go_meet;exact HF6.out)
   case rest=>
    obtain⟨F6,hF6⟩:=hcut
    have hF56:=hF.e hF6
    have d5:=F6.c5
    have e5:=F6.o 5
    dsimp only at d5
    have F7:cx (wc.setCell ⟨a.S,5,none⟩ (.int .i64 (so.bO+1))) a (so.O now):=by
     unfold Sv.O
     rw[HRD.out]
     exact F6.av (so.bO+1)
    have hF7:Fs a w5 (wc.setCell ⟨a.S,5,none⟩ (.int .i64 (so.bO+1))):=hF56.ac F6 (by omega)
    go_upto_region 13 with fail
    generalize wc.setCell ⟨a.S,5,none⟩ (.int .i64 (so.bO+1))=w8 at *
    have hadd:=M8 0 (r:=kc (so.bO+1)) F7 (by
     have ht:fo (so.bO+1)=true:=Num.fX (by omega) (by omega)
     show (fo (so.bO+1)&&_)=true
     rw[ht]
     rfl) (by show 0<=so.da;omega) (by show so.da<=_;omega)
    obtain⟨ec,hec,HEC⟩:∃ec,((so.O now).ac (kc (so.bO+1))).2=ec/\Hid (ec=0\/ec=12/\0<a.q/\jC w):=by
     refine⟨_,rfl,?_⟩
     unfold Sv.ac Hid
     have k1:(so.O now).dS=false:=hdn
     have k2:(so.O now).rs=rs:=hrs
     have k3:(so.O now).dX=false:=hfl
     rw[ax (by rw[k1];decide)]
     by_cases hl:rs.length=200
     .rw[az (by rw[k2];exact hl)]
      exact .inr ⟨rfl,HLN.out hl⟩
     .rw[ax (by rw[k2];exact hl),ax (by rw[k3];simp)]
      exact .inl rfl
    have HZ:Hid (Sv.aq tob tv td rs false 0 now=((so.O now).ac (kc (so.bO+1))).1):=by
     unfold Hid Sv.aq
     rw[HSO.out]
     rfl
    rw[hec]at hadd
    have d5':=F7.c5
    have hde:(so.O now).bO=so.bO+1:=rfl
    rw[hde]at d5'
    unfold kc Wal.R.H at hadd
    dsimp only at hadd
    have HF57:Hid (Fs a w5 w8):=hF7
    clear hec F7 F6 hF6 hF56 d5 e5 hF c5 c6 f5 f6 v1 hde
    go_wp2_with fail
    refine hadd.mono ?_
    rintro e w9⟨rfl,F9,hF9⟩
    have hall:Fs a w5 w9:=HF57.out.e hF9
    have HP:Hid (∃a':Ad,a'.q=a.q/\tp a.S=tp a'.S/\cx w9 a' (Sv.aq tob tv td rs false 0 now)/\Oq a.q w w9/\∀k,fy w9 a' k->k=a.q\/w.heap.size<=k):=by
     refine⟨a,rfl,rfl,by rw[HZ.out];exact F9,?_,λk f=>?_⟩
     .refine⟨hall.A.trans hq5.os,hall.u.trans hq5.tape,hall.p.trans hq5.output,aP hq5.size hall.b,λk hk hkq=>?_,λi _ hi=>?_,λi _=>?_,λt ht=>?_⟩
      .have hk5:k<w5.heap.size:=by omega
       rw[hall.o k hk5 (λf=>by
        rcases hft5 k f with q|q
        .exact hkq q
        .omega)]
       exact hq5.block k hk
      .rw[hall.s i hi]
       exact hq5.cell (p:=⟨a.q,i,none⟩) hq
      .rw[hall.x i]
       exact hq5.frozen (p:=⟨a.q,i,none⟩) hq
      .exact hall.y t (by rw[hq5.block a.q hq];exact ht)
     .by_cases hk:k<w5.heap.size
      .rcases hft5 k (hall.h k hk f) with q|q
       .exact .inl q
       .exact .inr (by omega)
      .exact .inr (by omega)
    rcases HEC.out with rfl|⟨rfl,hq0,hlaid⟩
    .rw[show eV 0=.nilIface from rfl]
     clear hadd F9 hF9 hall
     go_wp2_with fail
     obtain⟨a',p1,p2,p3,p4,p5⟩:=HP.out
     exact bz (v:=.tuple #[tp a.S,.nilIface]) (by simp[results,results123,go_sem]) rfl ⟨a',p1,by rw[<-p2],p3,p4,p5⟩
    rw[show eV 12=.iface 59 (.int .i64 12) from rfl]
    have hla9:jC w9:=by
     obtain⟨a',p1,p2,p3,p4,p5⟩:=HP.out
     have h0:=hlaid
     unfold Bare.jC at h0⊢
     exact(aj (p4.b 0 (Bare.jC.h hlaid) (by omega))).trans h0
    have htell:=Bare.uF 12 hla9
    have hSl:=F9.e
    clear hadd F9 hF9 hall
    go_wp2_with fail
    refine htell.mono ?_
    rintro e wT⟨rfl,hbT⟩
    have HPT:Hid (∃a':Ad,a'.q=a.q/\tp a.S=tp a'.S/\cx wT a' (Sv.aq tob tv td rs false 0 now)/\Oq a.q w wT/\∀k,fy wT a' k->k=a.q\/w.heap.size<=k):=by
     obtain⟨a',p1,p2,p3,p4,p5⟩:=HP.out
     refine⟨a',p1,p2,p3.h hbT,?_,λk f=>?_⟩
     .exact p4.H (Oq.e hbT)
     .by_cases hk:k<w9.heap.size
      .exact p5 k (fI (aj (hbT.block _ p3.e.2.1)) (λi _=>aj (hbT.block _ p3.e.2.2.2.2.1)) f)
      .have:=p4.h
       exact .inr (by omega)
    clear HP htell
    go_wp2_with fail
    obtain⟨a',p1,p2,p3,p4,p5⟩:=HPT.out
    exact bz (v:=.tuple #[tp a.S,.nilIface]) (by simp[results,results123,go_sem]) rfl ⟨a',p1,by rw[<-p2],p3,p4,p5⟩
end Wld
namespace Net
variable{n B:Nat}{t:Bi}{u:Bg}{w:A1}
def Kw{X:A1}{j:Nat}{C:Array Bg}{fr:Nat×Nat}(a:X.heap.size=n):(X.alloc (.cells C t fr)).drew.cell? ⟨n,j,none⟩=C[j]?:=by
 subst a;exact World.cell?_alloc_mark X C t fr j
def ik.Z{q p i:Nat}{a b:A1}(h:ik B t q a b)(l:a.heap.size<=p):ik B t q a (b.setCell ⟨p,i,none⟩ u):=
 ⟨h.x,h.p,h.j,by simpa using h.h,λk g d c=>by rw[aX b (aA p i) u k (by show k≠p;omega)];exact h.b k g d c,
  λk d f g=>(aj (aX b (aA p i) u q (by show q≠p;omega))).trans (h.o k d f g),λk d f=>(aJ (aX b (aA p i) u q (by show q≠p;omega))).trans (h.s k d f),
  λe f c=>by
  have d:=c.elim λ_ c=>c.elim λ_ c=>(am.1 c).1;exact(h.u e f c).imp λ_ k=>k.imp λ_ k=>(aX b (aA p i) u q (by show q≠p;omega)).trans k⟩
def sF(w2:World)(q p g n c:Nat)(tz:Int)(s:ByteArray)(cp:Nat):World:=
 ((((w2.setCell ⟨q,12405,none⟩ (.slice (some ⟨g,0,none⟩) n c)).setCell ⟨p,0,none⟩ (.int .i64 tz)).setCell ⟨p,1,none⟩ (.slice (some ⟨w2.heap.size,0,none⟩) s.size cp)).alloc (.cells (bytesRow s cp) 5 ((bytesRow s cp).size,(bytesRow s cp).size+1))).drew
def TN{w2:A1}{q g c cp:Nat}{o:List (Int×Bh)}{tz:Int}{s:Bh}(k:w2.ownsRow B 201 2 (.slice (some ⟨g,0,none⟩) (n-1) c) (n-1) (cF o))(p:o.length=n-1)(L:n<=200)(l:q<B)(z:B<=w.heap.size)(A:B<=g)(C:g<w.heap.size)(D:ik B 201 q w w2)(E:w2.cell? ⟨q,12405,none⟩=some u){f:Int}(F:w2.cell? ⟨q,12406,none⟩=some (.int .i64 f))(r:∀i,w2.frozen? ⟨q,i,none⟩=false)(d1:w2.cell? ⟨w.heap.size,0,none⟩=some (.int .i64 0))(d2:w2.cell? ⟨w.heap.size,1,none⟩=some (.slice none 0 0))(x:w.heap.size<w2.heap.size)(t:s.size<=cp)(v:cp<=maxLen):
  sH (sF w2 q w.heap.size g (n-1) c tz s cp) (sF w2 q w.heap.size g (n-1) c tz s cp).heap.size (.slice (some ⟨w2.heap.size,0,none⟩) s.size cp) (gy s)/\fm (sF w2 q w.heap.size g (n-1) c tz s cp) B q o/\ik B 201 q w (sF w2 q w.heap.size g (n-1) c tz s cp) /\
   (sF w2 q w.heap.size g (n-1) c tz s cp).cell? ⟨w.heap.size,0,none⟩=some (.int .i64 tz)/\(sF w2 q w.heap.size g (n-1) c tz s cp).cell? ⟨w.heap.size,1,none⟩=some (.slice (some ⟨w2.heap.size,0,none⟩) s.size cp):=by
 have hc:∀b i,b<w2.heap.size->(sF w2 q w.heap.size g (n-1) c tz s cp).cell? (aA b i)=(((w2.setCell (aA q 12405) (.slice (some (aA g 0)) (n-1) c)).setCell (aA w.heap.size 0) (iI tz)).setCell (aA w.heap.size 1) (.slice (some (aA w2.heap.size 0)) s.size cp)).cell? (aA b i):=λb i G=>aH _ _ (aA b i) (by simpa using G);have I:q≠w.heap.size:=by omega
 refine⟨?_,⟨⟨.slice (some (aA g 0)) (n-1) c,?_,?_⟩,?_,λi=>?_,l,?_,by omega⟩,?_,?_,?_⟩;refine⟨_,cp,by rw[Num.dL],by rw[Num.dL];exact t,v,Num.xx (d:=s),λM=>⟨w2.heap.size,0,rfl,by simp[sF],λj y=>?_⟩⟩;rw[Num.dL]at y;rw[b9];have m:= y;have e:(gy s).getD j 0=((s.data[j]).toNat:Int):=by
  unfold Num.gy;rw[aG,di,fh,bj m];rfl
 rw[e,<-(bytesRow_at s cp j m)];exact Kw (by simp);rw[hc _ _ (by omega),ak _ _ _ _ (by intro e;injection e with e;omega),ak _ _ _ _ (by intro e;injection e with e;omega),ay _ _ _ E];rw[p];have J:=iB k (a:=(aA q 12405)) l (.slice (some (aA g 0)) (n-1) c);have K:=ownsRow_setCell_other J (a:=(aA w.heap.size 0)) (by simp[Value.ownBlock];omega) (iI tz);exact(ownsRow_setCell_other K (a:=(aA w.heap.size 1)) (by simp[Value.ownBlock];omega) (.slice (some (aA w2.heap.size 0)) s.size cp)).alloc _;exact⟨f,by rw[hc _ _ (by omega),ak _ _ _ _ (by intro e;injection e with e;omega),ak _ _ _ _ (by intro e;injection e with e;omega),ak _ _ _ _ (by simp),F]⟩;show (World.alloc _ _).frozen? (aA q i)=false;rw[dq _ _ _ (by show q≠_;simp;omega)];simpa using r i;simp[sF];omega;exact((((D.H (by omega) (by omega)).Z (aa _)).Z (aa _)).e).ac;rw[hc _ _ (by omega),ak _ _ _ _ (by simp),ay (h:=by rw[ak _ _ _ _ (by intro e;injection e with e;omega)];exact d1)];rw[hc _ _ (by omega),ay (h:=by rw[ak _ _ _ _ (by simp),ak _ _ _ _ (by intro e;injection e with e;omega)];exact d2)]
def Hi{q:Nat}{a:List (Int×Bh)}{k:Nat}(h:fm w B q a)(z:k<a.length)(A:a[k].2.size<=300):
  Calls prog 63 #[.pointer (some ⟨q,12405,none⟩),.int .i64 k] w λe w'=>∃V,e=.returned (.tuple #[.agg #[.int .i64 a[k].1,V],.nilIface])/\sH w' w'.heap.size V (gy a[k].2)/\fm w' B q (a.eraseIdx k)/\ik B 201 q w w':=by
 have ⟨_,_,_,C,D,d⟩:=h


 have n:=h.h 12405;let ⟨r,E⟩:=h.o
 have t:=h.h;let ⟨g,c,Y,f,G,I,J,K,L⟩:=h.H k z
 have X:kF (k:Int) a.length=true:=xu (by omega) (by omega);have Z:(k:Int)<(a.length:Int):=by omega
 have u:q<w.heap.size:=by omega
 have M:c<=9223372036854775807:=by
  rcases f.2 with⟨h,_⟩|⟨g',ad,aI,he,_,_,_,hm,_⟩
  cases h;injection he with _ _ e3
  subst e3;exact hm
 generalize hp:a[k]=p at *;let ⟨tz,s⟩:=p
 dsimp only at K L A⊢

 have x:=λo=>(aH w o (aA q 12405) u).trans Y;go_enter func63,ntmps63;go_wp2_with (go_at_call 126;refine(ze k d (x _)).mono ?_;rintro e w'⟨rfl,rfl⟩)
 apply (XK z d G M ((f.alloc _).alloc _)).mono;rintro e w2⟨rfl,l,b⟩;have N:=b.size;simp at N;have d0:w2.cell? (aA q 12405)=some (.slice (some (aA g 0)) a.length c):=b.cell ((aH _ _ (aA q 12405) (by simp;omega)).trans (x _)) (by intro e;have e':q=g:=(by injection e);omega);have df:w2.frozen? (aA q 12405)=false:=(aJ (b.block q (by simp;omega) (by intro e;injection e with e;omega))).trans (by rw[dq _ _ _ (by show q≠_;simp;omega),dq _ _ _ (by show q≠_;omega)];exact n);have d1:cC w2 (aA w.heap.size 0) (iI 0):=b.cell (by simp) (by simp;omega);have d2:cC w2 (aA w.heap.size 1) (.slice none 0 0):=b.cell (by simp) (by simp;omega);have d3:cC w2 (aA (w.heap.size+1) 0) (iI tz):=b.cell (by simp) (by simp;omega);have d4:cC w2 (aA (w.heap.size+1) 1) (.string s):=b.cell (by simp) (by simp;omega);have Q:∀i,w2.frozen? (aA w.heap.size i)=false:=λi=>(aJ (b.block w.heap.size (by simp;omega) (by intro e;injection e with e;omega))).trans (by simp);have aS:=λW=>run_bytes_of_string (P:=prog) W 9 61 5 s underlying9 underlying61 underlying5;have j:w.heap.size<w2.heap.size:=by omega
 have k0:∀o,((w2.setCell (aA q 12405) (.slice (some (aA g 0)) (a.length-1) c)).alloc o).cell? (aA w.heap.size 0)=some (iI 0):=λo=>by
  rw[aH _ _ (aA w.heap.size 0) (by simpa using j),ak _ _ _ _ (by intro e;injection e with e;omega),d1]
 have k1:∀o,((w2.setCell (aA q 12405) (.slice (some (aA g 0)) (a.length-1) c)).alloc o).cell? (aA w.heap.size 1)=some (.slice none 0 0):=λo=>by
  rw[aH _ _ (aA w.heap.size 1) (by simpa using j),ak _ _ _ _ (by intro e;injection e with e;omega),d2]
 have kf:∀o i,((w2.setCell (aA q 12405) (.slice (some (aA g 0)) (a.length-1) c)).alloc o).frozen? (aA w.heap.size i)=false:=λo i=>by
  rw[dq _ _ _ (by show w.heap.size≠_;simp;omega),bb,Q]
 have R:=grownCap_ge (w2.setCell (aA q 12405) (.slice (some (aA g 0)) (a.length-1) c)) s.size 0 5;have S:=grownCap_le_maxLen (w2.setCell (aA q 12405) (.slice (some (aA g 0)) (a.length-1) c)) s.size 0 5 (by unfold maxLen;omega);have m:(a.eraseIdx k).length=a.length-1:=gE z;have T:((w.alloc (.cells #[iI 0,.slice none 0 0] 125)).alloc (.cells #[iI tz,.string s] 201)).ownsRow B 201 2 (.slice (some (aA g 0)) a.length c) a.length (cF a):=(f.alloc _).alloc _;have hO:ik B 201 q w w2:=ik.ab (((ik.O).e).e) T b;have dl:cC w2 (aA q 12406) (iI r):=b.cell ((aH _ _ (aA q 12406) (by simp;omega)).trans ((aH _ _ (aA q 12406) u).trans E)) (by intro e;have e':q=g:=(by injection e);omega);have U:∀i,w2.frozen? (aA q i)=false:=λi=>(aJ (b.block q (by simp;omega) (by intro e;injection e with e;omega))).trans (by rw[dq _ _ _ (by show q≠_;simp;omega),dq _ _ _ (by show q≠_;omega)];exact t i);go_wp2_with fail
 generalize grownCap (w2.setCell (aA q 12405) (.slice (some (aA g 0)) (a.length-1) c)) s.size 0 5=y at *;have F:=TN (s:=s) (tz:=tz) (cp:=y) l m d C D I J hO d0 dl U d1 d2 j R S;let ⟨F1,F2,F3,F4,F5⟩:=F
 change bodyPost _ _ _ _ _ (sF w2 q w.heap.size g (a.length-1) c tz s y);generalize sF w2 q w.heap.size g (a.length-1) c tz s y=W at *;exact bz (v:=.tuple #[.agg #[iI tz,.slice (some (aA w2.heap.size 0)) s.size y],.nilIface]) (by simp[results,results63,go_sem,F4,F5]) rfl ⟨_,rfl,F1,F2,F3⟩
end Net
open Net (fm ik cF)
namespace Wld
variable{a:Ad}{b g k n B c m i:Nat}{t:Bi}{s s':Wd}{w w':A1}
def rD(w:World)(k:Nat)(t:TypeId):Prop:=∃a f,w.heap[k]?=some (.cells a t f)
def rD.j{c:Bi}(h:rD w b t)(a:rD w g c)(d:t≠c):b≠g:=by
 let ⟨_,_,h⟩:=h
 let ⟨_,_,a⟩:=a
 exact pr h a d
def rD.H(h:rD w b t):b<w.heap.size:=by
 let ⟨_,_,h⟩:=h
 exact(am.1 h).1
def rD.e(h:rD w b t)(e:w'.heap[b]?=w.heap[b]?):rD w' b t:=by unfold rD;rw[e];exact h
def isM(w:World)(k:Nat):Prop:=∀a t f,w.heap[k]?≠some (.cells a t f)
def isM.e(h:isM w b)(a:rD w g t):b≠g:=by
 rintro rfl;let ⟨_,_,a⟩:=a
 exact h _ _ _ a
def qe{H:Type}{P:Bo}{k:Bi}{R:Bg->Option (DataW H×List MemPlace)}{D:DataW H}(h:w.ownsMap P k R b n D):isM w b:=by
 let ⟨d,a,c,r⟩:=h
 intro g t f e;rw[c]at e;cases e
def dg{e:Bi}{s:Nat}{v:Bg}{xs:List Bg}(h:w.ownsRow B e s v n xs)(a:v.ownBlock=some g):B<=g/\rD w g e:=by
 rcases h.2 with⟨rfl,_⟩|⟨i,b,c,rfl,d,f,_⟩
 simp[Value.ownBlock]at a;simp[Value.ownBlock]at a;subst a;exact⟨d,_,_,f⟩
def bt.ac{k:K}(h:bt w c m k):rD w c 162:=⟨_,_,h.i.e⟩
def bt.af{k:K}(h:bt w c m k):isM w m:=h.p.elim λ_ s=>qe s.1
inductive FootK (w:World) (a:Ad) (k:Nat):Prop where
 |q:k=a.q->FootK w a k
 |m:k=a.m->FootK w a k
 |S:rD w k 144->FootK w a k
 |U:rD w k 296->FootK w a k
 |T:rD w k 301->FootK w a k
 |r:rD w k 138->FootK w a k
 |M:rD w k 129->FootK w a k
def cx.ag{s:Sv}(h:cx w a s)(e:fy w a k):FootK w a k:=by
 rcases e with b|b|b|b|b|⟨v,c,d⟩|⟨i,v,f,c,d⟩
 exact .q b;exact .m b;subst b;exact .S h.y;subst b;exact .U h.F.s;subst b;exact .T h.tt;exact .r (h.V c d).2;exact .M (h.ac f c d).2
def cx.ae{s:Sv}(h:cx w a s)(hs:w.heap.size<=w'.heap.size)(l:bW w' a.q s.rs s.dX s.da)(b:∀k,fy w a k->k≠a.q->w'.heap[k]?=w.heap[k]?):cx w' a s:=by
 have o:=h.e;have r:=h.x;have t:=h.J;have u:=h.W;have y:=h.C;have f:=b a.T (.inr (.inr (.inr (.inr (.inl rfl))))) (by omega);refine h.ah (b a.S (.inr (.inr (.inl rfl))) (by omega)) (WalIs.ab h.F hs (b a.U (.inr (.inr (.inr (.inl rfl)))) (by omega)) λv g c d=>b g (.inr (.inr (.inr (.inr (.inr (.inl ⟨v,c,d⟩)))))) ?_) l (h.p.e f (b a.m (.inr (.inl rfl)) (by omega))) (by rw[f];exact h.tt) λi v j c n=>bp n λg d=>b g (.inr (.inr (.inr (.inr (.inr (.inr ⟨i,v,j,c,d⟩)))))) ?_;have:=(h.V c d).1;omega;have:=(h.ac j c d).1;omega
def jg(b:w'.heap[a.U]?=w.heap[a.U]?)(c:w'.heap[a.S]?=w.heap[a.S]?)(k:Nat):fy w' a k↔fy w a k:=
 ⟨fI (aj b) (λ_ _=>aj c),fI (aj b.symm) (λ_ _=>aj c.symm)⟩
def DiskIs.ab{q:Nat}{m:List R}{f:Bool}{l:Int}(h:bW w q m f l)(e:∀i,3<=i->i<12405->w'.cell? (aA q i)=w.cell? (aA q i))(g:∀i,w'.frozen? (aA q i)=w.frozen? (aA q i)):bW w' q m f l:=by
 have n:=h.t;refine⟨λk a=>⟨(h.j k a).1,λj v r=>?_,λj c=>⟨?_,(g _).trans ((h.j k a).2.2 j c).2⟩⟩,
  λk a j c=>⟨by rw[e _ (by omega) (by omega)];exact(h.s k a j c).1,(g _).trans (h.s k a j c).2⟩,λk y z=>(e _ (by omega) (by omega)).trans (h.u k y z),(e _ (by omega) (by omega)).trans h.b,(e _ (by omega) (by omega)).trans h.o,λi=>(g i).trans (h.p i),h.t,h.x⟩
 have d:=(aT.1 r).1;rw[bH,((h.j k a).1)]at d;exact(e _ (by omega) (by omega)).trans ((h.j k a).2.1 j v r);rw[e _ (by omega) (by omega)];exact((h.j k a).2.2 j c).1
structure Wa where
 Q:Nat
 G:Nat
 c:Nat->Nat
 m:Nat->Nat
 a:Ad
variable{A:Wa}
def eZ(e:Ev):List Value:=[.int .i64 e.b,.int .i64 e.m9,.int .i64 e.rG,.string e.d,.int .i64 e.yO,.bool e.Hy,.bool e.Zk,.int .i64 e.h,.int .i64 e.iA,.int .i64 e.i]
def fS(l:List Ev):List Value:=l.flatMap eZ
def mD(p:Int×M):Int×ByteArray:=(p.1,dD p.2.h)
def LR(A:Wa):Option Sv->Value
 |none=>.pointer none
 |some _=>tp A.a.S
structure sL(w:World)(G i c:Nat)(s:St):Prop where
 b:w.cell? ⟨G,i*4,none⟩=some (tp c)
 h:w.cell? ⟨G,i*4+1,none⟩=some (.int .i64 s.cM)
 o:w.cell? ⟨G,i*4+2,none⟩=some (.int .i64 s.fN)
 j:w.cell? ⟨G,i*4+3,none⟩=some (.int .i64 s.fu)
def sL.e{G:Nat}{s:St}(h:sL w G i c s)(e:w'.heap[G]?=w.heap[G]?):sL w' G i c s:=
 ⟨(aj e).trans h.b,(aj e).trans h.h,(aj e).trans h.o,(aj e).trans h.j⟩
structure xB(w:World)(A:Wa)(s:Wd):Prop where
 h:rD w A.Q 81
 b:∀i,w.frozen? ⟨A.Q,i,none⟩=false
 t:w.cell? ⟨A.Q,0,none⟩=some (.int .i64 s.b)
 u:w.cell? ⟨A.Q,1,none⟩=some (.int .i64 s.i)
 x:w.cell? ⟨A.Q,2,none⟩=some (.int .i64 s.o)
 o:w.cell? ⟨A.Q,12407,none⟩=some (LR A s.sv)
 p:w.cell? ⟨A.Q,12408,none⟩=some (.int .i64 s.cT)
 e:w.cell? ⟨A.Q,12409,none⟩=some (.slice (some ⟨A.G,0,none⟩) s.n s.n)
 j:w.cell? ⟨A.Q,12411,none⟩=some (.int .i64 s.bK)
def xB.H(h:xB w A s)(a:rD w' A.Q 81)(e:∀i,(i<3\/12407<=i)->i≠12410->w'.cell? (aA A.Q i)=w.cell? (aA A.Q i))(g:∀i,w'.frozen? (aA A.Q i)=w.frozen? (aA A.Q i)):xB w' A s:=
 ⟨a,λi=>(g i).trans (h.b i),(e _ (by omega) (by omega)).trans h.t,(e _ (by omega) (by omega)).trans h.u,(e _ (by omega) (by omega)).trans h.x,(e _ (by omega) (by omega)).trans h.o,(e _ (by omega) (by omega)).trans h.p,(e _ (by omega) (by omega)).trans h.e,(e _ (by omega) (by omega)).trans h.j⟩
def xB.I(h:xB w A s)(a:s'.b=s.b)(c:s'.i=s.i)(d:s'.o=s.o)(f:LR A s'.sv=LR A s.sv)(g:s'.cT=s.cT)(k:s'.n=s.n)(l:s'.bK=s.bK):xB w A s':=
 ⟨h.h,h.b,by rw[a];exact h.t,by rw[c];exact h.u,by rw[d];exact h.x,by rw[f];exact h.o,by rw[g];exact h.p,by rw[k];exact h.e,by rw[l];exact h.j⟩
structure aeC(w:World)(A:Wa)(s:Wd)(v:Sv):Prop where
 b:cx w A.a v
 q:A.a.q=A.Q
 j:v.rs=s.rs
 e:v.dX=s.oP
 h:v.da=s.tR
 o:∀i,i<s.n->A.m i≠A.a.m
 p:v.i=s.b
 t:v.b=s.i
structure bM(w:World)(A:Wa)(s:Wd):Prop where
 b:xB w A s
 y:bW w A.Q s.rs s.oP s.tR
 p:fm w (A.Q+1) A.Q (s.dM.map mD)
 x:∃v,w.cell? ⟨A.Q,12410,none⟩=some v/\w.ownsRow (A.Q+1) 45 10 v s.ba.length (fS s.ba)
 u:rD w A.G 90
 C:∀i,w.frozen? ⟨A.G,i,none⟩=false
 e:∀i,i<s.n->sL w A.G i (A.c i) (s.aI i)
 o:∀i,i<s.n->bt w (A.c i) (A.m i) (s.aI i).k
 J:∀i j,i<s.n->j<s.n->i≠j->A.c i≠A.c j/\A.m i≠A.m j
 t:∀v,s.sv=some v->aeC w A s v
 F:1<=s.n
 B:s.n<=4
inductive wfoot (w:World) (A:Wa) (s:Wd) (k:Nat):Prop where
 |Q:k=A.Q->wfoot w A s k
 |G:k=A.G->wfoot w A s k
 |ev:∀v,w.cell? ⟨A.Q,12410,none⟩=some v->v.ownBlock=some k->wfoot w A s k
 |c:∀i,i<s.n->k=A.c i->wfoot w A s k
 |m:∀i,i<s.n->k=A.m i->wfoot w A s k
 |sv:s.sv.isSome=true->fy w A.a k->wfoot w A s k
structure Fz(A:Wa)(s:Wd)(w:World)(A':Wa)(s':Wd)(w':World):Prop where
 t:w'.os=w.os
 o:w'.tape=w.tape
 b:w'.output=w.output
 i:w.heap.size<=w'.heap.size
 p:∀k,k<w.heap.size->¬wfoot w A s k->¬(A.Q<k/\rD w k 201)->w'.heap[k]?=w.heap[k]?
 j:∀k,k<w.heap.size->wfoot w' A' s' k->wfoot w A s k
 Q:A'.Q=A.Q
def Fz.H{a:Wa}(h:Fz A s w a s' w')(b:k<w.heap.size)(c:¬wfoot w A s k)(d:¬rD w k 201):w'.heap[k]?=w.heap[k]?:=h.p k b c λq=>d q.2
def Fz.h:Fz A s w A s w:=⟨rfl,rfl,rfl,aa _,λ_ _ _ _=>rfl,λ_ _ h=>h,rfl⟩
def Fz.e{B C:Wa}{r t:Wd}{x y z:A1}(h:Fz A r x B s y)(k:Fz B s y C t z):Fz A r x C t z:=
 ⟨k.t.trans h.t,k.o.trans h.o,k.b.trans h.b,aP h.i k.i,
  λi a c d=>by
   have e:=h.p i a c d;exact(k.p i (aO a h.i) (λf=>c (h.j i a f)) (λq=>d ⟨by rw[<-h.Q];exact q.1,q.2.e e.symm⟩)).trans e,
  λi a f=>h.j i a (k.j i (aO a h.i) f),k.Q.trans h.Q⟩
def bM.I(h:bM w A s):A.Q<w.heap.size:=h.b.h.H
def bM.H(h:bM w A s):A.Q≠A.G/\(∀i,i<s.n->A.Q≠A.c i/\A.Q≠A.m i/\A.G≠A.c i/\A.G≠A.m i)/\(∀i j,i<s.n->j<s.n->A.c i≠A.m j):=
 ⟨h.b.h.j h.u (by decide),λi a=>⟨h.b.h.j (h.o i a).ac (by decide),λe=>(h.o i a).af.e h.b.h e.symm,h.u.j (h.o i a).ac (by decide),λe=>(h.o i a).af.e h.u e.symm⟩,
  λi j a d e=>(h.o j d).af.e (h.o i a).ac e.symm⟩
def cx.af{s:Sv}(h:cx w a s)(c:rD w k t)(g:k≠a.q)(d:t≠144/\t≠296/\t≠301/\t≠138/\t≠129):¬fy w a k:=λf=>by
 rcases h.ag f with f|f|f|f|f|f|f
 exact g f;exact(qe h.p.b).e c f.symm;exact c.j f d.1 rfl;exact c.j f d.2.1 rfl;exact c.j f d.2.2.1 rfl;exact c.j f d.2.2.2.1 rfl;exact c.j f d.2.2.2.2 rfl
def cx.aq{s:Sv}(h:cx w a s)(b:isM w k)(c:k≠a.q)(d:k≠a.m):¬fy w a k:=λf=>by
 rcases h.ag f with f|f|f|f|f|f|f
 exact c f;exact d f;exact b.e f rfl;exact b.e f rfl;exact b.e f rfl;exact b.e f rfl;exact b.e f rfl
def NetIs.ab{q:Nat}{b:List (Int×Bh)}(h:fm w B q b)(hs:w.heap.size<=w'.heap.size)(d:w'.cell? (aA q 12405)=w.cell? (aA q 12405))(e:w'.cell? (aA q 12406)=w.cell? (aA q 12406))(f:∀i,w'.frozen? (aA q i)=w.frozen? (aA q i))(j:∀v g,cC w (aA q 12405) v->v.ownBlock=some g->w'.heap[g]?=w.heap[g]?):fm w' B q b:=by
 obtain⟨⟨v,c,a⟩,⟨l,k⟩,m,n,o,p⟩:=h;exact⟨⟨v,d.trans c,bp a λg r=>j v g c r⟩,⟨l,e.trans k⟩,λi=>(f i).trans (m i),n,aP o hs,p⟩
def bM.h(h:bM w A s)(d:Below w.heap.size w w'):bM w' A s/\Fz A s w A s w':=by
 have z:=d.block A.Q h.I;have n:∀i,w'.cell? (aA A.Q i)=w.cell? (aA A.Q i):=λi=>aj z;have K:∀i,w'.frozen? (aA A.Q i)=w.frozen? (aA A.Q i):=λi=>aJ z;have D:=d.block A.G h.u.H;refine⟨⟨h.b.H (h.b.h.e z) (λi _ _=>n i) K,DiskIs.ab h.y (λi _ _=>n i) K,h.p.e d,h.x.imp λv l=>⟨(n _).trans l.1,bD l.2 d⟩,h.u.e D,λi=>(aJ (a:=(aA A.G i)) D).trans (h.C i),λi g=>(h.e i g).e D,λi g=>(h.o i g).ab d,h.J,λv l=>?_,h.F,h.B⟩,⟨d.os,d.tape,d.output,d.size,λk L _ _=>d.block k L,λk L f=>?_,rfl⟩⟩;have u:=h.t v l;exact⟨u.b.h d,u.q,u.j,u.e,u.h,u.o,u.p,u.t⟩;rcases f with f|f|⟨v,r,E⟩|⟨i,g,f⟩|⟨i,g,f⟩|⟨r,E⟩
 exact .Q f;exact .G f;exact .ev v ((n _).symm.trans r) E;exact .c i g f;exact .m i g f;obtain⟨v,l⟩:=aV.1 r;have u:=h.t v l;exact .sv r ((jg (d.block _ u.b.e.2.1) (d.block _ u.b.e.2.2.2.2.1) k).1 E)
def bM.O(h:bM w A s)(l:i<s.n){U:K}(L:bt w' (A.c i) (A.m i) U)(P:Ob [A.c i,A.m i] w w'):bM w' A (s.ab i U)/\Fz A s w A (s.ab i U) w':=by
 let ⟨_,M,V⟩:=h.H
 have R:∀k,k<w.heap.size->k≠A.c i->k≠A.m i->w'.heap[k]?=w.heap[k]?:=λk L h1 h2=>P.b k L (by simp[h1,h2]);have hQ:=R A.Q h.I (M i l).1 (M i l).2.1;have S:∀i,w'.cell? (aA A.Q i)=w.cell? (aA A.Q i):=λi=>aj hQ;have X:∀i,w'.frozen? (aA A.Q i)=w.frozen? (aA A.Q i):=λi=>aJ hQ;have Y:=R A.G h.u.H (M i l).2.2.1 (M i l).2.2.2;have hc:=(h.o i l).ac;have d:∀g t,rD w g t->t≠162->w'.heap[g]?=w.heap[g]?:=λg t T ht=>R g T.H (T.j hc ht) (λe=>((h.o i l).af).e T e.symm);have r:∀v,s.sv=some v->∀k,fy w A.a k->k≠A.a.q->w'.heap[k]?=w.heap[k]?:=λv z k L hq=>by
  have u:=h.t v z;rcases u.b.ag L with f|f|f|f|f|f|f
  exact(hq f).elim;subst f;exact R _ (u.b.H L) (λe=>(qe u.b.p.b).e hc e) (λe=>u.o i l e.symm);exact d k _ f (by decide);exact d k _ f (by decide);exact d k _ f (by decide);exact d k _ f (by decide);exact d k _ f (by decide)
 have D:∀j,j≠i->(s.ab i U).aI j=s.aI j:=λj E=>cU E;have W:(s.ab i U).aI i = {s.aI i with k:=U}:=cy;refine⟨⟨(h.b.H (h.b.h.e hQ) (λi _ _=>S i) X).I rfl rfl rfl rfl rfl rfl rfl,DiskIs.ab h.y (λi _ _=>S i) X,NetIs.ab h.p P.i (S _) (S _) X ?_,h.x.imp λv z=>⟨(S _).trans z.1,bp z.2 λg T=>d g _ (dg z.2 T).2 (by decide)⟩,h.u.e Y,λi=>(aJ (a:=(aA A.G i)) Y).trans (h.C i),λj E=>?_,λj E=>?_,h.J,λv z=>?_,h.F,h.B⟩,⟨P.s,P.p,P.o,P.i,λk L hf _=>R k L (λe=>hf (.c i l e)) (λe=>hf (.m i l e)),λk L f=>?_,rfl⟩⟩;intro v g z T;let ⟨v',N,hr⟩:=h.p.b
 rw[z]at N;injection N with N
 subst N;exact d g _ (dg hr T).2 (by decide);by_cases e:j=i;subst e;rw[W];have q:=(h.e j l).e Y;exact⟨q.b,q.h,q.o,q.j⟩;rw[D j e];exact(h.e j E).e Y;by_cases e:j=i;subst e;rw[W];exact L;rw[D j e];have ne:=h.J j i E l e;exact(h.o j E).j (R _ (h.o j E).H.1 ne.1 (V j i E l)) (R _ (h.o j E).H.2 (λq=>V i j l E q.symm) ne.2);have u:=h.t v z;exact⟨u.b.ae P.i (by rw[u.q,u.j,u.e,u.h];exact DiskIs.ab h.y (λi _ _=>S i) X) (r v z),u.q,u.j,u.e,u.h,u.o,u.p,u.t⟩;rcases f with f|f|⟨v,Z,f2⟩|⟨i,l,f⟩|⟨i,l,f⟩|⟨Z,f2⟩
 exact .Q f;exact .G f;exact .ev v ((S _).symm.trans Z) f2;exact .c i l f;exact .m i l f;let ⟨v,z⟩:=aV.1 Z
 have hl:=(h.t v z).b.e;exact .sv Z ((jg (r v z _ (.inr (.inr (.inr (.inl rfl)))) (by omega)) (r v z _ (.inr (.inr (.inl rfl))) (by omega)) k).1 f2)
end Wld
end Go.Proofs.YtbebfliimjjohabGreatDoor
