/- Parts of the proof. -/
import Derived.Test.YtbebfliimjjohabGreatDoorM28
import Derived.Deep.CutBlock
set_option maxRecDepth 100000
set_option maxHeartbeats 8000000
set_option linter.all false
open Go.Proofs.Tryz
namespace Go.Proofs.YtbebfliimjjohabGreatDoor
open Go Go.RowKit Go.Maps
open Lease (Ob gv gV cL ji fV fg dA kk mx)
open Cache (tp bp bD)
open Wal (R jf fo)
open Num (M)
namespace Gen
variable{ops:Array Oper}{Q:Exit->Act->A1->Prop}{P:Bo}{md:Region.Mode}{S:A1->Prop}
def oneG{i:Nat}{o:Oper}{d:Option Tmp}{e:Op}{f:Bi}{k:String}{af:Array Edge}{g:Nat×Bool}{c:Nat}{b:Array Bool}{a:Act}{w:A1}(m:Region.ready md ops b=[i])(q:ops[i]?=some o)(l:o=⟨d,e,f,k,af,some g⟩)(r:Region.wanted ⟨d,e,f,k,af,some g⟩ (yielded ops a.tmps)=true)(h:∀K:Act->A1->Prop,Shut (∀a w,S w->(S w->anyM P md ops Q S c (b.setIfInBounds i true) a w)->K a w)->Oper.wp P ⟨d,e,f,k,af,some g⟩ a w K Q):anyM P md ops Q S (c+1) b a w:=by
 subst l;refine⟨λh0=>(by rw[m]at h0;cases h0),λj n=>?_⟩;rw[m]at n;obtain rfl:=aL.1 n;unfold wpOp;simp only[q,r,dC];exact .inl (h _ (λa w p s=>⟨λ_=>p,s p⟩))
end Gen
namespace Wld
variable{a:Ad}{now:Int}{m:M}{p o:Nat}{s:Sv}{w y:A1}
def jJ{x:Int}(h0:-9223372036854775808<=x)(a:x<=9223372036854775807):IntKind.i64.wrap x=x:=by
 simp[IntKind.wrap,IntKind.signed,IntKind.bits];omega
def MB.V(h:MB w p m)(b:Bool):MB (w.setCell (aA p 7) (.bool b)) p {m with l:=b}:=by
 have e:∀j,j≠7->(w.setCell (aA p 7) (.bool b)).cell? (aA p j)=w.cell? (aA p j):=λj a=>ak _ _ _ _ (by intro q;injection q with _ q;exact a q.symm);exact⟨(e _ (by omega)).trans h.y,(e _ (by omega)).trans h.i,(e _ (by omega)).trans h.u,(e _ (by omega)).trans h.j,(e _ (by omega)).trans h.p,(e _ (by omega)).trans h.h,(e _ (by omega)).trans h.t,ay _ _ _ h.x,(e _ (by omega)).trans h.A⟩
def MB.O(h:MB w p m):MB w.drew p m:=⟨h.y,h.i,h.u,h.j,h.p,h.h,h.t,h.x,h.A⟩
structure Rd(w wx:World)(a:Ad)(s:Sv)(m:M)(o:Nat)(now:Int)(p:Nat):Prop where
 t:cx wx a (s.a2 m o now)
 i:Fs a w wx
 b:MB wx p (s.a6 m o)
 j:w.heap.size<=p
 u:p<wx.heap.size
def Rd.e{m':M}{b:Bool}(h:cx y a (s.a2 m o now))(g:Fs a w y)(i:MB y p m')(j:¬fy y a p)(d:p<y.heap.size)(n:w.heap.size<=p)(q:s.a6 m o = {m' with l:=b}):Rd w (y.setCell (aA p 7) (.bool b)) a s m o now p:=by
 obtain⟨k1,r⟩:=g.Z h (z:=y.setCell (aA p 7) (.bool b)) rfl rfl rfl (by simp) (λk f c=>(λk f=>aX y (aA p 7) (.bool b) k f) k (λe=>by
  subst e;rcases c with c|c
  omega;exact j c))
 exact⟨r,k1,by rw[q];exact i.V b,n,by simpa using d⟩
def Rd.h(h:Rd w y a s m o now p):Rd w y.drew a s m o now p:=⟨h.t.I,h.i.V,h.b.O,h.j,h.u⟩
def gI.one(m:M)(h:cx y a s)(f:Fs a w y):gI w (y.alloc (.cells #[iI m.k,iI m.c,iI m.n,iI m.e,iI m.s,iI m.o,iI m.v,.bool m.l,.string m.d] 129)) a (.slice (some (aA y.heap.size 0)) 1 1) s [m]:=
 ⟨⟨iy.one y m f.b,λg i=>by
  simp[Value.ownBlock]at i;subst i;exact h.O ((au _ _).alloc (aa _) _) (aa _)⟩,h.j _,f.O h _⟩
def QT(mk mc mn me ms mv:Int)(ml:Bool)(md:Bh)(h:cx w a s)(ho:o<8)(hc:0<=mc)(da:0<=now)(dd:now<=549755813888)(df:0<=s.i)(dk:s.i<=274877906944)(hn:s.n<1000000000000000):
  Calls prog 185 #[tp a.S,Wire.M.ab ⟨mk,mc,mn,me,ms,o,mv,ml,md⟩,iI now] w λe G=>∃v,e=.returned v/\gI w G a v (s.a3 ⟨mk,mc,mn,me,ms,o,mv,ml,md⟩ o now).1 (s.a3 ⟨mk,mc,mn,me,ms,o,mv,ml,md⟩ o now).2:=by
 have hB:MB (dW w mk mc mn me ms o mv ml md) w.heap.size ⟨mk,mc,mn,me,ms,o,mv,ml,md⟩:=ie w;have F:cx (dW w mk mc mn me ms o mv ml md) a s:=h.j _;have hF:Fs a w (dW w mk mc mn me ms o mv ml md):=(Fs.j).O h _;have ci:¬fy (dW w mk mc mn me ms o mv ml md) a w.heap.size:=h.O ((au _ _).alloc (aa _) _) (aa _);have a1:(dW w mk mc mn me ms o mv ml md).heap.size=w.heap.size+1:=by simp
 have dl:(0:Int)<=(o:Int):=by omega
 have dm:(o:Int)<8:=by omega
 have cG:a.m<w.heap.size:=h.e.2.2.1;unfold dW at *;unfold Wire.M.ab;dsimp only;clear h;go_enter func185,ntmps185;go_upto_region 1 with fail
 generalize w.alloc (.cells #[.int .i64 mk,.int .i64 mc,.int .i64 mn,.int .i64 me,.int .i64 ms,.int .i64 o,.int .i64 mv,.bool ml,.string md] 129)=w1 at *;have b5:=hB.h;dsimp only at b5;have cv:=F.vv o ho;have cd:=F.vd o ho;have ba:=F.lt;have dn:a.S≠w1.heap.size:=by omega
 have cM:w.heap.size≠w1.heap.size:=by omega
 have dr:=λob=>(aH w1 ob ⟨a.S,7+o*2+1,none⟩ ba).trans cv;have ds:=λob=>(aH w1 ob ⟨a.S,7+o*2,none⟩ ba).trans cd;have dt:=λob=>(aH w1 ob ⟨w.heap.size,5,none⟩ (by dsimp only;omega)).trans b5;go_region;go_upto_region 2 with fail
 generalize J:(w1.alloc (.cells #[.string (s.vd o),.int .i64 (s.vv o)] 41)).drew=w2;have z:Below w1.heap.size w1 w2:=by rw[<-J];exact((au _ _).alloc (aa _) _).drew
 have dv:w2.heap.size=w.heap.size+2:=by rw[<-J];show (w1.alloc _).heap.size=_;simp;omega
 have x0:w2.cell? ⟨w.heap.size+1,0,none⟩=some (.string (s.vd o)):=by
  rw[<-J,<-a1];exact bS _ _ _ _ _ _ (bw w1 _)
 have x1:w2.cell? ⟨w.heap.size+1,1,none⟩=some (.int .i64 (s.vv o)):=by
  rw[<-J,<-a1];exact bS _ _ _ _ _ _ (bw w1 _)
 have F2:=F.h z;have bc:=hF.I F z;have l:=hB.e z (by omega);have W:¬fy w2 a w.heap.size:=λf=>ci ((fI (aj (z.block a.U F.e.2.1)) (λi _=>aj (z.block a.S F.e.2.2.2.2.1))) f);have bg:¬fy w2 a (w.heap.size+1):=F.O z (by omega);have b0:=l.y;have C:=l.i;have b2:=l.u;have b3:=l.j;have b4:=l.p;have b5:=l.h;have b6:=l.t;have b7:=l.x;have b8:=l.A;dsimp only at b0 C b2 b3 b4 b5 b6 b7 b8;have L:=uM (a:=a) (s:=s) 5 ⟨mk,mc,mn,me,ms,o,mv,ml,md⟩ (w:=w2) F2 hc;unfold Wire.M.ab Sv.ao at L;dsimp only at L;go_wp2_with fail
 refine L.mono ?_;rintro e w3⟨rfl,q⟩;clear L;have dy:=q.size;have F3:=F2.h q;have ck:=bc.I F2 q;have Y:=l.e q (by omega);have ad:=F2.e;have cT:¬fy w3 a w.heap.size:=λf=>W ((fI (aj (q.block a.U ad.2.1)) (λi _=>aj (q.block a.S ad.2.2.2.2.1))) f);have y0:=(q.cell (p:=⟨w.heap.size+1,0,none⟩) (by dsimp only;omega)).trans x0;have y1:=(q.cell (p:=⟨w.heap.size+1,1,none⟩) (by dsimp only;omega)).trans x1;clear l F2 bc W bg x0 x1 b0 C b2 b3 b4 b5 b6 b7 b8 ad q;have C:=Y.i;have b5:=Y.h;dsimp only at C b5;have n0:w.heap.size≠w3.heap.size:=by omega
 have n1:w.heap.size+1≠w3.heap.size:=by omega
 have z1:=λob=>(aH w3 ob ⟨w.heap.size+1,0,none⟩ (by dsimp only;omega)).trans y0;have z2:=λob=>(aH w3 ob ⟨w.heap.size+1,1,none⟩ (by dsimp only;omega)).trans y1;have z3:=λob=>(aH w3 ob ⟨w.heap.size,5,none⟩ (by dsimp only;omega)).trans b5;go_upto_region 3 with fail
 go_region;go_upto_region 4 with fail
 generalize J:(w3.alloc (.cells #[.int .i64 5,.int .i64 mc,.int .i64 mn,.int .i64 s.bO,.int .i64 (s.iu (bx mc:Nat)),.int .i64 o,.int .i64 (s.vv o),.bool false,.string (s.vd o)] 129)).drew=w4;have N:Below w3.heap.size w3 w4:=by rw[<-J];exact((au _ _).alloc (aa _) _).drew
 have dz:w4.heap.size=w3.heap.size+1:=by rw[<-J];show (w3.alloc _).heap.size=_;simp
 have g:MB w4 w3.heap.size ⟨5,mc,mn,s.bO,s.iu (bx mc:Nat),o,s.vv o,false,s.vd o⟩:=by
  rw[<-J];have:=ie w3 (mk:=5) (mc:=mc) (mn:=mn) (me:=s.bO) (ms:=s.iu (bx mc:Nat)) (mo:=o) (mv:=s.vv o) (ml:=false) (md:=s.vd o);exact⟨this.y,this.i,this.u,this.j,this.p,this.h,this.t,this.x,this.A⟩
 have bK:∀i,w4.frozen? ⟨w3.heap.size,i,none⟩=false:=λi=>by rw[<-J];show (w3.alloc _).frozen? _=_;simp
 have H:=F3.h N;have aI:=ck.I F3 N;have aS:=Y.e N (by omega);have dM:=F3.e;have E:¬fy w4 a w3.heap.size:=F3.O N (by omega);have C:=aS.i;have b5:=aS.h;have a7:=g.x;have f7:=bK 7;dsimp only at C b5 a7;obtain⟨vw,r,bR⟩:=H.b o ho;obtain⟨aw,cw,rfl,cl,_⟩:=Net.cZ bR;have cW:=H.B o ho;have P:=H.A;have c0:=H.c0;have m0:w.heap.size≠w3.heap.size:=by omega
 have m1:a.S≠w3.heap.size:=by omega
 clear cl;go_cut[] from 28 to 57 (λwx=>Rd w wx a s ⟨mk,mc,mn,me,ms,o,mv,ml,md⟩ o now w3.heap.size)
 case first=>
  by_cases hz:(s.waits o).length=0
  .rw[hz]at r;have dN:=mJ mc;have a0:=λw=>oz (id:=mc) w hc;obtain⟨x,hx⟩:=Lease.mf (t:=298) H.p.b Lease.xr underlying298 (Lease.Pr (c:=(bx mc:Nat)) (o:=o) ⟨by omega,by omega⟩ ⟨by omega,by omega⟩);have cb:=Lease.aaP (t:=a.T) (m:=a.m) (n:=s.n) (c:=(bx mc:Nat)) (o:=o) (u:=now+s.i) (D:=s.D) (v:=s.mR) (s:=s.iu) (x:=x) (w:=w4.drew) H.I.p (by omega) (Num.fX (by omega) (by omega)) (Num.fX (by omega) (by omega)) (Num.fX (by omega) (by omega)) hx;have dS:IntKind.i64.wrap (now+s.i)=now+s.i:=jJ (by omega) (by omega);refine Gen.start (S:=λG=>G.cell? ⟨w.heap.size,5,none⟩=some (.int .i64 o)/\G.cell? ⟨a.S,48+o,none⟩=some (.slice aw 0 cw)/\G.cell? ⟨a.S,47,none⟩=some (tp a.T)/\G.cell? ⟨w.heap.size,1,none⟩=some (.int .i64 mc)/\G.cell? ⟨a.S,0,none⟩=some (.int .i64 s.i)) (by kernel_rfl) ⟨b5,r,P,C,c0⟩ (λd=>?_);refine Gen.tk 0 3 d ?_;go_frame;refine Gen.tk 1 2 d ?_;go_frame;refine Gen.tk 2 5 d ?_;go_frame;refine Gen.tk 3 4 d ?_;go_frame;refine Gen.tk 4 5 d ?_;go_frame;refine Gen.tk 5 6 d ?_;go_frame;refine Gen.tk 6 7 d ?_;go_frame;refine Gen.tk 7 8 d ?_;go_frame;refine Gen.tk 8 9 d ?_;go_frame;refine Gen.tk 9 10 d ?_;go_frame;refine Gen.tk 10 11 d ?_;go_frame;refine Gen.tk 11 12 d ?_;go_frame;refine Gen.tk 12 13 d ?_;go_frame;refine Gen.tk 13 26 d ?_;go_frame;refine Gen.tk 14 15 d ?_;go_frame;refine Gen.tk 15 16 d ?_;go_frame;refine Gen.tk 17 18 d ?_;go_frame;refine Gen.tk 18 26 d ?_;go_frame;refine Gen.tk 19 25 d ?_;go_frame;refine Gen.tk 20 21 d ?_;go_frame;refine Gen.tk 21 22 d ?_;go_frame;refine Gen.tk 22 23 d ?_;go_frame;refine Gen.tk 23 24 d ?_;go_frame;refine Gen.tk 24 25 d ?_;go_frame;refine Gen.tk 25 26 d ?_;go_frame;refine Gen.oneG (i:=16) (by kernel_rfl) rfl rfl (by rfl) (λK Q=>?_);go_simp;refine(a0 _).mono ?_;rintro e X⟨rfl,cc⟩;rw[cc];clear cc;dsimp only;refine Q.out _ _ ⟨b5,r,P,C,c0⟩ (λd=>?_);try simp only[Act.put,ar,aD,aC]
   refine Gen.oneG (i:=26) (by kernel_rfl) rfl rfl (by rfl) (λK Q=>?_);go_simp;refine cb.mono ?_;rintro e X⟨rfl,co,R⟩;dsimp only;have e5:∀k,k≠a.m->k<w4.heap.size->X.heap[k]?=w4.heap[k]?:=λk hk hl=>R.b k hl (by simpa using hk);have eS:=e5 a.S (by omega) (by omega);have eB:=e5 w.heap.size (by omega) (by omega);have eA:=e5 w3.heap.size (by omega) (by omega);have q5:=(aj (a:=⟨w.heap.size,5,none⟩) eB).trans b5;have q1:=(aj (a:=⟨w.heap.size,1,none⟩) eB).trans C;have qw:=(aj (a:=⟨a.S,48+o,none⟩) eS).trans r;have cp:=(aj (a:=⟨a.S,47,none⟩) eS).trans P;have q0:=(aj (a:=⟨a.S,0,none⟩) eS).trans c0;have q7:=(aj (a:=⟨w3.heap.size,7,none⟩) eA).trans a7;have qf:=(aJ (a:=⟨w3.heap.size,7,none⟩) eA).trans f7;have F5:cx X a (s.a2 ⟨mk,mc,mn,me,ms,o,mv,ml,md⟩ o now):=by
    have:=H.I.an co (R.Z (by simp));unfold Sv.a2 Zr;rw[az hz];dsimp only;rw[hx];exact this
   have cs:Fs a w X:=aI.V.ob H.I (R.Z (by simp));have ct:MB X w3.heap.size ⟨5,mc,mn,s.bO,s.iu (bx mc:Nat),o,s.vv o,false,s.vd o⟩:=by
    have e:∀j,X.cell? ⟨w3.heap.size,j,none⟩=w4.cell? ⟨w3.heap.size,j,none⟩:=λj=>aj eA;exact⟨(e _).trans g.y,(e _).trans g.i,(e _).trans g.u,(e _).trans g.j,(e _).trans g.p,(e _).trans g.h,(e _).trans g.t,(e _).trans g.x,(e _).trans g.A⟩
   have ce:¬fy X a w3.heap.size:=λf=>E (fI (aj (e5 a.U (by omega) (by omega))) (λi _=>aj eS) f);have HY:Hid (Rd w (X.setCell ⟨w3.heap.size,7,none⟩ (.bool true)) a s ⟨mk,mc,mn,me,ms,o,mv,ml,md⟩ o now w3.heap.size):=Rd.e F5 cs ct ce (by have:=R.i;have e:w4.drew.heap.size=w4.heap.size:=rfl;omega) (by omega) (by unfold Sv.a6;rw[aR hz]);refine Q.out _ _ ⟨q5,qw,cp,q1,q0⟩ (λd=>?_);clear Q K;try simp only[Act.put,ar,aD,aC]
   refine Gen.tk 27 28 d ?_;go_frame;refine Gen.tk 28 29 d ?_;go_frame;refine Gen.tk 29 30 d ?_;go_frame;refine Gen.la 30 λK Q=>?_;go_simp;refine Q.out _ _ ?_;go_wp2_with fail
   go_meet
   case rel=>exact HY.out
  .obtain⟨n,cA⟩:∃n,(s.waits o).length=n+1:=⟨(s.waits o).length-1,by omega⟩;have HN:Hid (Rd w (w4.setCell ⟨w3.heap.size,7,none⟩ (.bool false)).drew a s ⟨mk,mc,mn,me,ms,o,mv,ml,md⟩ o now w3.heap.size):=(Rd.e (by unfold Sv.a2;rw[ax hz];exact H) aI g E (by omega) (by omega) (by unfold Sv.a6;rw[aK hz])).h;rw[cA]at r;have dV:((n:Int)+1==0)=false:=by simp;omega
   have dX:¬((n:Int)+1=0):=by omega
   clear hz;refine Gen.start (S:=λG=>G.cell? ⟨w.heap.size,5,none⟩=some (.int .i64 o)/\G.cell? ⟨a.S,48+o,none⟩=some (.slice aw (n+1) cw)) (by kernel_rfl) ⟨b5,r⟩ (λd=>?_);refine Gen.tk 0 3 d ?_;go_frame;refine Gen.tk 1 2 d ?_;go_frame;refine Gen.tk 2 5 d ?_;go_frame;refine Gen.tk 3 4 d ?_;go_frame;refine Gen.tk 4 5 d ?_;go_frame;refine Gen.tk 5 6 d ?_;go_frame;refine Gen.tk 6 7 d ?_;go_frame;refine Gen.tk 7 8 d ?_;go_frame;refine Gen.tk 8 9 d ?_;go_frame;refine Gen.tk 9 10 d ?_;go_frame;refine Gen.take (i:=10) (k:=11) (v:=undef) rfl rfl (by kernel_rfl) (by kernel_rfl) (by kernel_rfl) (by kernel_rfl) (by kernel_rfl) (by kernel_rfl) (λ_ _ _ h=>h) (Or.inr ⟨by rfl,rfl⟩) d ?_;simp only[Act.put,ar,aD,aC];refine Gen.take (i:=11) (k:=12) (v:=undef) rfl rfl (by kernel_rfl) (by kernel_rfl) (by kernel_rfl) (by kernel_rfl) (by kernel_rfl) (by kernel_rfl) (λ_ _ _ h=>h) (Or.inr ⟨by rfl,rfl⟩) d ?_;simp only[Act.put,ar,aD,aC];refine Gen.take (i:=12) (k:=13) (v:=undef) rfl rfl (by kernel_rfl) (by kernel_rfl) (by kernel_rfl) (by kernel_rfl) (by kernel_rfl) (by kernel_rfl) (λ_ _ _ h=>h) (Or.inr ⟨by rfl,rfl⟩) d ?_;simp only[Act.put,ar,aD,aC];refine Gen.take (i:=13) (k:=26) (v:=undef) rfl rfl (by kernel_rfl) (by kernel_rfl) (by kernel_rfl) (by kernel_rfl) (by kernel_rfl) (by kernel_rfl) (λ_ _ _ h=>h) (Or.inr ⟨by rfl,rfl⟩) d ?_;simp only[Act.put,ar,aD,aC];refine Gen.take (i:=14) (k:=15) (v:=undef) rfl rfl (by kernel_rfl) (by kernel_rfl) (by kernel_rfl) (by kernel_rfl) (by kernel_rfl) (by kernel_rfl) (λ_ _ _ h=>h) (Or.inr ⟨by rfl,rfl⟩) d ?_;simp only[Act.put,ar,aD,aC];refine Gen.take (i:=15) (k:=16) (v:=undef) rfl rfl (by kernel_rfl) (by kernel_rfl) (by kernel_rfl) (by kernel_rfl) (by kernel_rfl) (by kernel_rfl) (λ_ _ _ h=>h) (Or.inr ⟨by rfl,rfl⟩) d ?_;simp only[Act.put,ar,aD,aC];refine Gen.take (i:=16) (k:=26) (v:=undef) rfl rfl (by kernel_rfl) (by kernel_rfl) (by kernel_rfl) (by kernel_rfl) (by kernel_rfl) (by kernel_rfl) (λ_ _ _ h=>h) (Or.inr ⟨by rfl,rfl⟩) d ?_;simp only[Act.put,ar,aD,aC];refine Gen.take (i:=17) (k:=18) (v:=undef) rfl rfl (by kernel_rfl) (by kernel_rfl) (by kernel_rfl) (by kernel_rfl) (by kernel_rfl) (by kernel_rfl) (λ_ _ _ h=>h) (Or.inr ⟨by rfl,rfl⟩) d ?_;simp only[Act.put,ar,aD,aC];refine Gen.take (i:=18) (k:=26) (v:=undef) rfl rfl (by kernel_rfl) (by kernel_rfl) (by kernel_rfl) (by kernel_rfl) (by kernel_rfl) (by kernel_rfl) (λ_ _ _ h=>h) (Or.inr ⟨by rfl,rfl⟩) d ?_;simp only[Act.put,ar,aD,aC];refine Gen.take (i:=19) (k:=25) (v:=undef) rfl rfl (by kernel_rfl) (by kernel_rfl) (by kernel_rfl) (by kernel_rfl) (by kernel_rfl) (by kernel_rfl) (λ_ _ _ h=>h) (Or.inr ⟨by rfl,rfl⟩) d ?_;simp only[Act.put,ar,aD,aC];refine Gen.take (i:=20) (k:=21) (v:=undef) rfl rfl (by kernel_rfl) (by kernel_rfl) (by kernel_rfl) (by kernel_rfl) (by kernel_rfl) (by kernel_rfl) (λ_ _ _ h=>h) (Or.inr ⟨by rfl,rfl⟩) d ?_;simp only[Act.put,ar,aD,aC];refine Gen.take (i:=21) (k:=22) (v:=undef) rfl rfl (by kernel_rfl) (by kernel_rfl) (by kernel_rfl) (by kernel_rfl) (by kernel_rfl) (by kernel_rfl) (λ_ _ _ h=>h) (Or.inr ⟨by rfl,rfl⟩) d ?_;simp only[Act.put,ar,aD,aC];refine Gen.take (i:=22) (k:=23) (v:=undef) rfl rfl (by kernel_rfl) (by kernel_rfl) (by kernel_rfl) (by kernel_rfl) (by kernel_rfl) (by kernel_rfl) (λ_ _ _ h=>h) (Or.inr ⟨by rfl,rfl⟩) d ?_;simp only[Act.put,ar,aD,aC];refine Gen.take (i:=23) (k:=24) (v:=undef) rfl rfl (by kernel_rfl) (by kernel_rfl) (by kernel_rfl) (by kernel_rfl) (by kernel_rfl) (by kernel_rfl) (λ_ _ _ h=>h) (Or.inr ⟨by rfl,rfl⟩) d ?_;simp only[Act.put,ar,aD,aC];refine Gen.take (i:=24) (k:=25) (v:=undef) rfl rfl (by kernel_rfl) (by kernel_rfl) (by kernel_rfl) (by kernel_rfl) (by kernel_rfl) (by kernel_rfl) (λ_ _ _ h=>h) (Or.inr ⟨by rfl,rfl⟩) d ?_;simp only[Act.put,ar,aD,aC];refine Gen.take (i:=25) (k:=26) (v:=undef) rfl rfl (by kernel_rfl) (by kernel_rfl) (by kernel_rfl) (by kernel_rfl) (by kernel_rfl) (by kernel_rfl) (λ_ _ _ h=>h) (Or.inr ⟨by rfl,rfl⟩) d ?_;simp only[Act.put,ar,aD,aC];refine Gen.take (i:=26) (k:=27) (v:=undef) rfl rfl (by kernel_rfl) (by kernel_rfl) (by kernel_rfl) (by kernel_rfl) (by kernel_rfl) (by kernel_rfl) (λ_ _ _ h=>h) (Or.inr ⟨by rfl,rfl⟩) d ?_;simp only[Act.put,ar,aD,aC];refine Gen.take (i:=27) (k:=28) (v:=undef) rfl rfl (by kernel_rfl) (by kernel_rfl) (by kernel_rfl) (by kernel_rfl) (by kernel_rfl) (by kernel_rfl) (λ_ _ _ h=>h) (Or.inr ⟨by rfl,rfl⟩) d ?_;simp only[Act.put,ar,aD,aC];refine Gen.tk 28 29 d ?_;go_frame;refine Gen.tk 29 30 d ?_;go_frame;refine Gen.la 30 λK Q=>?_;go_simp;refine Q.out _ _ ?_;clear Q K;go_wp2_with fail
   go_meet
   case rel=>exact HN.out
 case rest=>
  have b0:=hcut.b.y;have C:=hcut.b.i;have b2:=hcut.b.u;have b3:=hcut.b.j;have b4:=hcut.b.p;have b5:=hcut.b.h;have b6:=hcut.b.t;have b7:=hcut.b.x;have b8:=hcut.b.A;have HC :Hid _:= hcut;obtain⟨mi,cg⟩:∃mi,s.a6 ⟨mk,mc,mn,me,ms,o,mv,ml,md⟩ o=mi:=⟨_,rfl⟩;rw[cg]at b0 C b2 b3 b4 b5 b6 b7 b8;clear hcut H aI aS g bK E r bR P c0 a7 f7;go_wp2_with (refine ej rfl 58 rfl mi rfl ?_)
  go_ret;unfold Sv.a3;dsimp only;rw[cg];exact⟨_,rfl,gI.one mi HC.out.t HC.out.i⟩
def sJ(s s':Sv):Prop:=∃D v z,s' = {s with D:=D,mR:=v,iu:=z}
def sJ.h(s:Sv):sJ s s:=⟨s.D,s.mR,s.iu,rfl⟩
def sJ.j{a b c:Sv}(h:sJ a b)(k:sJ b c):sJ a c:=by
 obtain⟨D,v,z,rfl⟩:=h;obtain⟨d,e,f,rfl⟩:=k;exact⟨d,e,f,rfl⟩
theorem qQ{now:Int}:∀ (cs:List Int) (s:Sv),sJ s (s.Z now cs).1
 | [],s=>sJ.h s
 | c :: cs,s=>by
  rw[kG]
  split
  ·exact qQ (now:=now) cs s
  ·exact sJ.j ⟨fV s.D c 8,gV s.mR c 0,gV s.iu c (s.iu c+1),rfl⟩ (qQ (now:=now) cs (s.ap c))
def og(o:Nat)(now:Int):sJ s (s.e o now).1:=by
 unfold Sv.e;split;exact sJ.h s;exact qQ _ s
def pq(s:Sv)(a now:Int):∀k,sJ s (s.H a now k).1
 |0=>sJ.h s
 |k+1=>(pq s a now k).j (og k now)
def LM(mk mc mn me ms mo mv:Int)(ml:Bool)(md:Bh)(h:cx w a s)(hc:0<=mc)(bK:Be s 1000000000000000)(cT:0<=now)(cW:now<=549755813888)(cl:0<=s.b)(co:s.b<=274877906944):
  Calls prog 187 #[tp a.S,Wire.M.ab ⟨mk,mc,mn,me,ms,mo,mv,ml,md⟩,iI now] w λe N=>∃v,e=.returned v/\gI w N a v (s.an ⟨mk,mc,mn,me,ms,mo,mv,ml,md⟩ now).1 (s.an ⟨mk,mc,mn,me,ms,mo,mv,ml,md⟩ now).2:=by
 have hB:MB (dW w mk mc mn me ms mo mv ml md) w.heap.size ⟨mk,mc,mn,me,ms,mo,mv,ml,md⟩:=ie w;have F:cx (dW w mk mc mn me ms mo mv ml md) a s:=h.j _;have hF:Fs a w (dW w mk mc mn me ms mo mv ml md):=(Fs.j).O h _;have aI:¬fy (dW w mk mc mn me ms mo mv ml md) a w.heap.size:=h.O ((au _ _).alloc (aa _) _) (aa _);have da:(dW w mk mc mn me ms mo mv ml md).heap.size=w.heap.size+1:=by simp
 have C:=h.e;have cp:=mJ mc;have E:=λw=>oz (id:=mc) w hc;have aS:=pq s (bx mc:Nat) now 8;have bR:=λw h=>LL (a:=a) (s:=s) (bx mc:Nat) now (w:=w) h bK;have HR:Hid (∀(g:Sv) (l:List M),s.H (bx mc:Nat) now 8=(g,l)->s.an ⟨mk,mc,mn,me,ms,mo,mv,ml,md⟩ now=if l.length≠0 then (g,l) else if me≠g.bO\/ms≠g.iu (bx mc:Nat) then (g,[g.ao 8 ⟨mk,mc,mn,me,ms,mo,mv,ml,md⟩]) else ({g with mR:=gV g.mR (bx mc:Nat) (mx (g.mR (bx mc:Nat)) (now+g.b))},[g.ao 7 ⟨mk,mc,mn,me,ms,mo,mv,ml,md⟩])):=λg l e=>by
  unfold Sv.an;dsimp only;rw[e]
 obtain⟨y,hy⟩:∃y,s.H (bx mc:Nat) now 8=y:=⟨_,rfl⟩;obtain⟨g,l⟩:=y;have HE:Hid (s.an ⟨mk,mc,mn,me,ms,mo,mv,ml,md⟩ now=if l.length≠0 then (g,l) else if me≠g.bO\/ms≠g.iu (bx mc:Nat) then (g,[g.ao 8 ⟨mk,mc,mn,me,ms,mo,mv,ml,md⟩]) else ({g with mR:=gV g.mR (bx mc:Nat) (mx (g.mR (bx mc:Nat)) (now+g.b))},[g.ao 7 ⟨mk,mc,mn,me,ms,mo,mv,ml,md⟩])):=HR.out g l hy;simp only[hy]at bR aS;have X:g.b=s.b:=by obtain⟨_,_,_,rfl⟩:=aS;rfl
 rw[<-X]at cl co;clear HR hy aS X bK;unfold dW at *;unfold Wire.M.ab;dsimp only;clear h;go_enter func187,ntmps187;go_upto_region 1 with fail
 generalize w.alloc (.cells #[.int .i64 mk,.int .i64 mc,.int .i64 mn,.int .i64 me,.int .i64 ms,.int .i64 mo,.int .i64 mv,.bool ml,.string md] 129)=w1 at *;have G:=hB.i;dsimp only at G;go_wp2_with (go_at_call 137;refine(E _).mono ?_;rintro e N⟨rfl,rfl⟩)
 refine(bR _ F).mono ?_;rintro e w2⟨v2,rfl,P⟩;obtain⟨av,cv,cs,dd,ct⟩:=Net.cZ P.b.b;subst cs;have F2:=P.h;have cb:=hF.e P.e;have B:=hB.H P.e (by omega) aI;have cM:¬fy w2 a w.heap.size:=λf=>aI (P.e.h _ (by omega) f);have df:=P.e.b;by_cases hl:l.length=0
 .have a0:Hid (s.an ⟨mk,mc,mn,me,ms,mo,mv,ml,md⟩ now=if me≠g.bO\/ms≠g.iu (bx mc:Nat) then (g,[g.ao 8 ⟨mk,mc,mn,me,ms,mo,mv,ml,md⟩]) else ({g with mR:=gV g.mR (bx mc:Nat) (mx (g.mR (bx mc:Nat)) (now+g.b))},[g.ao 7 ⟨mk,mc,mn,me,ms,mo,mv,ml,md⟩])):=HE.out.trans (ax (by simpa using hl));rw[hl];clear P hl HE hB hF F aI G ct;have b0:=B.y;have G:=B.i;have b2:=B.u;have b3:=B.j;have b4:=B.p;have b5:=B.h;have b6:=B.t;have b7:=B.x;have b8:=B.A;dsimp only at b0 G b2 b3 b4 b5 b6 b7 b8;have Q:=uM (a:=a) (s:=g) 7 ⟨mk,mc,mn,me,ms,mo,mv,ml,md⟩ (w:=w2) F2 hc;unfold Wire.M.ab Sv.ao at Q;dsimp only at Q;go_wp2_with fail
  refine Q.mono ?_;rintro e w3⟨rfl,J⟩;clear Q;have dk:=J.size;have F3:=F2.h J;have cc:=cb.I F2 J;have cd:=B.e J (by omega);have dl:=F2.e;go_upto_region 5 with fail
  generalize hW:w3.alloc (.cells #[.int .i64 7,.int .i64 mc,.int .i64 mn,.int .i64 g.bO,.int .i64 (g.iu (bx mc:Nat)),.int .i64 0,.int .i64 0,.bool false,.string ⟨#[]⟩] 129)=w4;have L:Below w3.heap.size w3 w4:=by rw[<-hW];exact(au _ _).alloc (aa _) _
  have cw:w4.heap.size=w3.heap.size+1:=by rw[<-hW];simp
  have o:MB w4 w3.heap.size ⟨7,mc,mn,g.bO,g.iu (bx mc:Nat),0,0,false,⟨#[]⟩⟩:=by
   rw[<-hW];exact ie w3 (mk:=7) (mc:=mc) (mn:=mn) (me:=g.bO) (ms:=g.iu (bx mc:Nat)) (mo:=0) (mv:=0) (ml:=false) (md:=⟨#[]⟩)
  have ce:∀i,w4.frozen? ⟨w3.heap.size,i,none⟩=false:=λi=>by rw[<-hW];simp
  have F4:=F3.h L;have a1:=cc.I F3 L;have R:=cd.e L (by omega);have Y:¬fy w4 a w3.heap.size:=F3.O L (by omega);clear hW F3 cc cd L J;have G:=R.i;have b3:=R.j;have b4:=R.p;have a3:=o.j;have a4:=o.p;dsimp only at G b3 b4 a3 a4;have ba:=F4.A;have c1:=F4.c1;have dm:a.T<w.heap.size/\a.T≠a.S/\a.S<w.heap.size:=⟨C.2.2.2.1,C.2.2.2.2.2.2.2.2.2.2.2.2.1,C.2.2.2.2.1⟩;by_cases hd:me≠g.bO\/ms≠g.iu (bx mc:Nat)
  .have bc:Hid (s.an ⟨mk,mc,mn,me,ms,mo,mv,ml,md⟩ now=(g,[g.ao 8 ⟨mk,mc,mn,me,ms,mo,mv,ml,md⟩])):=a0.out.trans (az hd);go_cut[51] from 22 to 50 (λx wx=>x=.bool true/\∃j,wx=w4.drewN j)
   case first=>
    by_cases h1:me=g.bO
    .have h2:ms≠g.iu (bx mc:Nat):=hd.resolve_left (λq=>q h1);have g1:(me != g.bO)=false:=by simpa using h1
     have g2:(ms != g.iu (bx mc:Nat))=true:=by simpa using h2
     clear h1 h2 hd;go_quiet (fail);go_wp2_with fail
     go_meet
     case rel=>exact⟨rfl,_,rfl⟩
    .have g1:(me != g.bO)=true:=by simpa using h1
     clear h1 hd;go_quiet (fail);go_wp2_with fail
     go_meet
     case rel=>exact⟨rfl,_,rfl⟩
   case rest=>
    obtain⟨rfl,j,U⟩:=hcut;have F5:cx wc a g:=by rw[U];exact F4.ab (j:=j)
    have W:Fs a w wc:=by rw[U];exact a1.ab (j:=j)
    have r:MB wc w3.heap.size ⟨7,mc,mn,g.bO,g.iu (bx mc:Nat),0,0,false,⟨#[]⟩⟩:=by rw[U];exact⟨o.y,o.i,o.u,o.j,o.p,o.h,o.t,o.x,o.A⟩
    have cA:wc.frozen? ⟨w3.heap.size,0,none⟩=false:=by rw[U];exact ce 0
    have ad:¬fy wc a w3.heap.size:=by rw[U];exact Y
    have dn:wc.heap.size=w3.heap.size+1:=by rw[U];exact cw
    clear U F4 a1 R o ce Y b3 b4 a3 a4;have b0:=r.y;dsimp only at b0;go_upto_region 7 with fail
    have hb:∀k,k≠w3.heap.size->(wc.setCell ⟨w3.heap.size,0,none⟩ (.int .i64 8)).heap[k]?=wc.heap[k]?:=λk hk=>aX wc ⟨w3.heap.size,0,none⟩ _ k hk;obtain⟨k1,k2⟩:=W.Z F5 (z:=wc.setCell ⟨w3.heap.size,0,none⟩ (.int .i64 8)) rfl rfl rfl (by simp) (λk hk hf=>hb k (λe=>by
     subst e;rcases hf with hf|hf
     omega;exact ad hf))
    have e:∀j,j≠0->(wc.setCell ⟨w3.heap.size,0,none⟩ (.int .i64 8)).cell? ⟨w3.heap.size,j,none⟩=wc.cell? ⟨w3.heap.size,j,none⟩:=λj U=>ak _ _ _ _ (by intro q;injection q with _ q;exact U q.symm);have d0:=ay wc ⟨w3.heap.size,0,none⟩ (.int .i64 8) b0;have d1:=(e 1 (by omega)).trans r.i;have d2:=(e 2 (by omega)).trans r.u;have d3:=(e 3 (by omega)).trans r.j;have d4:=(e 4 (by omega)).trans r.p;have d5:=(e 5 (by omega)).trans r.h;have d6:=(e 6 (by omega)).trans r.t;have d7:=(e 7 (by omega)).trans r.x;have d8:=(e 8 (by omega)).trans r.A;dsimp only at d1 d2 d3 d4 d5 d6 d7 d8;clear hb e b0 r cA W F5 ad;generalize wc.setCell ⟨w3.heap.size,0,none⟩ (.int .i64 8)=w6 at *;go_wp2_with (refine ej rfl 53 rfl ⟨8,mc,mn,g.bO,g.iu (bx mc:Nat),0,0,false,⟨#[]⟩⟩ rfl ?_)
    go_ret;rw[bc.out];exact⟨_,rfl,gI.one ⟨8,mc,mn,g.bO,g.iu (bx mc:Nat),0,0,false,⟨#[]⟩⟩ k2 k1⟩
  .have bc:Hid (s.an ⟨mk,mc,mn,me,ms,mo,mv,ml,md⟩ now=({g with mR:=gV g.mR (bx mc:Nat) (mx (g.mR (bx mc:Nat)) (now+g.b))},[g.ao 7 ⟨mk,mc,mn,me,ms,mo,mv,ml,md⟩])):=a0.out.trans (ax hd);have h1:me=g.bO:=cO λq=>hd (.inl q);have h2:= cO λq=>hd (.inr q);have g1:(me != g.bO)=false:=by simpa using h1
   have g2:(ms != g.iu (bx mc:Nat))=false:=by simpa using h2
   have dr:IntKind.i64.wrap (now+g.b)=now+g.b:=jJ (by omega) (by omega);have cg:=Lease.aaR (t:=a.T) (m:=a.m) (n:=g.n) (c:=bx mc) (u:=now+g.b) (D:=g.D) (v:=g.mR) (s:=g.iu) (w:=w4.drew) F4.I.p cp (Num.fX (by omega) (by omega));clear h1 h2 hd a0;refine Gen.start (S:=λN=>N.cell? ⟨w.heap.size,3,none⟩=some (.int .i64 me)/\N.cell? ⟨w.heap.size,4,none⟩=some (.int .i64 ms)/\N.cell? ⟨w3.heap.size,3,none⟩=some (.int .i64 g.bO)/\N.cell? ⟨w3.heap.size,4,none⟩=some (.int .i64 (g.iu (bx mc:Nat)))/\N.cell? ⟨w.heap.size,1,none⟩=some (.int .i64 mc)/\N.cell? ⟨a.S,47,none⟩=some (tp a.T)/\N.cell? ⟨a.S,1,none⟩=some (.int .i64 g.b)) (by kernel_rfl) ⟨b3,b4,a3,a4,G,ba,c1⟩ (λd=>?_);refine Gen.tk 0 1 d ?_;go_frame;refine Gen.tk 1 4 d ?_;go_frame;refine Gen.tk 2 3 d ?_;go_frame;refine Gen.tk 3 4 d ?_;go_frame;refine Gen.tk 4 5 d ?_;go_frame;refine Gen.tk 5 6 d ?_;go_frame;refine Gen.tk 6 7 d ?_;go_frame;refine Gen.tk 7 10 d ?_;go_frame;refine Gen.tk 8 9 d ?_;go_frame;refine Gen.tk 9 10 d ?_;go_frame;refine Gen.tk 10 11 d ?_;go_frame;refine Gen.tk 11 12 d ?_;go_frame;refine Gen.tk 12 13 d ?_;go_frame;refine Gen.tk 13 14 d ?_;go_frame;refine Gen.tk 14 15 d ?_;go_frame;refine Gen.tk 15 16 d ?_;go_frame;refine Gen.tk 16 27 d ?_;go_frame;refine Gen.tk 17 18 d ?_;go_frame;refine Gen.tk 18 19 d ?_;go_frame;refine Gen.tk 20 26 d ?_;go_frame;refine Gen.tk 21 22 d ?_;go_frame;refine Gen.tk 22 23 d ?_;go_frame;refine Gen.tk 23 24 d ?_;go_frame;refine Gen.tk 24 25 d ?_;go_frame;refine Gen.tk 25 26 d ?_;go_frame;refine Gen.tk 26 27 d ?_;go_frame;refine Gen.oneG (i:=19) (by kernel_rfl) rfl rfl (by rfl) (λK hK=>?_);go_simp;refine(E _).mono ?_;rintro e w5⟨rfl,ci⟩;rw[ci];clear ci;dsimp only;refine hK.out _ _ ⟨b3,b4,a3,a4,G,ba,c1⟩ (λd=>?_);try simp only[Act.put,ar,aD,aC]
   refine Gen.oneG (i:=27) (by kernel_rfl) rfl rfl (by rfl) (λK hK=>?_);go_simp;refine cg.mono ?_;rintro e w5⟨rfl,cG,bg⟩;dsimp only;have e5:∀k,k≠a.T->k<w4.heap.size->w5.heap[k]?=w4.heap[k]?:=λk hk hl=>bg.b k hl (by simpa using hk);have eS:=e5 a.S (by omega) (by omega);have eB:=e5 w.heap.size (by omega) (by omega);have eA:=e5 w3.heap.size (by omega) (by omega);have F5:=F4.I.an cG (bg.Z (by simp));have W:Fs a w w5:=a1.V.ob F4.I (bg.Z (by simp));have r:MB w5 w3.heap.size ⟨7,mc,mn,g.bO,g.iu (bx mc:Nat),0,0,false,⟨#[]⟩⟩:=by
    have e:∀j,w5.cell? ⟨w3.heap.size,j,none⟩=w4.cell? ⟨w3.heap.size,j,none⟩:=λj=>aj eA;exact⟨(e _).trans o.y,(e _).trans o.i,(e _).trans o.u,(e _).trans o.j,(e _).trans o.p,(e _).trans o.h,(e _).trans o.t,(e _).trans o.x,(e _).trans o.A⟩
   refine hK.out _ _ ⟨(aj (a:=⟨w.heap.size,3,none⟩) eB).trans b3,(aj (a:=⟨w.heap.size,4,none⟩) eB).trans b4,(aj (a:=⟨w3.heap.size,3,none⟩) eA).trans a3,(aj (a:=⟨w3.heap.size,4,none⟩) eA).trans a4,(aj (a:=⟨w.heap.size,1,none⟩) eB).trans G,(aj (a:=⟨a.S,47,none⟩) eS).trans ba,(aj (a:=⟨a.S,1,none⟩) eS).trans c1⟩ (λd=>?_);clear hK K;try simp only[Act.put,ar,aD,aC]
   refine Gen.tk 28 29 d ?_;go_frame;refine Gen.la 29 λK hK=>?_;go_simp;refine hK.out _ _ ?_;clear hK K;have b0:=r.y;have G:=r.i;have b2:=r.u;have b3:=r.j;have b4:=r.p;have b5:=r.h;have b6:=r.t;have b7:=r.x;have b8:=r.A;dsimp only at b0 G b2 b3 b4 b5 b6 b7 b8;go_wp2_with (refine ej rfl 53 rfl ⟨7,mc,mn,g.bO,g.iu (bx mc:Nat),0,0,false,⟨#[]⟩⟩ rfl ?_)
   go_ret;rw[bc.out];exact⟨_,rfl,gI.one ⟨7,mc,mn,g.bO,g.iu (bx mc:Nat),0,0,false,⟨#[]⟩⟩ F5 W⟩
 .obtain⟨n,ck⟩:∃n,l.length=n+1:=⟨l.length-1,by omega⟩;have HT:Hid (gI w w2 a (.slice av l.length cv) g l):=⟨⟨P.b.b.H (by omega),P.b.e⟩,P.h,cb⟩;have HL:Hid (l.length=n+1):=ck;have ds:decide ((0:Int)<((n+1:Nat):Int))=true:=aR (by omega);rw[ck];go_wp2_with fail
  go_ret;rw[HE.out,az (by rw[HL.out];omega),<-HL.out];exact⟨_,rfl,HT.out⟩
end Wld
namespace App
variable{base size n:Nat}{P:Bo}{i:TypeInfo}
def S8(w:A1)(t j e:Bi)(f:P.underlying t=some (.slice e))(h:P.info? e=some i)(b:i.size=size){v:Bg}{xs:List Bg}(a:w.ownsRow base e size v n xs):
  (Builtin.append_ #[t,t] j #[v,.slice none 0 0]).run P w=.ok v w:=by
 rcases a.2 with⟨rfl,rfl⟩|⟨g,k,l,rfl,m,q,c,o,p,d⟩
 simp[Builtin.append_,jm f,sizeOf,typeInfo,h,Builtin.lenOf,Builtin.firstCells];simp[Builtin.append_,jm f,sizeOf,typeInfo,h,Builtin.lenOf,Builtin.firstCells,loadCells,c,storeCells]
def GZ{w:A1}{ops:Array Oper}{rest:List Oper}{o:Oper}{a:Act}{Q:Exit->Act->A1->Prop}(d:o.guard=none){s x:Operand}{t:Bi}(f:o.op=.call {callee:=.builtin .append,args:=#[s,x],argTypes:=#[t,t]}){e:Bi}(g:P.underlying t=some (.slice e))(j:P.info? e=some i)(b:i.size=size){v:Bg}{xs:List Bg}(hs:a.eval s=v)(k:a.eval x=.slice none 0 0)(c:w.ownsRow base e size v n xs)(h:wpList P ops Q rest (a.put o.dst v) w):wpList P ops Q (o::rest) a w:=
 wpList_plain d λ_ l=>by
  unfold Oper.wp execOp;simp only[f,resolve,invoke,builtin,sT,Sem.run_pure,vg,i7,cE,jw,hs,k,S8 w t o.type e g j b c];exact l _ _ h
end App
namespace Wld
variable{a:Ad}{s:Sv}{w:A1}
def VQ.I{wr z:A1}{v m:Bg}{l n:List M}(h:VQ w wr a v l)(hs:cx wr a s)(y:Fs a w wr)(c:z.ownsRow w.heap.size 129 9 m (l.length+n.length) (dK l++dK n))(d:wr.grownBy z v.ownBlock)(o:∀g,m.ownBlock=some g->v.ownBlock=some g\/wr.heap.size<=g):
  VQ w z a m (l++n)/\cx z a s/\Fs a w z:=by
 have C:=d.size;have p:∀k,k<wr.heap.size->(k<w.heap.size\/fy wr a k)->z.heap[k]?=wr.heap[k]?:=λk A j=>by
  have r:some k≠v.ownBlock:=λe=>by
   rcases j with j|j
   have:=(bv h.b k e.symm).1;omega;exact h.e k e.symm j
  exact d.block k A r
 obtain⟨k1,B⟩:=y.Z hs d.os d.tape d.output (by omega) p;have u:=hs.e;refine⟨⟨by unfold iy;rw[aM,Ci];exact c,λg t f=>?_⟩,B,k1⟩;have x:= fI (aj (p a.U u.2.1 (.inr (.inr (.inr (.inr (.inl rfl))))))) (λi _=>aj (p a.S u.2.2.2.2.1 (.inr (.inr (.inr (.inl rfl)))))) f;rcases o g t with q|q
 exact h.e g q x;have:=hs.H x;omega
def Vx(now:Int){B:Nat}(h:cx w a s)(hB:mS s B)(aI:B<=100000000000000):
  Calls prog 72 #[tp a.S,iI now] w λe w'=>∃v,e=.returned v/\gI w w' a v (s.ae now 8).1 (s.ae now 8).2:=by
 let ⟨i0,hi,J,r,K⟩:=dw kw
 have aS:=h.lt;go_enter func72,ntmps72;go_wp2_with fail
 go_loopw [5,7] (λv i wr=>∃k:Nat,k<=8/\i=iI k/\gI w wr a v (s.ae now k).1 (s.ae now k).2) (λ_ i _=>8-(intOf i).toNat)
 case atStart=>exact⟨0,by omega,rfl,⟨VQ.h,h,Fs.j⟩⟩
 case round=>
  obtain⟨k,hk,rfl,A⟩:=hrel;by_cases L:k<8
  .have d:Hid ((s.ae now (k+1)).1=((s.ae now k).1.I k now).1):=rfl;have f:Hid ((s.ae now (k+1)).2=(s.ae now k).2++((s.ae now k).1.I k now).2):=rfl;let ⟨m,hl⟩:=mS.V hB now k
   let ⟨y,hy⟩:∃y,s.ae now k=y:=⟨_,rfl⟩
   rw[hy]at A m hl d f;let ⟨s2,l⟩:=y
   dsimp only at A m hl d f;have a0:(k:Int)<8:=by omega
   have n:=sM now A.h L (m.w k) (λc=>by have:=m.x c;omega) m.i (λx=>by have:=m.j x;have:=m.u;omega) m.b m.h;have t:=(m.H k now).2;let ⟨M,z⟩:∃M,s2.I k now=M:=⟨_,rfl⟩
   rw[z]at n d f t;let ⟨s3,o⟩:=M
   dsimp only at n d f t

   have C:Hid (gI w wr a u5 s2 l):=A

   go_wp2_with fail
   apply n.mono;rintro e w2⟨v2,rfl,D⟩

   have G:gI w w2 a u5 s3 l:=⟨C.out.b.j D.e,D.h,C.out.e.e D.e⟩;have a1:=C.out.e.b;let ⟨ao,co,N,ba,O⟩:=Net.cZ D.b.b
   have E:=D.b.b;subst N;let ⟨av,cv,P,bc,_⟩:=Net.cZ G.b.b
   subst P;have bg:=G.e.b

   have ⟨Q,F2,R⟩:=G


   cases ao with
   |none=>
    obtain⟨T,rfl⟩:=O rfl;obtain rfl:o=[]:=dG T;have U:Hid (gI w w2 a (.slice av l.length cv) s3 l):=G

    go_wp2_with (at_builtin;refine App.GZ rfl rfl underlying141 hi r rfl rfl Q.b ?_)

    go_wp2_with fail
    go_roundw
    case rel=>
     refine⟨k+1,by omega,by go_num,?_⟩;rw[d.out,f.out,dP];exact U.out
    case measure=>simp[intOf];omega
   |some ad=>

    have W:∀j u,(dK o)[j]?=some u->w2.cell? (ad.add j)=some u:=by
     rcases E.2 with⟨q,_⟩|⟨g,bK,bO,q,_⟩
     injection q with q;cases q
     injection q with q _
     injection q with q
     subst q;exact FS E (g:=g) rfl

    go_wp2_with (at_builtin;refine App.je rfl rfl underlying141 hi J r K rfl (by decide) rfl Q.b ad o.length co (dK o) rfl (ij o) W (Bv o) ?r3 ?r4 ?r5 ?_)
    case r3=>unfold maxLen;omega
    case r4=>omega
    case r5=>omega
    intro v5 w5 p X F;let ⟨O5,F5,Y⟩:=Q.I F2 R p X F
    have Z:Hid (gI w w5 a v5 s3 (l++o)):=⟨O5,F5,Y⟩;go_wp2_with fail
    go_roundw
    case rel=>
     refine⟨k+1,by omega,by go_num,?_⟩;rw[d.out,f.out];exact Z.out
    case measure=>simp[intOf];omega
  .obtain rfl:k=8:=by omega
   have C :Hid _:= A;go_wp2_with fail
   go_ret;exact⟨_,rfl,C.out⟩
end Wld
end Go.Proofs.YtbebfliimjjohabGreatDoor
