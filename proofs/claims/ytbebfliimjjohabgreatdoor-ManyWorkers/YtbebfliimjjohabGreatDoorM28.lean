/- Parts of the proof. -/
import Derived.Test.YtbebfliimjjohabGreatDoorM27
import Derived.Deep.CutBlock
set_option maxRecDepth 100000
set_option maxHeartbeats 8000000
set_option linter.all false
open Go.Proofs.Tryz
namespace Go.Proofs.YtbebfliimjjohabGreatDoor open Gen (la oneG take tk)
open Go.RowKit Go.Maps Go
open Lease (Ob fN ic cy jm fY eI de kk mx)
open Cache (tp aZ bq)
open Wal (R jv fH)
open Num (M)
namespace Wld
variable{a:Ad}{now:Int}{m:M}{p o:Nat}{s:Sv}{w y:Ba}
def jA{x:Int}(h0:-9223372036854775808<=x)(a:x<=9223372036854775807):IntKind.i64.wrap x=x:=by
 simp[IntKind.wrap,IntKind.signed,IntKind.bits];omega
def MB.V(h:MB w p m)(b:Bool):MB (w.setCell (aA p 7) (.bool b)) p {m with l:=b}:=by
 have e:∀j,j≠7->(w.setCell (aA p 7) (.bool b)).cell? (aA p j)=w.cell? (aA p j):=λj a=>am _ _ _ _ (by intro q;injection q with _ q;exact a q.symm);exact⟨(e _ ak).trans h.y,(e _ ak).trans h.i,(e _ ak).trans h.u,(e _ ak).trans h.j,(e _ ak).trans h.p,(e _ ak).trans h.h,(e _ ak).trans h.t,az _ _ _ h.x,(e _ ak).trans h.A⟩
def MB.O(h:MB w p m):MB w.drew p m:=⟨h.y,h.i,h.u,h.j,h.p,h.h,h.t,h.x,h.A⟩
structure Rd(w wx:World)(a:Ad)(s:Sv)(m:M)(o:Nat)(now:Int)(p:Nat):Prop where
 t:bZ wx a (s.a5 m o now)
 i:Fs a w wx
 b:MB wx p (s.a4 m o)
 j:w.heap.size<=p
 u:p<wx.heap.size
def Rd.e{m':M}{b:Bool}(h:bZ y a (s.a5 m o now))(hF:Fs a w y)(g:MB y p m')(i:¬eM y a p)(d:p<y.heap.size)(j:w.heap.size<=p)(n:s.a4 m o = {m' with l:=b}):Rd w (y.setCell (aA p 7) (.bool b)) a s m o now p:=by
 obtain⟨k1,q⟩:=hF.Z h (z:=y.setCell (aA p 7) (.bool b)) rfl rfl rfl aY (λk f c=>(λk f=>aQ y (aA p 7) (.bool b) k f) k (λe=>by
  subst e;rcases c with c|c
  omega;exact i c))
 exact⟨q,k1,by rw[n];exact g.V b,j,dD d⟩
def Rd.h(h:Rd w y a s m o now p):Rd w y.drew a s m o now p:=⟨h.t.I,h.i.V,h.b.O,h.j,h.u⟩
def gg.one(m:M)(h:bZ y a s)(hF:Fs a w y):gg w (y.alloc (.cells #[iI m.k,iI m.c,iI m.n,iI m.e,iI m.s,iI m.o,iI m.v,.bool m.l,.string m.d] 129)) a (.slice (some (FI y 0)) 1 1) s [m]:=
 ⟨⟨gR.one y m hF.b,λg f=>by
  simp[Value.ownBlock]at f;subst f;exact h.O ((au _ _).alloc (aj _) _) (aj _)⟩,h.j _,hF.O h _⟩
def Pa(mk mc mn me ms mv:Int)(ml:Bool)(md:DS)(h:bZ w a s)(ho:o<8)(hc:0<=mc)(dr:0<=now)(ds:now<=549755813888)(dt:0<=s.i)(dv:s.i<=274877906944)(hn:s.n<1000000000000000):
  Calls prog 185 #[tp a.S,Wire.M.ab ⟨mk,mc,mn,me,ms,o,mv,ml,md⟩,iI now] w λe B=>∃v,e=.returned v/\gg w B a v (s.aw ⟨mk,mc,mn,me,ms,o,mv,ml,md⟩ o now).1 (s.aw ⟨mk,mc,mn,me,ms,o,mv,ml,md⟩ o now).2:=by
 have hB:MB (dL w mk mc mn me ms o mv ml md) w.heap.size ⟨mk,mc,mn,me,ms,o,mv,ml,md⟩:=gF w;have F:bZ (dL w mk mc mn me ms o mv ml md) a s:=h.j _;have hF:Fs a w (dL w mk mc mn me ms o mv ml md):=(Fs.j).O h _;have cp:¬eM (dL w mk mc mn me ms o mv ml md) a w.heap.size:=h.O ((au _ _).alloc (aj _) _) (aj _);have a0:(dL w mk mc mn me ms o mv ml md).heap.size=w.heap.size+1:=aY;have dy:(0:Int)<=(o:Int):=ak;have dz:(o:Int)<8:=ak;have df:a.m<w.heap.size:=h.e.2.2.1;unfold dL at *;unfold Wire.M.ab;dsimp only;clear h;go_in;go_upto_region 1 with fail
 generalize w.alloc (.cells #[.int .i64 mk,.int .i64 mc,.int .i64 mn,.int .i64 me,.int .i64 ms,.int .i64 o,.int .i64 mv,.bool ml,.string md] 129)=w1 at *;have b5:=hB.h;dsimp only at b5;have cv:=F.vv o ho;have cd:=F.vd o ho;have a1:=F.lt;have dJ:a.S≠w1.heap.size:=ak;have dk:w.heap.size≠w1.heap.size:=ak;have dN:=λob=>(aC w1 ob (aA a.S (7+o*2+1)) a1).trans cv;have dP:=λob=>(aC w1 ob (aA a.S (7+o*2)) a1).trans cd;have dT:=λob=>(aC w1 ob (aA w.heap.size 5) jB).trans b5;go_region;go_upto_region 2 with fail
 generalize G:(w1.alloc (.cells #[.string (s.vd o),.int .i64 (s.vv o)] 41)).drew=w2;have r:FF w1 w2:=by rw[<-G];exact((au _ _).alloc (aj _) _).drew
 have d0:w2.heap.size=w.heap.size+2:=by rw[<-G];show (w1.alloc _).heap.size=_;simp;omega
 have x0:w2.cell? (aA (w.heap.size+1) 0)=some (.string (s.vd o)):=by
  rw[<-G,<-a0];exact bN _ _ _ _ _ _ (bo w1 _)
 have x1:w2.cell? (aA (w.heap.size+1) 1)=some (iI (s.vv o)):=by
  rw[<-G,<-a0];exact bN _ _ _ _ _ _ (bo w1 _)
 have F2:=F.h r;have bm:=hF.I F r;have g:=hB.e r ak;have Q:¬eM w2 a w.heap.size:=λf=>cp ((fe (aa (r.block a.U F.e.2.1)) (λi _=>aa (r.block a.S F.e.2.2.2.2.1))) f);have bO:¬eM w2 a (w.heap.size+1):=F.O r ak;have b0:=g.y;have b1:=g.i;have b2:=g.u;have b3:=g.j;have b4:=g.p;have b5:=g.h;have b6:=g.t;have b7:=g.x;have b8:=g.A;dsimp only at b0 b1 b2 b3 b4 b5 b6 b7 b8;have H:=tU (a:=a) (s:=s) 5 ⟨mk,mc,mn,me,ms,o,mv,ml,md⟩ (w:=w2) F2 hc;unfold Wire.M.ab Sv.ao at H;dsimp only at H;go_wp2_with fail
 refine H.mono ?_;rintro e w3⟨rfl,l⟩;clear H;have d6:=l.size;have F3:=F2.h l;have cs:=bm.I F2 l;have W:=g.e l ak;have X:=F2.e;have dm:¬eM w3 a w.heap.size:=λf=>Q ((fe (aa (l.block a.U X.2.1)) (λi _=>aa (l.block a.S X.2.2.2.2.1))) f);have y0:=(l.cell (p:=(aA (w.heap.size+1) 0)) jB).trans x0;have y1:=(l.cell (p:=(aA (w.heap.size+1) 1)) jB).trans x1;clear g F2 bm Q bO x0 x1 b0 b1 b2 b3 b4 b5 b6 b7 b8 X l;have b1:=W.i;have b5:=W.h;dsimp only at b1 b5;have n0:w.heap.size≠w3.heap.size:=ak;have n1:w.heap.size+1≠w3.heap.size:=ak;have z1:=λob=>(aC w3 ob (aA (w.heap.size+1) 0) jB).trans y0;have z2:=λob=>(aC w3 ob (aA (w.heap.size+1) 1) jB).trans y1;have z3:=λob=>(aC w3 ob (FI w 5) jB).trans b5;go_upto_region 3 with fail
 go_region;go_upto_region 4 with fail
 generalize G:(w3.alloc (.cells #[.int .i64 5,.int .i64 mc,.int .i64 mn,.int .i64 s.bR,.int .i64 (s.iK (bK mc:Nat)),.int .i64 o,.int .i64 (s.vv o),.bool false,.string (s.vd o)] 129)).drew=w4;have J:FF w3 w4:=by rw[<-G];exact((au _ _).alloc (aj _) _).drew
 have d7:w4.heap.size=w3.heap.size+1:=by rw[<-G];show (w3.alloc _).heap.size=_;simp
 have d:MB w4 w3.heap.size ⟨5,mc,mn,s.bR,s.iK (bK mc:Nat),o,s.vv o,false,s.vd o⟩:=by
  rw[<-G];have:=gF w3 (mk:=5) (mc:=mc) (mn:=mn) (me:=s.bR) (ms:=s.iK (bK mc:Nat)) (mo:=o) (mv:=s.vv o) (ml:=false) (md:=s.vd o);exact⟨this.y,this.i,this.u,this.j,this.p,this.h,this.t,this.x,this.A⟩
 have ci:∀i,w4.frozen? (FI w3 i)=false:=λi=>by rw[<-G];show (w3.alloc _).frozen? _=_;simp
 have E:=F3.h J;have Y:=cs.I F3 J;have ad:=W.e J ak;have d8:=F3.e;have z:¬eM w4 a w3.heap.size:=F3.O J ak;have b1:=ad.i;have b5:=ad.h;have a7:=d.x;have f7:=ci 7;dsimp only at b1 b5 a7;obtain⟨vw,q,cj⟩:=E.b o ho;obtain⟨aw,cw,rfl,ct,_⟩:=Net.cP cj;have dn:=E.C o ho;have L:=E.A;have c0:=E.c0;have m0:w.heap.size≠w3.heap.size:=ak;have m1:a.S≠w3.heap.size:=ak;clear ct;go_cut[] from 28 to 57 (λwx=>Rd w wx a s ⟨mk,mc,mn,me,ms,o,mv,ml,md⟩ o now w3.heap.size)
 case first=>
  by_cases hz:(s.waits o).length=0
  .rw[hz]at q;have d9:=na mc;have aS:=λw=>nd (id:=mc) w hc;obtain⟨x,hx⟩:=Lease.lC (t:=298) E.p.b Lease.wu underlying298 (Lease.Nn (c:=(bK mc:Nat)) (o:=o) ⟨ak,ak⟩ ⟨ak,ak⟩);have ck:=Lease.YW (t:=a.T) (m:=a.m) (n:=s.n) (c:=(bK mc:Nat)) (o:=o) (u:=now+s.i) (D:=s.D) (v:=s.oQ) (s:=s.iK) (x:=x) (w:=w4.drew) E.I.p ak (Num.fu ak ak) (Num.fu ak ak) (Num.fu ak ak) hx;have ea:IntKind.i64.wrap (now+s.i)=now+s.i:=jA ak ak;refine Gen.start (S:=λB=>B.cell? (FI w 5)=some (iI o)/\B.cell? (aA a.S (48+o))=some (.slice aw 0 cw)/\B.cell? (aA a.S 47)=some (tp a.T)/\B.cell? (FI w 1)=some (iI mc)/\B.cell? (aA a.S 0)=some (iI s.i)) bt ⟨b5,q,L,b1,c0⟩ (λqH=>?_);refine tk 0 3 qH ?_;go_frame;refine tk 1 2 qH ?_;go_frame;refine tk 2 5 qH ?_;go_frame;refine tk 3 4 qH ?_;go_frame;refine tk 4 5 qH ?_;go_frame;refine tk 5 6 qH ?_;go_frame;refine tk 6 7 qH ?_;go_frame;refine tk 7 8 qH ?_;go_frame;refine tk 8 9 qH ?_;go_frame;refine tk 9 10 qH ?_;go_frame;refine tk 10 11 qH ?_;go_frame;refine tk 11 12 qH ?_;go_frame;refine tk 12 13 qH ?_;go_frame;refine tk 13 26 qH ?_;go_frame;refine tk 14 15 qH ?_;go_frame;refine tk 15 16 qH ?_;go_frame;refine tk 17 18 qH ?_;go_frame;refine tk 18 26 qH ?_;go_frame;refine tk 19 25 qH ?_;go_frame;refine tk 20 21 qH ?_;go_frame;refine tk 21 22 qH ?_;go_frame;refine tk 22 23 qH ?_;go_frame;refine tk 23 24 qH ?_;go_frame;refine tk 24 25 qH ?_;go_frame;refine tk 25 26 qH ?_;go_frame;refine oneG (i:=16) bt rfl rfl (by rfl) (λK N=>?_);go_simp;refine(aS _).mono ?_;rintro e R⟨rfl,cl⟩;rw[cl];clear cl;dsimp only;refine N.out _ _ ⟨b5,q,L,b1,c0⟩ (λqH=>?_);try simp only[Act.put,ax,aJ,aI]
   refine oneG (i:=26) bt rfl rfl (by rfl) (λK N=>?_);go_simp;refine ck.mono ?_;rintro e R⟨rfl,cA,P⟩;dsimp only;have e5:∀k,k≠a.m->k<w4.heap.size->R.heap[k]?=w4.heap[k]?:=λk hk hl=>P.b k hl (dD hk);have eS:=e5 a.S ak ak;have eB:=e5 w.heap.size ak ak;have eA:=e5 w3.heap.size ak ak;have q5:=(aa (a:=(FI w 5)) eB).trans b5;have q1:=(aa (a:=(FI w 1)) eB).trans b1;have qw:=(aa (a:=(aA a.S (48+o))) eS).trans q;have cB:=(aa (a:=(aA a.S 47)) eS).trans L;have q0:=(aa (a:=(aA a.S 0)) eS).trans c0;have q7:=(aa (a:=(FI w3 7)) eA).trans a7;have qf:=(aG (a:=(FI w3 7)) eA).trans f7;have F5:bZ R a (s.a5 ⟨mk,mc,mn,me,ms,o,mv,ml,md⟩ o now):=by
    have:=E.I.an cA (P.Z aY);unfold Sv.a5 XG;rw[aH hz];dsimp only;rw[hx];exact this
   have cG:Fs a w R:=Y.V.ob E.I (P.Z aY);have cW:MB R w3.heap.size ⟨5,mc,mn,s.bR,s.iK (bK mc:Nat),o,s.vv o,false,s.vd o⟩:=by
    have e:∀j,R.cell? (FI w3 j)=w4.cell? (FI w3 j):=λj=>aa eA;exact⟨(e _).trans d.y,(e _).trans d.i,(e _).trans d.u,(e _).trans d.j,(e _).trans d.p,(e _).trans d.h,(e _).trans d.t,(e _).trans d.x,(e _).trans d.A⟩
   have cm:¬eM R a w3.heap.size:=λf=>z (fe (aa (e5 a.U ak ak)) (λi _=>aa eS) f);have HY:Hid (Rd w (R.setCell (FI w3 7) (.bool true)) a s ⟨mk,mc,mn,me,ms,o,mv,ml,md⟩ o now w3.heap.size):=Rd.e F5 cG cW cm (by have:=P.i;have e:w4.drew.heap.size=w4.heap.size:=rfl;omega) ak (by unfold Sv.a4;rw[aX hz]);refine N.out _ _ ⟨q5,qw,cB,q1,q0⟩ (λqH=>?_);clear N K;try simp only[Act.put,ax,aJ,aI]
   refine tk 27 28 qH ?_;go_frame;refine tk 28 29 qH ?_;go_frame;refine tk 29 30 qH ?_;go_frame;refine la 30 λK N=>?_;go_simp;refine N.out _ _ ?_;go_wp2_with fail
   go_meet
   case rel=>exact HY.out
  .obtain⟨n,dd⟩:∃n,(s.waits o).length=n+1:=⟨(s.waits o).length-1,ak⟩;have HN:Hid (Rd w (w4.setCell (FI w3 7) (.bool false)).drew a s ⟨mk,mc,mn,me,ms,o,mv,ml,md⟩ o now w3.heap.size):=(Rd.e (by unfold Sv.a5;rw[ay hz];exact E) Y d z ak ak (by unfold Sv.a4;rw[aK hz])).h;rw[dd]at q;have eb:((n:Int)+1==0)=false:=fS;have ec:¬((n:Int)+1=0):=ak;clear hz;refine Gen.start (S:=λB=>B.cell? (FI w 5)=some (iI o)/\B.cell? (aA a.S (48+o))=some (.slice aw (n+1) cw)) bt ⟨b5,q⟩ (λqH=>?_);refine tk 0 3 qH ?_;go_frame;refine tk 1 2 qH ?_;go_frame;refine tk 2 5 qH ?_;go_frame;refine tk 3 4 qH ?_;go_frame;refine tk 4 5 qH ?_;go_frame;refine tk 5 6 qH ?_;go_frame;refine tk 6 7 qH ?_;go_frame;refine tk 7 8 qH ?_;go_frame;refine tk 8 9 qH ?_;go_frame;refine tk 9 10 qH ?_;go_frame;refine take (i:=10) (k:=11) (v:=undef) rfl rfl bt bt bt bt bt bt (λ_ _ _ h=>h) (Or.inr ⟨by rfl,rfl⟩) qH ?_;simp only[Act.put,ax,aJ,aI];refine take (i:=11) (k:=12) (v:=undef) rfl rfl bt bt bt bt bt bt (λ_ _ _ h=>h) (Or.inr ⟨by rfl,rfl⟩) qH ?_;simp only[Act.put,ax,aJ,aI];refine take (i:=12) (k:=13) (v:=undef) rfl rfl bt bt bt bt bt bt (λ_ _ _ h=>h) (Or.inr ⟨by rfl,rfl⟩) qH ?_;simp only[Act.put,ax,aJ,aI];refine take (i:=13) (k:=26) (v:=undef) rfl rfl bt bt bt bt bt bt (λ_ _ _ h=>h) (Or.inr ⟨by rfl,rfl⟩) qH ?_;simp only[Act.put,ax,aJ,aI];refine take (i:=14) (k:=15) (v:=undef) rfl rfl bt bt bt bt bt bt (λ_ _ _ h=>h) (Or.inr ⟨by rfl,rfl⟩) qH ?_;simp only[Act.put,ax,aJ,aI];refine take (i:=15) (k:=16) (v:=undef) rfl rfl bt bt bt bt bt bt (λ_ _ _ h=>h) (Or.inr ⟨by rfl,rfl⟩) qH ?_;simp only[Act.put,ax,aJ,aI];refine take (i:=16) (k:=26) (v:=undef) rfl rfl bt bt bt bt bt bt (λ_ _ _ h=>h) (Or.inr ⟨by rfl,rfl⟩) qH ?_;simp only[Act.put,ax,aJ,aI];refine take (i:=17) (k:=18) (v:=undef) rfl rfl bt bt bt bt bt bt (λ_ _ _ h=>h) (Or.inr ⟨by rfl,rfl⟩) qH ?_;simp only[Act.put,ax,aJ,aI];refine take (i:=18) (k:=26) (v:=undef) rfl rfl bt bt bt bt bt bt (λ_ _ _ h=>h) (Or.inr ⟨by rfl,rfl⟩) qH ?_;simp only[Act.put,ax,aJ,aI];refine take (i:=19) (k:=25) (v:=undef) rfl rfl bt bt bt bt bt bt (λ_ _ _ h=>h) (Or.inr ⟨by rfl,rfl⟩) qH ?_;simp only[Act.put,ax,aJ,aI];refine take (i:=20) (k:=21) (v:=undef) rfl rfl bt bt bt bt bt bt (λ_ _ _ h=>h) (Or.inr ⟨by rfl,rfl⟩) qH ?_;simp only[Act.put,ax,aJ,aI];refine take (i:=21) (k:=22) (v:=undef) rfl rfl bt bt bt bt bt bt (λ_ _ _ h=>h) (Or.inr ⟨by rfl,rfl⟩) qH ?_;simp only[Act.put,ax,aJ,aI];refine take (i:=22) (k:=23) (v:=undef) rfl rfl bt bt bt bt bt bt (λ_ _ _ h=>h) (Or.inr ⟨by rfl,rfl⟩) qH ?_;simp only[Act.put,ax,aJ,aI];refine take (i:=23) (k:=24) (v:=undef) rfl rfl bt bt bt bt bt bt (λ_ _ _ h=>h) (Or.inr ⟨by rfl,rfl⟩) qH ?_;simp only[Act.put,ax,aJ,aI];refine take (i:=24) (k:=25) (v:=undef) rfl rfl bt bt bt bt bt bt (λ_ _ _ h=>h) (Or.inr ⟨by rfl,rfl⟩) qH ?_;simp only[Act.put,ax,aJ,aI];refine take (i:=25) (k:=26) (v:=undef) rfl rfl bt bt bt bt bt bt (λ_ _ _ h=>h) (Or.inr ⟨by rfl,rfl⟩) qH ?_;simp only[Act.put,ax,aJ,aI];refine take (i:=26) (k:=27) (v:=undef) rfl rfl bt bt bt bt bt bt (λ_ _ _ h=>h) (Or.inr ⟨by rfl,rfl⟩) qH ?_;simp only[Act.put,ax,aJ,aI];refine take (i:=27) (k:=28) (v:=undef) rfl rfl bt bt bt bt bt bt (λ_ _ _ h=>h) (Or.inr ⟨by rfl,rfl⟩) qH ?_;simp only[Act.put,ax,aJ,aI];refine tk 28 29 qH ?_;go_frame;refine tk 29 30 qH ?_;go_frame;refine la 30 λK N=>?_;go_simp;refine N.out _ _ ?_;clear N K;go_wp2_with fail
   go_meet
   case rel=>exact HN.out
 case rest=>
  have b0:=hcut.b.y;have b1:=hcut.b.i;have b2:=hcut.b.u;have b3:=hcut.b.j;have b4:=hcut.b.p;have b5:=hcut.b.h;have b6:=hcut.b.t;have b7:=hcut.b.x;have b8:=hcut.b.A;have HC :Hid _:= hcut;obtain⟨mi,co⟩:∃mi,s.a4 ⟨mk,mc,mn,me,ms,o,mv,ml,md⟩ o=mi:=⟨_,rfl⟩;rw[co]at b0 b1 b2 b3 b4 b5 b6 b7 b8;clear hcut E Y ad d ci z q cj L c0 a7 f7;go_wp2_with (refine dS rfl 58 rfl mi rfl ?_)
  go_ret;unfold Sv.aw;dsimp only;rw[co];exact⟨_,rfl,gg.one mi HC.out.t HC.out.i⟩
def ry(s s':Sv):Prop:=∃D v z,s' = {s with D:=D,oQ:=v,iK:=z}
def ry.h(s:Sv):ry s s:=⟨s.D,s.oQ,s.iK,rfl⟩
def ry.j{a b c:Sv}(h:ry a b)(k:ry b c):ry a c:=by
 obtain⟨D,v,z,rfl⟩:=h;obtain⟨d,e,f,rfl⟩:=k;exact⟨d,e,f,rfl⟩
theorem pK{now:Int}:∀(cs:List Int) (s:Sv),ry s (s.O now cs).1
 | [],s=>ry.h s
 |c::cs,s=>by
  rw[lp]
  split
  .exact pK (now:=now) cs s
  .exact ry.j ⟨fY s.D c 8,ic s.oQ c 0,ic s.iK c (s.iK c+1),rfl⟩ (pK (now:=now) cs (s.ap c))
def m6(o:Nat)(now:Int):ry s (s.e o now).1:=by
 unfold Sv.e;split;exact ry.h s;exact pK _ s
def nT(s:Sv)(a now:Int):∀k,ry s (s.j a now k).1
 |0=>ry.h s
 |k+1=>(nT s a now k).j (m6 k now)
def Ka(mk mc mn me ms mo mv:Int)(ml:Bool)(md:DS)(h:bZ w a s)(hc:0<=mc)(ck:Ac s 1000000000000000)(ds:0<=now)(dt:now<=549755813888)(cB:0<=s.b)(cG:s.b<=274877906944):
  Calls prog 187 #[tp a.S,Wire.M.ab ⟨mk,mc,mn,me,ms,mo,mv,ml,md⟩,iI now] w λe J=>∃v,e=.returned v/\gg w J a v (s.ah ⟨mk,mc,mn,me,ms,mo,mv,ml,md⟩ now).1 (s.ah ⟨mk,mc,mn,me,ms,mo,mv,ml,md⟩ now).2:=by
 have hB:MB (dL w mk mc mn me ms mo mv ml md) w.heap.size ⟨mk,mc,mn,me,ms,mo,mv,ml,md⟩:=gF w;have F:bZ (dL w mk mc mn me ms mo mv ml md) a s:=h.j _;have hF:Fs a w (dL w mk mc mn me ms mo mv ml md):=(Fs.j).O h _;have aS:¬eM (dL w mk mc mn me ms mo mv ml md) a w.heap.size:=h.O ((au _ _).alloc (aj _) _) (aj _);have dv:(dL w mk mc mn me ms mo mv ml md).heap.size=w.heap.size+1:=aY;have B:=h.e;have cW:=na mc;have C:=λw=>nd (id:=mc) w hc;have a0:=nT s (bK mc:Nat) now 8;have cl:=λw h=>J9 (a:=a) (s:=s) (bK mc:Nat) now (w:=w) h ck;have HR:Hid (∀(d:Sv) (l:List M),s.j (bK mc:Nat) now 8=(d,l)->s.ah ⟨mk,mc,mn,me,ms,mo,mv,ml,md⟩ now=if l.length≠0 then (d,l) else if me≠d.bR\/ms≠d.iK (bK mc:Nat) then (d,[d.ao 8 ⟨mk,mc,mn,me,ms,mo,mv,ml,md⟩]) else ({d with oQ:=ic d.oQ (bK mc:Nat) (mx (d.oQ (bK mc:Nat)) (now+d.b))},[d.ao 7 ⟨mk,mc,mn,me,ms,mo,mv,ml,md⟩])):=λd l e=>by
  unfold Sv.ah;dsimp only;rw[e]
 obtain⟨y,hy⟩:∃y,s.j (bK mc:Nat) now 8=y:=⟨_,rfl⟩;obtain⟨d,l⟩:=y;have HE:Hid (s.ah ⟨mk,mc,mn,me,ms,mo,mv,ml,md⟩ now=if l.length≠0 then (d,l) else if me≠d.bR\/ms≠d.iK (bK mc:Nat) then (d,[d.ao 8 ⟨mk,mc,mn,me,ms,mo,mv,ml,md⟩]) else ({d with oQ:=ic d.oQ (bK mc:Nat) (mx (d.oQ (bK mc:Nat)) (now+d.b))},[d.ao 7 ⟨mk,mc,mn,me,ms,mo,mv,ml,md⟩])):=HR.out d l hy;simp only[hy]at cl a0;have U:d.b=s.b:=by obtain⟨_,_,_,rfl⟩:=a0;rfl
 rw[<-U]at cB cG;clear HR hy a0 U ck;unfold dL at *;unfold Wire.M.ab;dsimp only;clear h;go_in;go_upto_region 1 with fail
 generalize w.alloc (.cells #[.int .i64 mk,.int .i64 mc,.int .i64 mn,.int .i64 me,.int .i64 ms,.int .i64 mo,.int .i64 mv,.bool ml,.string md] 129)=w1 at *;have b1:=hB.i;dsimp only at b1;go_wp2_with (go_at_call 137;refine(C _).mono ?_;rintro e J⟨rfl,rfl⟩)
 refine(cl _ F).mono ?_;rintro e w2⟨v2,rfl,L⟩;obtain⟨av,cv,dd,dy,df⟩:=Net.cP L.b.b;subst dd;have F2:=L.h;have cm:=hF.e L.e;have r:=hB.H L.e ak aS;have dr:¬eM w2 a w.heap.size:=λf=>aS (L.e.h _ ak f);have dz:=L.e.b;by_cases hl:l.length=0
 .have a1:Hid (s.ah ⟨mk,mc,mn,me,ms,mo,mv,ml,md⟩ now=if me≠d.bR\/ms≠d.iK (bK mc:Nat) then (d,[d.ao 8 ⟨mk,mc,mn,me,ms,mo,mv,ml,md⟩]) else ({d with oQ:=ic d.oQ (bK mc:Nat) (mx (d.oQ (bK mc:Nat)) (now+d.b))},[d.ao 7 ⟨mk,mc,mn,me,ms,mo,mv,ml,md⟩])):=HE.out.trans (ay (dD hl));rw[hl];clear L hl HE hB hF F aS b1 df;have b0:=r.y;have b1:=r.i;have b2:=r.u;have b3:=r.j;have b4:=r.p;have b5:=r.h;have b6:=r.t;have b7:=r.x;have b8:=r.A;dsimp only at b0 b1 b2 b3 b4 b5 b6 b7 b8;have N:=tU (a:=a) (s:=d) 7 ⟨mk,mc,mn,me,ms,mo,mv,ml,md⟩ (w:=w2) F2 hc;unfold Wire.M.ab Sv.ao at N;dsimp only at N;go_wp2_with fail
  refine N.mono ?_;rintro e w3⟨rfl,E⟩;clear N;have dJ:=E.size;have F3:=F2.h E;have co:=cm.I F2 E;have cp:=r.e E ak;have dN:=F2.e;go_upto_region 5 with fail
  generalize hW:w3.alloc (.cells #[.int .i64 7,.int .i64 mc,.int .i64 mn,.int .i64 d.bR,.int .i64 (d.iK (bK mc:Nat)),.int .i64 0,.int .i64 0,.bool false,.string ⟨#[]⟩] 129)=w4;have G:FF w3 w4:=by rw[<-hW];exact(au _ _).alloc (aj _) _
  have dk:w4.heap.size=w3.heap.size+1:=by rw[<-hW];simp
  have g:MB w4 w3.heap.size ⟨7,mc,mn,d.bR,d.iK (bK mc:Nat),0,0,false,⟨#[]⟩⟩:=by
   rw[<-hW];exact gF w3 (mk:=7) (mc:=mc) (mn:=mn) (me:=d.bR) (ms:=d.iK (bK mc:Nat)) (mo:=0) (mv:=0) (ml:=false) (md:=⟨#[]⟩)
  have cs:∀i,w4.frozen? (FI w3 i)=false:=λi=>by rw[<-hW];simp
  have F4:=F3.h G;have bm:=co.I F3 G;have P:=cp.e G ak;have W:¬eM w4 a w3.heap.size:=F3.O G ak;clear hW F3 co cp G E;have b1:=P.i;have b3:=P.j;have b4:=P.p;have a3:=g.j;have a4:=g.p;dsimp only at b1 b3 b4 a3 a4;have bO:=F4.A;have c1:=F4.c1;have dP:a.T<w.heap.size/\a.T≠a.S/\a.S<w.heap.size:=⟨B.2.2.2.1,B.2.2.2.2.2.2.2.2.2.2.2.2.1,B.2.2.2.2.1⟩;by_cases X:me≠d.bR\/ms≠d.iK (bK mc:Nat)
  .have ci:Hid (s.ah ⟨mk,mc,mn,me,ms,mo,mv,ml,md⟩ now=(d,[d.ao 8 ⟨mk,mc,mn,me,ms,mo,mv,ml,md⟩])):=a1.out.trans (aH X);go_cut[51] from 22 to 50 (λx wx=>x=.bool true/\∃j,wx=w4.drewN j)
   case first=>
    by_cases Y:me=d.bR
    .have h2:ms≠d.iK (bK mc:Nat):=X.resolve_left (λq=>q Y);have g1:(me != d.bR)=false:=dD Y;have g2:(ms != d.iK (bK mc:Nat))=true:=dD h2;clear Y h2 X;go_quiet (fail);go_wp2_with fail
     go_meet
     case rel=>exact⟨rfl,_,rfl⟩
    .have g1:(me != d.bR)=true:=dD Y;clear Y X;go_quiet (fail);go_wp2_with fail
     go_meet
     case rel=>exact⟨rfl,_,rfl⟩
   case rest=>
    obtain⟨rfl,j,Q⟩:=hcut;have F5:bZ wc a d:=by rw[Q];exact F4.ab (j:=j)
    have R:Fs a w wc:=by rw[Q];exact bm.ab (j:=j)
    have o:MB wc w3.heap.size ⟨7,mc,mn,d.bR,d.iK (bK mc:Nat),0,0,false,⟨#[]⟩⟩:=by rw[Q];exact⟨g.y,g.i,g.u,g.j,g.p,g.h,g.t,g.x,g.A⟩
    have dm:wc.frozen? (FI w3 0)=false:=by rw[Q];exact cs 0
    have ad:¬eM wc a w3.heap.size:=Q▸W;have dT:wc.heap.size=w3.heap.size+1:=Q▸dk;clear Q F4 bm P g cs W b3 b4 a3 a4;have b0:=o.y;dsimp only at b0;go_upto_region 7 with fail
    have hb:∀k,k≠w3.heap.size->(wc.setCell (FI w3 0) (iI 8)).heap[k]?=wc.heap[k]?:=λk hk=>aQ wc (FI w3 0) _ k hk;obtain⟨k1,k2⟩:=R.Z F5 (z:=wc.setCell (FI w3 0) (iI 8)) rfl rfl rfl aY (λk hk hf=>hb k (λe=>by
     subst e;rcases hf with hf|hf
     omega;exact ad hf))
    have e:∀j,j≠0->(wc.setCell (aA w3.heap.size 0) (iI 8)).cell? (aA w3.heap.size j)=wc.cell? (aA w3.heap.size j):=λj Q=>am _ _ _ _ (by intro q;injection q with _ q;exact Q q.symm);have d0:=az wc (aA w3.heap.size 0) (iI 8) b0;have d1:=(e 1 ak).trans o.i;have d2:=(e 2 ak).trans o.u;have d3:=(e 3 ak).trans o.j;have d4:=(e 4 ak).trans o.p;have d5:=(e 5 ak).trans o.h;have d6:=(e 6 ak).trans o.t;have d7:=(e 7 ak).trans o.x;have d8:=(e 8 ak).trans o.A;dsimp only at d1 d2 d3 d4 d5 d6 d7 d8;clear hb e b0 o dm R F5 ad;generalize wc.setCell ⟨w3.heap.size,0,none⟩ (.int .i64 8)=w6 at *;go_wp2_with (refine dS rfl 53 rfl ⟨8,mc,mn,d.bR,d.iK (bK mc:Nat),0,0,false,⟨#[]⟩⟩ rfl ?_)
    go_ret;rw[ci.out];exact⟨_,rfl,gg.one ⟨8,mc,mn,d.bR,d.iK (bK mc:Nat),0,0,false,⟨#[]⟩⟩ k2 k1⟩
  .have ci:Hid (s.ah ⟨mk,mc,mn,me,ms,mo,mv,ml,md⟩ now=({d with oQ:=ic d.oQ (bK mc:Nat) (mx (d.oQ (bK mc:Nat)) (now+d.b))},[d.ao 7 ⟨mk,mc,mn,me,ms,mo,mv,ml,md⟩])):=a1.out.trans (ay X);have Y:me=d.bR:=cK λq=>X (.inl q);have h2:= cK λq=>X (.inr q);have g1:(me != d.bR)=false:=dD Y;have g2:(ms != d.iK (bK mc:Nat))=false:=dD h2;have d9:IntKind.i64.wrap (now+d.b)=now+d.b:=jA ak ak;have ct:=Lease.YY (t:=a.T) (m:=a.m) (n:=d.n) (c:=bK mc) (u:=now+d.b) (D:=d.D) (v:=d.oQ) (s:=d.iK) (w:=w4.drew) F4.I.p cW (Num.fu ak ak);clear Y h2 X a1;refine Gen.start (S:=λJ=>J.cell? (FI w 3)=some (iI me)/\J.cell? (FI w 4)=some (iI ms)/\J.cell? (FI w3 3)=some (iI d.bR)/\J.cell? (FI w3 4)=some (iI (d.iK (bK mc:Nat)))/\J.cell? (FI w 1)=some (iI mc)/\J.cell? (aA a.S 47)=some (tp a.T)/\J.cell? (aA a.S 1)=some (iI d.b)) bt ⟨b3,b4,a3,a4,b1,bO,c1⟩ (λqH=>?_);refine tk 0 1 qH ?_;go_frame;refine tk 1 4 qH ?_;go_frame;refine tk 2 3 qH ?_;go_frame;refine tk 3 4 qH ?_;go_frame;refine tk 4 5 qH ?_;go_frame;refine tk 5 6 qH ?_;go_frame;refine tk 6 7 qH ?_;go_frame;refine tk 7 10 qH ?_;go_frame;refine tk 8 9 qH ?_;go_frame;refine tk 9 10 qH ?_;go_frame;refine tk 10 11 qH ?_;go_frame;refine tk 11 12 qH ?_;go_frame;refine tk 12 13 qH ?_;go_frame;refine tk 13 14 qH ?_;go_frame;refine tk 14 15 qH ?_;go_frame;refine tk 15 16 qH ?_;go_frame;refine tk 16 27 qH ?_;go_frame;refine tk 17 18 qH ?_;go_frame;refine tk 18 19 qH ?_;go_frame;refine tk 20 26 qH ?_;go_frame;refine tk 21 22 qH ?_;go_frame;refine tk 22 23 qH ?_;go_frame;refine tk 23 24 qH ?_;go_frame;refine tk 24 25 qH ?_;go_frame;refine tk 25 26 qH ?_;go_frame;refine tk 26 27 qH ?_;go_frame;refine oneG (i:=19) bt rfl rfl (by rfl) (λK hK=>?_);go_simp;refine(C _).mono ?_;rintro e w5⟨rfl,cw⟩;rw[cw];clear cw;dsimp only;refine hK.out _ _ ⟨b3,b4,a3,a4,b1,bO,c1⟩ (λqH=>?_);try simp only[Act.put,ax,aJ,aI]
   refine oneG (i:=27) bt rfl rfl (by rfl) (λK hK=>?_);go_simp;refine ct.mono ?_;rintro e w5⟨rfl,dn,cj⟩;dsimp only;have e5:∀k,k≠a.T->k<w4.heap.size->w5.heap[k]?=w4.heap[k]?:=λk hk hl=>cj.b k hl (dD hk);have eS:=e5 a.S ak ak;have eB:=e5 w.heap.size ak ak;have eA:=e5 w3.heap.size ak ak;have F5:=F4.I.an dn (cj.Z aY);have R:Fs a w w5:=bm.V.ob F4.I (cj.Z aY);have o:MB w5 w3.heap.size ⟨7,mc,mn,d.bR,d.iK (bK mc:Nat),0,0,false,⟨#[]⟩⟩:=by
    have e:∀j,w5.cell? (FI w3 j)=w4.cell? (FI w3 j):=λj=>aa eA;exact⟨(e _).trans g.y,(e _).trans g.i,(e _).trans g.u,(e _).trans g.j,(e _).trans g.p,(e _).trans g.h,(e _).trans g.t,(e _).trans g.x,(e _).trans g.A⟩
   refine hK.out _ _ ⟨(aa (a:=(FI w 3)) eB).trans b3,(aa (a:=(FI w 4)) eB).trans b4,(aa (a:=(FI w3 3)) eA).trans a3,(aa (a:=(FI w3 4)) eA).trans a4,(aa (a:=(FI w 1)) eB).trans b1,(aa (a:=(aA a.S 47)) eS).trans bO,(aa (a:=(aA a.S 1)) eS).trans c1⟩ (λqH=>?_);clear hK K;try simp only[Act.put,ax,aJ,aI]
   refine tk 28 29 qH ?_;go_frame;refine la 29 λK hK=>?_;go_simp;refine hK.out _ _ ?_;clear hK K;have b0:=o.y;have b1:=o.i;have b2:=o.u;have b3:=o.j;have b4:=o.p;have b5:=o.h;have b6:=o.t;have b7:=o.x;have b8:=o.A;dsimp only at b0 b1 b2 b3 b4 b5 b6 b7 b8;go_wp2_with (refine dS rfl 53 rfl ⟨7,mc,mn,d.bR,d.iK (bK mc:Nat),0,0,false,⟨#[]⟩⟩ rfl ?_)
   go_ret;rw[ci.out];exact⟨_,rfl,gg.one ⟨7,mc,mn,d.bR,d.iK (bK mc:Nat),0,0,false,⟨#[]⟩⟩ F5 R⟩
 .obtain⟨n,cA⟩:∃n,l.length=n+1:=⟨l.length-1,ak⟩;have HT:Hid (gg w w2 a (.slice av l.length cv) d l):=⟨⟨L.b.b.H ak,L.b.e⟩,L.h,cm⟩;have HL:Hid (l.length=n+1):=cA;have ea:decide ((0:Int)<((n+1:Nat):Int))=true:=aX ak;rw[cA];go_wp2;go_ret;rw[HE.out,aH (by rw[HL.out];omega),<-HL.out];exact⟨_,rfl,HT.out⟩
end Wld
namespace App
variable{xs:List Dv}{base size n:Nat}{P:Ft}{i:TypeInfo}
def Q0(w:Ba)(t j e:DU)(f:P.underlying t=some (.slice e))(h:P.info? e=some i)(b:i.size=size){v:Dv}(a:w.ownsRow base e size v n xs):
  (Builtin.append_ #[t,t] j #[v,.slice none 0 0]).run P w=.ok v w:=by
 rcases a.2 with⟨rfl,rfl⟩|⟨g,k,l,rfl,m,q,c,o,p,d⟩
 simp[Builtin.append_,iM f,sizeOf,typeInfo,h,Builtin.lenOf,Builtin.firstCells];simp[Builtin.append_,iM f,sizeOf,typeInfo,h,Builtin.lenOf,Builtin.firstCells,loadCells,c,storeCells]
def FB{w:Ba}{c:Array Oper}{rest:List Oper}{o:Oper}{a:Act}{Q:Exit->Act->Ba->Prop}(f:o.guard=none){s x:Operand}{t:DU}(g:o.op=.call {callee:=.builtin .append,args:=#[s,x],argTypes:=#[t,t]}){e:DU}(j:P.underlying t=some (.slice e))(k:P.info? e=some i)(b:i.size=size){v:Dv}(hs:a.eval s=v)(l:a.eval x=.slice none 0 0)(d:w.ownsRow base e size v n xs)(h:wpList P c Q rest (a.put o.dst v) w):wpList P c Q (o::rest) a w:=
 wpList_plain f λ_ m=>by
  unfold Oper.wp execOp;simp only[g,resolve,invoke,builtin,rL,Sem.run_pure,uk,iw,bT,fJ,hs,l,Q0 w t o.type e j k b d];exact m _ _ h
end App
namespace Wld
variable{a:Ad}{s:Sv}{w:Ba}
def T8.I{wr z:Ba}{v m:Dv}{l n:List M}(h:T8 w wr a v l)(hs:bZ wr a s)(y:Fs a w wr)(c:z.ownsRow w.heap.size 129 9 m (l.length+n.length) (gG l++gG n))(d:wr.grownBy z v.ownBlock)(o:∀g,m.ownBlock=some g->v.ownBlock=some g\/wr.heap.size<=g):
  T8 w z a m (l++n)/\bZ z a s/\Fs a w z:=by
 have C:=d.size;have p:∀k,k<wr.heap.size->(k<w.heap.size\/eM wr a k)->z.heap[k]?=wr.heap[k]?:=λk A j=>by
  have r:some k≠v.ownBlock:=λe=>by
   rcases j with j|j
   have:=(bj h.b k e.symm).1;omega;exact h.e k e.symm j
  exact d.block k A r
 obtain⟨k1,B⟩:=y.Z hs d.os d.tape d.output ak p;have u:=hs.e;refine⟨⟨by unfold gR;rw[aL,Bl];exact c,λg t f=>?_⟩,B,k1⟩;have x:= fe (aa (p a.U u.2.1 (.inr (.inr (.inr (.inr (.inl rfl))))))) (λi _=>aa (p a.S u.2.2.2.2.1 (.inr (.inr (.inr (.inl rfl)))))) f;rcases o g t with q|q
 exact h.e g q x;have:=hs.H x;omega
def TJ(now:Int){B:Nat}(h:bZ w a s)(hB:kR s B)(aS:B<=100000000000000):
  Calls prog 72 #[tp a.S,iI now] w λe w'=>∃v,e=.returned v/\gg w w' a v (s.ac now 8).1 (s.ac now 8).2:=by
 let ⟨i0,hi,K,t,L⟩:=dg jP
 have a0:=h.lt;go_in;go_wp2;go_loopw [5,7] (λv i wr=>∃k:Nat,k<=8/\i=iI k/\gg w wr a v (s.ac now k).1 (s.ac now k).2) (λ_ i _=>8-(intOf i).toNat)
 case atStart=>exact⟨0,ak,rfl,⟨T8.h,h,Fs.j⟩⟩
 case round=>
  obtain⟨k,hk,rfl,A⟩:=hrel;by_cases M:k<8
  .have d:Hid ((s.ac now (k+1)).1=((s.ac now k).1.H k now).1):=rfl;have f:Hid ((s.ac now (k+1)).2=(s.ac now k).2++((s.ac now k).1.H k now).2):=rfl;let ⟨m,hl⟩:=kR.I hB now k
   let ⟨y,hy⟩:∃y,s.ac now k=y:=⟨_,rfl⟩
   rw[hy]at A m hl d f;let ⟨s2,l⟩:=y
   dsimp only at A m hl d f;have a1:(k:Int)<8:=ak;have n:=rB now A.h M (m.i k) (λc=>by have:=m.p c;omega) m.Ey (λx=>by have:=m.Cs x;have:=m.D1;omega) m.oG m.oH;have z:=(m.h k now).2;let ⟨N,C⟩:∃N,s2.H k now=N:=⟨_,rfl⟩
   rw[C]at n d f z;let ⟨s3,o⟩:=N
   dsimp only at n d f z

   have D:Hid (gg w wr a u5 s2 l):=A

   go_wp2_with fail
   apply n.mono;rintro e w2⟨v2,rfl,E⟩

   have J:gg w w2 a u5 s3 l:=⟨D.out.b.j E.e,E.h,D.out.e.e E.e⟩;have bm:=D.out.e.b;let ⟨ao,co,O,bO,P⟩:=Net.cP E.b.b
   have F:=E.b.b;subst O;let ⟨av,cv,Q,bR,_⟩:=Net.cP J.b.b
   subst Q;have ci:=J.e.b

   have ⟨R,F2,T⟩:=J


   cases ao with
   |none=>
    obtain⟨U,rfl⟩:=P rfl;obtain rfl:o=[]:=dX U;have V:Hid (gg w w2 a (.slice av l.length cv) s3 l):=J

    go_wp2_with (at_builtin;refine App.FB rfl rfl underlying141 hi t rfl rfl R.b ?_)

    go_wp2;go_roundw
    case rel=>
     refine⟨k+1,ak,by go_num,?_⟩;rw[d.out,f.out,ei];exact V.out
    case measure=>simp[intOf];omega
   |some ad=>

    have W:∀j u,(gG o)[j]?=some u->w2.cell? (ad.add j)=some u:=by
     rcases F.2 with⟨q,_⟩|⟨g,cj,ck,q,_⟩
     injection q with q;cases q
     injection q with q _
     injection q with q
     subst q;exact Ep F (g:=g) rfl

    go_wp2_with (at_builtin;refine App.iC rfl rfl underlying141 hi K t L rfl cn rfl R.b ad o.length co (gG o) rfl (sV o) W (AA o) ?r3 ?r4 ?r5 ?_)
    case r3=>unfold maxLen;omega
    case r4=>omega
    case r5=>omega
    intro v5 w5 r X G;let ⟨O5,F5,Y⟩:=R.I F2 T r X G
    have Z:Hid (gg w w5 a v5 s3 (l++o)):=⟨O5,F5,Y⟩;go_wp2;go_roundw
    case rel=>
     refine⟨k+1,ak,by go_num,?_⟩;rw[d.out,f.out];exact Z.out
    case measure=>simp[intOf];omega
  .obtain rfl:k=8:=ak;have D :Hid _:= A;go_wp2;go_ret;exact⟨_,rfl,D.out⟩
end Wld
end Go.Proofs.YtbebfliimjjohabGreatDoor
