/- Parts of the proof. -/
import Derived.Test.YtbebfliimjjohabGreatDoorM32
set_option maxRecDepth 100000
set_option maxHeartbeats 8000000
set_option linter.all false
open Go.Proofs.Tryz
namespace Go.Proofs.YtbebfliimjjohabGreatDoor open Gen (la on tk tw tz)
open Go.RowKit Go.Maps
open Lease (Ob fN ic cy jm fY eI de bQ dW mx)
open Cache (tp aZ bq)
open Wal (R du bM Oq Fw cO)
open Num (M iH dq fO)
open Net (eD gJ dp)
open Bare (iZ)
namespace Wld
variable{d:DS}{o now:Int}{C k c m p:Nat}{u0 u2 u3:Dv}{A:Wa}{s:Wd}{w w':Ba}
def Oo(h:bF w A s)(c:fV s C)(q:C<=10000000000):
  Calls prog 30 #[tp A.Q] w λe w'=>e=.returned (.tuple #[])/\bF w' A s.aU/\Fz A s w A s.aU w':=by
 have d:=h.b.j;have f:=h.b.e 12411;have g:IntKind.i64.wrap (s.cm+1)=s.cm+1:=jA (jd c.O) (jd c.V);obtain⟨a,i⟩:=h.j (s.cm+1);have k:=a.b.o;have l:=a.b.e 12407;obtain⟨m,n⟩:=a.al;have p:Hid (bF ((w.setCell (aA A.Q 12411) (iI (s.cm+1))).setCell (aA A.Q 12407) (.pointer none)) A s.aU/\Fz A s w A s.aU ((w.setCell (aA A.Q 12411) (iI (s.cm+1))).setCell (aA A.Q 12407) (.pointer none))):=⟨m,i.e n⟩;go_in;go_upto_region 1 with fail
 generalize w.setCell (aA A.Q 12411) _=w2 at *;go_wp2;go_end0;exact⟨rfl,p.out⟩
def bF.aU(h:bF w A s){f:Bool}{l:Int}(hD:bM w' A.Q s.rs f l)(L:Oq A.Q w w'):
  (s.sv=none->bF w' A {s with qp:=f,sD:=l}/\Fz A s w A {s with qp:=f,sD:=l} w')/\(∀v,s.sv=some v->bF w' A (s.Z {v with iD:=f,eK:=l})/\Fz A s w A (s.Z {v with iD:=f,eK:=l}) w'):=by
 have ad:=h.I;let ⟨bR,aS,ck⟩:=h.H
 have d:∀k,k<w.heap.size->k≠A.Q->w'.heap[k]?=w.heap[k]?:=λk hk hq=>L.b k hk hq;have eQ:∀i,(i<3\/12405<=i)->w'.cell? (aA A.Q i)=w.cell? (aA A.Q i):=λi r=>L.o i ad r;have fQ:∀i,w'.frozen? (aA A.Q i)=w.frozen? (aA A.Q i):=λi=>L.u i ad;have R:=d A.G h.u.H (eX bR);have hN:eD w' (A.Q+1) A.Q (s.dP.map sE):=NetIs.ab h.p L.h (eQ _ ak) (eQ _ ak) fQ λv g D E=>by
  let ⟨v',z,hr⟩:=h.p.b
  rw[D]at z;injection z with z
  subst z;exact d g (cT hr E).2.H (jd ((cT hr E).1))
 have hE:∃v,cC w' (aA A.Q 12410) v/\w'.ownsRow (A.Q+1) 45 10 v s.bO.length (fq s.bO):=h.x.imp λv D=>⟨(eQ _ ak).trans D.1,aZ D.2 λg E=>d g (cT D.2 E).2.H (jd ((cT D.2 E).1))⟩;have hC:=h.b.H (L.x _ h.b.b) (λi h1 h2=>eQ i ak) fQ;have a0:∀j,j<s.n->bi w' (A.c j) (A.m j) (s.bm j).k:=λj K=>(h.o j K).j (d _ (h.o j K).H.1 (eX (aS j K).1)) (d _ (h.o j K).H.2 (eX (aS j K).2.1));have ci:∀M:Wd,M.n=s.n->(M.sv.isSome=true->s.sv.isSome=true)->∀k,k<w.heap.size->wfoot w' A M k->wfoot w A s k:=λM X N k hk f=>by
  rcases f with f|f|⟨v,f1,f2⟩|⟨i,r,f⟩|⟨i,r,f⟩|⟨f1,f2⟩
  exact .Q f;exact .G f;exact .ev v ((eQ _ ak).symm.trans f1) f2;exact .c i (X▸r) f;exact .m i (X▸r) f;let ⟨v,D⟩:=aP.1 (N f1)
  have u:=h.t v D;have hl:=u.b.e;have hq:=u.q;exact .sv (N f1) ((iE (d _ ak ak) (d _ ak ak) k).1 f2)
 have a1:∀M:Wd,M.n=s.n->(M.sv.isSome=true->s.sv.isSome=true)->Fz A s w A M w':=λM X N=>⟨L.y,L.s,L.p,L.h,λk hk hf _=>d k hk (λe=>hf (.Q e)),ci M X N,rfl⟩;refine⟨λY=>⟨⟨hC.I rfl rfl rfl rfl rfl rfl rfl,hD,hN,hE,h.u.e R,λi=>(aG (a:=(aA A.G i)) R).trans (h.C i),λj K=>(h.e j K).e R,a0,h.J,λv D=>?_,h.F,h.B⟩,a1 _ rfl (λq=>q)⟩,
  λv Y=>⟨⟨hC.I rfl rfl rfl (Y▸rfl) rfl rfl rfl,?_,hN,hE,h.u.e R,λi=>(aG (a:=(aA A.G i)) R).trans (h.C i),λj K=>(h.e j K).e R,a0,h.J,λx O=>?_,h.F,h.B⟩,a1 _ rfl (λ_=>Y▸rfl)⟩⟩
 have z:= D;rw[Y]at z;cases z;have u:=h.t v Y;show bM w' A.Q v.rs f l;rw[u.j];exact hD;have P:= O;injection P with P
 subst P;have u:=h.t v Y;have hq:=u.q;have hl:=u.b.e;have o1:=u.b.x;have o2:=u.b.W;have o3:=u.b.Z;have o4:=u.b.F;have cj:bZ w' A.a {v with iD:=f,eK:=l}:=by
  have hS:=d A.a.S ak ak;have e:∀i,w'.cell? (aA A.a.S i)=w.cell? (aA A.a.S i):=λi=>aa hS;have k:=u.b;exact⟨hS▸k.y,λi=>(aG (a:=(aA A.a.S i)) hS).trans (k.o i),(e 0).trans k.c0,(e 1).trans k.c1,(e 2).trans k.c2,(e 3).trans k.c3,(e 4).trans k.c4,(e 5).trans k.c5,(e 6).trans k.c6,λi r=>(e _).trans (k.vd i r),λi r=>(e _).trans (k.vv i r),λi r j u hu=>(e _).trans (k.la i r j u hu),(e 47).trans k.A,
   λi r=>(k.b i r).imp λx O=>⟨(e _).trans O.1,aZ O.2 λg E=>d g (cT O.2 E).2.H (jd ((cT O.2 E).1))⟩,λi j u v r K X hu D=>k.t i j u v r K X ((e _).symm.trans hu) ((e _).symm.trans D),
   WalIs.ab k.B L.h (d A.a.U ak ak) (λx g O E=>d g (qA.H (k.V O E).2) (jd ((k.V O E).1))),(by rw[u.q,u.j];exact hD),k.p.e (d _ ak ak) (d _ ak ak),by rw[d A.a.T ak ak];exact k.tt,k.x,k.W,k.Z,k.F,k.C⟩
 exact⟨cj,u.q,rfl,rfl,rfl,u.o,u.p,u.t⟩
def OB(x c:Int)(h:bF w A s):
  Calls prog 11 #[tp A.Q,iI x,iI c] w λe w'=>e=.returned (.tuple #[])/\bF w' A (s.ab x c)/\Fz A s w A (s.ab x c) w':=by
 have i:=Wal.Lb s.sD (mx x 0) h.y;have n:=mx0 x;rw[aX n,show max (mx x 0) 0=mx x 0 by omega]at i;have I:Hid ((if x<0 then 0 else x)=mx x 0):=rfl;have d:Calls prog 33 #[.pointer (some (aA A.Q 3)),iI (if x<0 then 0 else x)] w λe w'=>e=.returned (.tuple #[])/\bM w' A.Q s.rs true (mx x 0)/\Oq A.Q w w':=i;obtain⟨y,D⟩:∃y,(if x<0 then 0 else x)=y:=⟨_,rfl⟩;rw[D]at d;have p:Hid (mx x 0=y):=D;rw[p.out]at d;cases hs:s.sv with
 |none=>
  have q:Hid (s.ab x c = {s with qp:=true,sD:=y}):=by
   unfold Hid Wd.ab;rw[hs];dsimp only;rw[p.out]
  go_in;go_wp2_with fail
  refine d.mono ?_;rintro e w2⟨rfl,j,k⟩;obtain⟨l,r⟩:=(h.aU j k).1 hs;have g:=pU l;have f:= hs;rw[f]at g;have E:Hid (bF w2 A (s.ab x c)/\Fz A s w A (s.ab x c) w2):=by rw[q.out];exact⟨l,r⟩
  go_wp2_with fail
  refine g.mono ?_;rintro e w3⟨rfl,rfl⟩;go_wp2;go_end0;exact⟨rfl,E.out⟩
 |some v=>
  have q:Hid (s.ab x c=(s.Z {v with iD:=true,eK:=y}).Z { ({v with iD:=true,eK:=y}:Sv) with xU:=c}):=by
   unfold Hid Wd.ab;rw[hs];dsimp only;rw[p.out];rfl
  go_in;go_wp2_with fail
  refine d.mono ?_;rintro e w2⟨rfl,j,k⟩;obtain⟨l,r⟩:=(h.aU j k).2 v hs;have g:=pU l;have f:(s.Z {v with iD:=true,eK:=y}).sv=some {v with iD:=true,eK:=y}:=rfl;rw[f]at g;have m:=l.b.o;rw[f]at m;unfold LI at m;have u:=l.t _ f;have z:=TH c u.b;have F:Hid (∀w3,bZ w3 A.a { ({v with iD:=true,eK:=y}:Sv) with xU:=c}->Fs A.a w2 w3->bF w3 A (s.ab x c)/\Fz A s w A (s.ab x c) w3):=λw3 B C=>by
   obtain⟨G,H⟩:=l.af f B C rfl rfl;rw[q.out];exact⟨G,r.e H⟩
  go_wp2_with fail
  refine g.mono ?_;rintro e w3⟨rfl,rfl⟩;go_wp2_with fail
  refine z.mono ?_;rintro e w4⟨rfl,B,C⟩;go_wp2;go_end0;exact⟨rfl,(F.out w4 B C)⟩
def CT{v:Sv}{y:Int}{E:Dv}(h:bF w A s)(hs:s.sv=some v)(c:∀{w},bZ w A.a v->Calls prog 208 #[tp A.a.S,iI o] w λe w'=>e=.returned (.tuple #[.agg #[.string d,iI y],E])/\FF w w'):
  Calls prog 152 #[tp A.Q,iI o] w λe w'=>e=.returned (.tuple #[.agg #[.string d,iI y],E])/\FF w w':=by
 obtain⟨m,_⟩:=h.h (show FF w (w.alloc (.cells #[.string ⟨#[]⟩,iI 0] 41)) from(au _ _).alloc (aj _) _);have f:=pU m;rw[hs]at f;have g:=m.b.o;rw[hs]at g;unfold LI at g;have c:=c (m.t v hs).b;have r:=h.I;have u:A.Q≠w.heap.size:=ak;clear h m;go_in;go_wp2_with fail
 refine f.mono ?_;rintro e w2⟨rfl,j⟩;rw[j];clear j f;go_wp2_with fail
 refine c.mono ?_;rintro e w3⟨rfl,k⟩;generalize l:w.alloc (.cells #[.string ⟨#[]⟩,iI 0] 41)=w1 at *;have x:w1.heap.size=w.heap.size+1:=by rw[<-l];simp
 have n:FF w w1:=by rw[<-l];exact(au _ _).alloc (aj _) _
 have z:cC w1 (FI w 0) (.string ⟨#[]⟩):=by rw[<-l];exact bN _ _ _ _ _ _ (bo w _)
 have B:cC w1 (FI w 1) (iI 0):=by rw[<-l];exact bN _ _ _ _ _ _ (bo w _)
 have q:∀i,w1.frozen? (FI w i)=false:=λi=>by rw[<-l];simp
 have C:=(k.cell (p:=(FI w 0)) jB).trans z;have D:=(k.cell (p:=(FI w 1)) jB).trans B;have G:=(k.frozen (p:=(FI w 0)) jB).trans (q 0);have H:=(k.frozen (p:=(FI w 1)) jB).trans (q 1);have F:Hid (FF w ((w3.setCell (FI w 0) (.string d)).setCell (FI w 1) (iI y))):=((n.trans (k.mono ak)).setCell (p:=(FI w 0)) (aj _) _).setCell (p:=(FI w 1)) (aj _) _;go_wp2;exact bn (v:=.tuple #[.agg #[.string _,iI _],E]) (by simp[results,results152,go_sem,C,D]) rfl ⟨rfl,F.out⟩
def bF.aw(h:bF w A s)(hs:s.sv=none){a:Ad}{v:Sv}(hS:bZ w' a v)(n:a.q=A.Q)(r:Oq A.Q w w')(R:∀k,eM w' a k->k=A.Q\/w.heap.size<=k)(h1:v.i=s.b)(h2:v.b=s.i):
  bF (w'.setCell ⟨A.Q,12407,none⟩ (tp a.S)) {A with a:=a} (s.Z v)/\Fz A s w {A with a:=a} (s.Z v) (w'.setCell ⟨A.Q,12407,none⟩ (tp a.S)):=by
 have E:=h.I;obtain⟨ad,K,bm⟩:=h.H;have hl:=hS.e;have hz:=r.h;have z:∀k,k≠A.Q->(w'.setCell ⟨A.Q,12407,none⟩ (tp a.S)).heap[k]?=w'.heap[k]?:=λk L=>aQ w' ⟨A.Q,12407,none⟩ (tp a.S) k L;have O:∀k,k<w.heap.size->k≠A.Q->(w'.setCell ⟨A.Q,12407,none⟩ (tp a.S)).heap[k]?=w.heap[k]?:=λk L n=>(z k n).trans (r.b k L n);have T:∀i,i≠12407->(w'.setCell ⟨A.Q,12407,none⟩ (tp a.S)).cell? ⟨A.Q,i,none⟩=w'.cell? ⟨A.Q,i,none⟩:=λi d=>am _ _ _ _ (by intro q;injection q with _ q;exact d q.symm);have l:∀i,(i<3\/12405<=i)->i≠12407->(w'.setCell ⟨A.Q,12407,none⟩ (tp a.S)).cell? ⟨A.Q,i,none⟩=w.cell? ⟨A.Q,i,none⟩:=λi d hn=>(T i hn).trans (r.o i E d);have V:∀i,(w'.setCell ⟨A.Q,12407,none⟩ (tp a.S)).frozen? ⟨A.Q,i,none⟩=w'.frozen? ⟨A.Q,i,none⟩:=λi=>aT _ _ _ _;have fQ:∀i,(w'.setCell ⟨A.Q,12407,none⟩ (tp a.S)).frozen? ⟨A.Q,i,none⟩=w.frozen? ⟨A.Q,i,none⟩:=λi=>(V i).trans (r.u i E);have bO:(w'.setCell ⟨A.Q,12407,none⟩ (tp a.S)).heap.size=w'.heap.size:=aY;have hG:=O A.G h.u.H (eX ad);have hN:eD (w'.setCell ⟨A.Q,12407,none⟩ (tp a.S)) (A.Q+1) A.Q (s.dP.map sE):=NetIs.ab h.p ak (l _ ak ak) (l _ ak ak) fQ λv g P W=>by
  obtain⟨v',D,hr⟩:=h.p.b;rw[P]at D;injection D with D
  subst D;exact O g (cT hr W).2.H (jd ((cT hr W).1))
 have hD:= DiskIs.ab (n▸hS.J) (λi _ _=>T i ak) V;have aS:= hS.ae ak (n▸hD) (λk L a0=>z k (n▸a0));have c:=h.b;have X:=c.o;rw[hs]at X;have Y:= (r.o _ E ak).trans X;refine⟨⟨⟨(Wal.cZ (r.x _ h.b.b)),λi=>(fQ i).trans (c.e i),(l _ ak ak).trans c.t,(l _ ak ak).trans c.u,(l _ ak ak).trans c.x,az _ _ _ Y,(l _ ak ak).trans c.p,(l _ ak ak).trans c.h,(l _ ak ak).trans c.j⟩,
  hD,hN,h.x.imp λv P=>⟨(l _ ak ak).trans P.1,aZ P.2 λg W=>O g (cT P.2 W).2.H (jd ((cT P.2 W).1))⟩,h.u.e hG,λi=>(aG (a:=⟨A.G,i,none⟩) hG).trans (h.C i),λj M=>(h.e j M).e hG,
  λj M=>(h.o j M).j (O _ (h.o j M).H.1 (eX (K j M).1)) (O _ (h.o j M).H.2 (eX (K j M).2.1)),h.J,λx hx=>?_,h.F,h.B⟩,
  ⟨r.y,r.s,r.p,ak,λk L hf _=>O k L (λe=>hf (.Q e)),λk L f=>?_,rfl⟩⟩
 have N:= hx;injection N with N
 subst N;refine⟨aS,n,rfl,rfl,rfl,λi d e=>?_,h1,h2⟩;have e':A.m i=a.m:=e;have hm:=(h.o i d).H.2;rcases R a.m (.inr (.inl rfl)) with q|q
 exact((K i d).2.1) (by rw[e',q]);omega;rcases f with f|f|⟨x,f1,f2⟩|⟨i,d,f⟩|⟨i,d,f⟩|⟨f1,f2⟩
 exact .Q f;exact .G f;exact .ev x ((l _ ak ak).symm.trans f1) f2;exact .c i d f;exact .m i d f;have a1:= (iE (z a.U (by rw[<-n];omega)) (z a.S (by rw[<-n];omega)) k).1 f2;rcases R k a1 with q|q
 exact .Q q;omega
def Oq.ab{q:Nat}(h:Oq q w w')(c:0<q)(a:iZ w):iZ w':=by
 have h0:=a;unfold Bare.iZ at h0⊢;exact(aa (h.b 0 (Bare.iZ.h a) ak)).trans h0
def CP(s:Wd)(C:Nat)(w:Ba)(h:bF w A s)(hs:s.sv=none)(k:fV s C)(m:s.rs.length=200->0<A.Q/\iZ w):
  Calls prog 58 #[tp A.Q] w λe w'=>e=.returned (.tuple #[])/\∃a,bF w' {A with a:=a} s.start/\Fz A s w {A with a:=a} s.start w':=by
 have l:=Wal.Lb s.sD (-1) h.y;rw[show decide ((0:Int)<=-1)=false from rfl,show max (-1:Int) 0=0 from rfl]at l;let ⟨n1,R,T,U,V⟩:=kR.aw (to':=s.b) (tv:=s.i) (td:=s.o) (now:=s.dJ) k.o k.H
 go_in;go_wp2_with fail
 apply l.mono;rintro e w2⟨rfl,F,z⟩;let ⟨g,X⟩:=(h.aU F z).1 hs
 have G:Hid (s.rs.length=200->0<A.Q/\iZ w2):=λq=>⟨(m q).1,Oq.ab z (m q).1 (m q).2⟩


 go_upto_region 1 with fail
 let ⟨N,z2⟩:=g.h (au w2.heap.size w2).drew
 have B:=Ti N.y N.I k.H G.out (λr Y=>(k.o r Y).2.2.2.2.2) U V k.W k.c1 k.y k.u;have c0:=g.b.t;have c1:=g.b.u;have c2:=g.b.x;have n:=g.b.p;dsimp only at c0 c1 c2 n;refine Gen.start (S:=λw'=>w'.cell? ⟨A.Q,0,none⟩=some (.int .i64 s.b)/\w'.cell? ⟨A.Q,1,none⟩=some (.int .i64 s.i)/\w'.cell? ⟨A.Q,2,none⟩=some (.int .i64 s.o)/\w'.cell? ⟨A.Q,12408,none⟩=some (.int .i64 s.dJ)) bt ⟨c0,c1,c2,n⟩ (λqH=>?_);refine tz ?_;refine on 12 λK j=>?_;go_simp;apply B.mono;rintro e w3⟨a,J,rfl,L,d,D⟩;have c:Oq A.Q w2 w3:=⟨d.y,d.s,d.p,d.h,d.b,d.o,d.u,d.x⟩;have f:=g.I;have M:=(c.o 0 f ak).trans c0;have d1:=(c.o 1 f ak).trans c1;have d2:=(c.o 2 f ak).trans c2;have d4:=(c.o 12408 f ak).trans n;have v:=g.b.o;have E:({s with qp:=false,sD:=0}:Wd).sv=none:=hs;rw[E]at v;unfold LI at v;have O:=(c.o 12407 f ak).trans v;have Z:=(c.u 12407 f).trans (g.b.e 12407);let ⟨y1,y2⟩:=g.aw E L J c D R T
 have P:Hid (bF (w3.setCell ⟨A.Q,12407,none⟩ (tp a.S)) {A with a:=a} s.start/\Fz A s w {A with a:=a} s.start (w3.setCell ⟨A.Q,12407,none⟩ (tp a.S))):=⟨y1,X.e y2⟩;have e0:(w3.setCell ⟨A.Q,12407,none⟩ (tp a.S)).cell? ⟨A.Q,0,none⟩=some (.int .i64 s.b):=by rw[am _ _ _ _ (by intro q;injection q with _ q;omega)];exact M
 have e1:(w3.setCell ⟨A.Q,12407,none⟩ (tp a.S)).cell? ⟨A.Q,1,none⟩=some (.int .i64 s.i):=by rw[am _ _ _ _ (by intro q;injection q with _ q;omega)];exact d1
 have e2:(w3.setCell ⟨A.Q,12407,none⟩ (tp a.S)).cell? ⟨A.Q,2,none⟩=some (.int .i64 s.o):=by rw[am _ _ _ _ (by intro q;injection q with _ q;omega)];exact d2
 have e4:(w3.setCell ⟨A.Q,12407,none⟩ (tp a.S)).cell? ⟨A.Q,12408,none⟩=some (.int .i64 s.dJ):=by rw[am _ _ _ _ (by intro q;injection q with _ q;omega)];exact d4

 refine j.out _ _ ⟨M,d1,d2,d4⟩ (λqH=>?_)


 refine tz ?_;refine tw 15 18 (λK j=>?_) λK j=>?_
 .go_simp;refine j.out _ _ ⟨M,d1,d2,d4⟩ (λqH=>?_)


  refine la 18 λK j=>?_;go_simp;apply j.out _ _

  go_wp2;go_end0;exact⟨rfl,a,P.out⟩
 .go_simp;refine j.out _ _ ⟨e0,e1,e2,e4⟩ (λqH=>?_)


  refine la 15 λK j=>?_;go_simp;apply j.out _ _

  go_wp2;go_end0;exact⟨rfl,a,P.out⟩
def eu(w:World)(G k c:Nat)(life:Int):World:=((w.setCell ⟨G,k*4,none⟩ (tp c)).setCell ⟨G,k*4+2,none⟩ (.int .i64 life)).setCell ⟨G,k*4+3,none⟩ (.int .i64 (-1))
def CE{Q G n:Nat}(tob tv td life:Int)(w:Ba)(o:w.cell? ⟨Q,12409,none⟩=some (.slice (some ⟨G,0,none⟩) n n))(h0:w.cell? ⟨Q,0,none⟩=some (.int .i64 tob))(N:w.cell? ⟨Q,1,none⟩=some (.int .i64 tv))(O:w.cell? ⟨Q,2,none⟩=some (.int .i64 td))(P:k<n)(R:n<=4)(g0:w.cell? ⟨G,k*4,none⟩=some u0)(t:w.cell? ⟨G,k*4+2,none⟩=some u2)(u:w.cell? ⟨G,k*4+3,none⟩=some u3)(v:∀i,w.frozen? ⟨G,i,none⟩=false)(f:0<=tob)(x:tob<=1099511627776)(g:0<=tv)(y:tv<=1099511627776)(h:0<=td)(z:td<=500)(A:0<=life)(B:life<=1000000000000):
  Calls prog 57 #[tp Q,.int .i64 k,.int .i64 life] w λe w'=>e=.returned (.tuple #[])/\∃c q w2,FF w w2/\bi w2 c q (K.j (life*4+k) (ij td tob) (ij td tv))/\w.heap.size<=c/\w.heap.size<=q/\w'=eu w2 G k c life:=by
 have a:=cz _ _ g0;dsimp only at a;have C:(0:Int)<=(k:Int):=ak;have D:(k:Int)<(n:Int):=ak;have E:IntKind.i64.wrap (life*4)=life*4:=jA ak ak;have F:IntKind.i64.wrap (life*4+(k:Int))=life*4+(k:Int):=jA ak ak;go_in;go_wp2_with fail
 refine(WN tob tv td (life*4+k) w f x g y h z).mono ?_;rintro e w2⟨c,q,rfl,H,hc,I,d⟩;have S:=(d.cell (p:=(aA G (k*4))) a).trans g0;have T:=(d.cell (p:=(aA G (k*4+2))) a).trans t;have r3:=(d.cell (p:=(aA G (k*4+3))) a).trans u;have l:=λi=>(d.frozen (p:=(aA G i)) a).trans (v i);have J:=l (k*4);have L:=l (k*4+2);have M:=l (k*4+3);have r:Hid (∃m s b,FF w b/\bi b m s (K.j (life*4+k) (ij td tob) (ij td tv))/\w.heap.size<=m/\w.heap.size<=s/\eu w2 G k c life=eu b G k m life):=⟨c,q,w2,d,H,hc,I,rfl⟩;unfold eu at r;go_wp2;go_end0;exact⟨rfl,r.out⟩
def vu(w:Ba)(G k c:Nat)(life:Int){x:Nat}(a:x≠G):(eu w G k c life).heap[x]?=w.heap[x]?:=by
 unfold eu;rw[aQ _ (aA G (k*4+3)) _ x a,aQ _ (aA G (k*4+2)) _ x a,aQ _ (aA G (k*4)) _ x a]
def xD(w:Ba)(G k c:Nat)(life:Int):(eu w G k c life).heap.size=w.heap.size/\(eu w G k c life).os=w.os/\(eu w G k c life).tape=w.tape/\(eu w G k c life).output=w.output:=by
 unfold eu;exact⟨aY,rfl,rfl,rfl⟩
def jo(w:Ba)(G k c:Nat)(life:Int){i:Nat}(d:i≠k*4)(a:i≠k*4+2)(b:i≠k*4+3):(eu w G k c life).cell? ⟨G,i,none⟩=w.cell? ⟨G,i,none⟩:=by
 unfold eu;rw[am _ _ _ _ (by intro q;injection q with _ q;omega),am _ _ _ _ (by intro q;injection q with _ q;omega),am _ _ _ _ (by intro q;injection q with _ q;omega)]
def AK(w:Ba)(G k c:Nat)(life:Int)(g0:w.cell? ⟨G,k*4,none⟩=some u0)(a:w.cell? ⟨G,k*4+2,none⟩=some u2)(b:w.cell? ⟨G,k*4+3,none⟩=some u3):(eu w G k c life).cell? ⟨G,k*4,none⟩=some (tp c)/\(eu w G k c life).cell? ⟨G,k*4+2,none⟩=some (.int .i64 life)/\(eu w G k c life).cell? ⟨G,k*4+3,none⟩=some (.int .i64 (-1)):=by
 have d:(w.setCell ⟨G,k*4,none⟩ (tp c)).cell? ⟨G,k*4+2,none⟩=some u2:=by rw[am _ _ _ _ (by intro q;injection q with _ q;omega)];exact a
 have e:((w.setCell (aA G (k*4)) (tp c)).setCell (aA G (k*4+2)) (iI life)).cell? (aA G (k*4+3))=some u3:=by
  rw[am _ _ _ _ (by intro q;injection q with _ q;omega),am _ _ _ _ (by intro q;injection q with _ q;omega)];exact b
 unfold eu;refine⟨?_,?_,az _ _ _ e⟩;rw[am _ _ _ _ (by intro q;injection q with _ q;omega),am _ _ _ _ (by intro q;injection q with _ q;omega)];exact az _ _ _ g0;rw[am _ _ _ _ (by intro q;injection q with _ q;omega)];exact az _ _ _ d
def AJ(w:Ba)(G k c:Nat)(life:Int)(p:Addr):(eu w G k c life).frozen? p=w.frozen? p:=by
 unfold eu;rw[aT,aT,aT]
def bF.aq{w2:Ba}{q:Nat}{life:Int}{X:K}(h:bF w A s)(hk:k<s.n)(D:FF w w2)(hC:bi w2 c q X)(hc:w.heap.size<=c)(hq:w.heap.size<=q):
  bF (eu w2 A.G k c life) {A with c:=cq A.c k c,m:=cq A.m k q} {s with bm:=cq s.bm k {s.bm k with k:=X,pF:=life,kH:=-1} }/\Fz A s w {A with c:=cq A.c k c,m:=cq A.m k q} {s with bm:=cq s.bm k {s.bm k with k:=X,pF:=life,kH:=-1} } (eu w2 A.G k c life):=by
 obtain⟨x,_⟩:=h.h D;have Y:=h.I;obtain⟨N,Z,bO⟩:=h.H;have a1:=h.u.H;obtain⟨m1,m2,m3,m4⟩:=xD w2 A.G k c life;have bR:=D.size;have o:∀y,y≠A.G->(eu w2 A.G k c life).heap[y]?=w2.heap[y]?:=λy E=>vu w2 A.G k c life E;have O:∀y,y<w.heap.size->y≠A.G->(eu w2 A.G k c life).heap[y]?=w.heap[y]?:=λy E hG=>(o y hG).trans (D.block y E);have hQ:=o A.Q N;have P:∀i,(eu w2 A.G k c life).cell? (aA A.Q i)=w2.cell? (aA A.Q i):=λi=>aa hQ;have ad:∀i,(eu w2 A.G k c life).cell? (aA A.Q i)=w.cell? (aA A.Q i):=λi=>aa (O A.Q Y N);have fQ:∀i,(eu w2 A.G k c life).frozen? (aA A.Q i)=w2.frozen? (aA A.Q i):=λi=>aG hQ;have hN:= NetIs.ab x.p ak (P _) (P _) fQ λv g d hg=>by
  obtain⟨v',z,hr⟩:=x.p.b;rw[d]at z;injection z with z
  subst z;exact o g ((cT hr hg).2.j x.u cn)
 have hD:= DiskIs.ab x.y (λi _ _=>P i) fQ;have r:∀v,s.sv=some v->∀y,eM w2 A.a y->y≠A.a.q->(eu w2 A.G k c life).heap[y]?=w2.heap[y]?:=λv d y E aS=>o y λe=>by
  have u:=x.t v d;have R:A.G≠A.a.q:=e▸aS;exact u.b.ag x.u R cn (e▸E)
 have V:=x.e k hk;obtain⟨n0,n2,n3⟩:=AK w2 A.G k c life V.b V.o V.j;have cc:=x.b.H (x.b.b.e hQ) (λi _ _=>P i) fQ;have S:LI {A with c:=cq A.c k c,m:=cq A.m k q} s.sv=LI A s.sv:=by cases s.sv<;>rfl
 refine⟨⟨⟨cc.b,cc.e,cc.t,cc.u,cc.x,cc.o.trans (by rw[<-S]),cc.p,cc.h,cc.j⟩,hD,hN,x.x.imp λv d=>⟨(P _).trans d.1,aZ d.2 λg hg=>o g ((cT d.2 hg).2.j x.u cn)⟩,?_,λi=>by rw[AJ];exact x.C i,λl T=>?_,λl T=>?_,λi j L hj a0=>?_,λv d=>?_,h.F,h.B⟩,
  ⟨m2.trans D.os,m3.trans D.tape,m4.trans D.output,ak,λy E hf _=>O y E (λe=>hf (.G e)),λy E f=>?_,rfl⟩⟩
 unfold eu;exact Wal.cZ (Wal.cZ (Wal.cZ x.u));show rA _ A.G l (cq A.c k c l) (cq s.bm k _ l);by_cases e:l=k;subst e;rw[da,da];exact⟨n0,(jo w2 A.G l c life (i:=l*4+1) ak ak ak).trans V.h,n2,n3⟩;rw[dM e,dM e];have y:=x.e l T;exact⟨(jo w2 A.G k c life ak ak ak).trans y.b,(jo w2 A.G k c life ak ak ak).trans y.h,(jo w2 A.G k c life ak ak ak).trans y.o,(jo w2 A.G k c life ak ak ak).trans y.j⟩;show bi _ (cq A.c k c l) (cq A.m k q l) (cq s.bm k _ l).k;by_cases e:l=k;subst e;rw[da,da,da];exact hC.j (o c ak) (o q ak);rw[dM e,dM e,dM e];have kd:=Z l T;exact(x.o l T).j (o _ (eX kd.2.2.1)) (o _ (eX kd.2.2.2));show cq A.c k c i≠cq A.c k c j/\cq A.m k q i≠cq A.m k q j;unfold cq;have li:=(h.o i L).H;have lj:=(h.o j hj).H;have ap:=h.J i j L hj a0;split<;>split;omega;exact⟨ak,ak⟩;exact⟨ak,ak⟩;exact ap;have u:=x.t v d;refine⟨u.b.ae ak (by rw[u.q,u.j,u.e,u.h];exact hD) (r v d),u.q,u.j,u.e,u.h,λi L e=>?_,u.p,u.t⟩;have e':cq A.m k q i=A.a.m:=e;have hm:=(h.t v d).b.e.2.2.1;unfold cq at e';split at e';omega;exact(h.t v d).o i L e';rcases f with f|f|⟨v,W,f2⟩|⟨i,L,f⟩|⟨i,L,f⟩|⟨W,f2⟩
 exact .Q f;exact .G f;exact .ev v ((ad _).symm.trans W) f2;have M:y=cq A.c k c i:=f;unfold cq at M;split at M;omega;exact .c i L M;have M:y=cq A.m k q i:=f;unfold cq at M;split at M;omega;exact .m i L M;obtain⟨v,d⟩:=aP.1 W;have u:=x.t v d;have u0:=h.t v d;have T:=u.b.e;have U:=u0.b.e;have f3:= (iE (r v d _ (.inr (.inr (.inr (.inl rfl)))) ak) (r v d _ (.inr (.inr (.inl rfl))) ak) y).1 f2;exact .sv W ((iE (D.block _ U.2.1) (D.block _ U.2.2.2.2.1) y).1 f3)
def J6(h:bF w A s)(p:k<s.n)(a:fV s C)(Z:C<=10000000000):
  Calls prog 32 #[tp A.Q,.int .i64 k] w λe w'=>e=.returned .nilIface/\∃g,bF w' g (s.bs k)/\Fz A s w g (s.bs k) w':=by
 have I:=kJ k h;have z:s.ah k=true:=by
  unfold Wd.ah;exact aX ⟨ak,ak⟩
 rw[z]at I;have M:=h.b.j;have N:=h.b.e 12411;obtain⟨d,P⟩:=h.j (s.cm+1);have R:IntKind.i64.wrap (s.cm+1)=s.cm+1:=jA (jd a.O) (jd a.V);have f:=a.s k p;have S:IntKind.i64.wrap ((s.bm k).pF+1)=(s.bm k).pF+1:=jA (jd f.h) (jd f.i);have y:=d.e k p;have l:=CE s.b s.i s.o ((s.bm k).pF+1) _ d.b.h d.b.t d.b.u d.b.x p d.B y.b y.o y.j d.C a.F (jd a.x) a.y (jd a.u) a.A a.B (jd f.h) (jd f.i);have D:=d.b.h;have c2:=y.o;dsimp only at D c2;have T:(0:Int)<=(k:Int):=ak;have U:(k:Int)<(s.n:Int):=ak;have n4:=h.B;have J:Hid (∀c q w2,Below (w.setCell (aA A.Q 12411) (iI (s.cm+1))).heap.size (w.setCell (aA A.Q 12411) (iI (s.cm+1))) w2->bi w2 c q (K.j (((s.bm k).pF+1)*4+k) (ij s.o s.b) (ij s.o s.i))->(w.setCell (aA A.Q 12411) (iI (s.cm+1))).heap.size<=c->(w.setCell (aA A.Q 12411) (iI (s.cm+1))).heap.size<=q->∃g,bF (eu w2 A.G k c ((s.bm k).pF+1)) g (s.bs k)/\Fz A s w g (s.bs k) (eu w2 A.G k c ((s.bm k).pF+1))):=λc q w2 r v E H=>by
  obtain⟨W,X⟩:=d.aq (life:=(s.bm k).pF+1) p r v E H;exact⟨_,W,P.e X⟩
 go_in;go_wp2_with fail
 refine I.mono ?_;rintro e w2⟨rfl,rfl⟩;go_upto_region 4 with fail
 generalize w2.setCell (aA A.Q 12411) _=w3 at *;go_wp2_with fail
 refine l.mono ?_;rintro e w4⟨rfl,c,q,Y,r,v,E,H,m⟩;have L:=J.out c q Y r v E H;rw[<-m]at L;clear J l r v m;go_wp2;go_ret;exact⟨rfl,L⟩
def lJ{k:K}(h:k.h o=0):0<=o/\o<=7:=by
 unfold K.h at h;split at h;cases h;split at h;rename_i a;simp[Lease.eI,Num.lY]at a;omega;cases h
structure Gi(w w':World)(A:Wa)(s:Wd)(k:Nat)(c:K):Prop where
 b:bF w' A (s.ac k c)
 e:Fz A s w A (s.ac k c) w'
def Pg(s:Wd)(k:Nat):s.ac k (s.bm k).k=s:=by
 unfold Wd.ac;have:cq s.bm k {s.bm k with k:=(s.bm k).k} = s.bm:=by
  funext j;unfold cq;split;rename_i e;rw[e];rfl
 rw[this]
def K.af(k:K)(o now:Int):K:=if k.h o=0 then k.ao o now else k
def K.ac(k:K)(o:Int)(d:ByteArray)(now:Int):K:=if k.e o d=0 then k.V 2 o d 0 false false now else k
def O0{k:K}(o now:Int)(h:bi w c m k)(d:KB k C)(i:C<=100000000000):
  Calls prog 42 #[tp c,iI o,iI now] w λe w'=>e=.returned (eV (k.h o))/\bi w' c m (k.af o now)/\Ob [c,m] w w':=by
 unfold K.af;by_cases a:k.h o=0;rw[aH a,a];let ⟨h0,f⟩:=lJ a
 exact Ws o now h a d.b (jd d.u) h0 f (jd d.n) (λx g=>(d.F x g).1) rfl;rw[ay a];apply (Sp o now h a).mono;rintro e w'⟨rfl,rfl⟩;exact⟨rfl,h,Ob.V _ _⟩
def Kn{k:K}(o:Int)(d:DS)(now:Int)(h:bi w c m k)(f:KB k C)(i:C<=100000000000)(g:d.size<=1000000):
  Calls prog 60 #[tp c,iI o,.string d,iI now] w λe w'=>e=.returned (eV (k.e o d))/\bi w' c m (k.ac o d now)/\Ob [c,m] w w':=by
 unfold K.ac;by_cases a:k.e o d=0;rw[aH a,a];exact Sq h a f.b (jd f.u);rw[ay a];apply (Oa now h g a).mono;rintro e w'⟨rfl,rfl⟩;exact⟨rfl,h,Ob.V _ _⟩
def OZ(h:bF w A s)(d:k<s.n)(v:fV s C)(x:C<=100000000000)(i:cC w (aA p 0) (iI o))(g:p≠A.c k/\p≠A.m k):
  Calls prog 41 #[.pointer (some (aA A.G (k*4))),tp p] w λe w'=>e=.returned (eV ((s.bm k).k.h o))/\Gi w w' A s k ((s.bm k).k.af o (s.bm k).fo):=by
 let ⟨u,y⟩:=h.h (au w.heap.size w).drew
 have z:Hid (∀w2,bi w2 (A.c k) (A.m k) ((s.bm k).k.af o (s.bm k).fo)->Ob [A.c k,A.m k] w.drew w2->Gi w w2 A s k ((s.bm k).k.af o (s.bm k).fo)):=λw2 j f=>by
  let ⟨B,D⟩:=u.O d j f
  exact⟨B,y.e D⟩
 have l:∀w2,Ob [A.c k,A.m k] w.drew w2->cC w2 (aA p 0) (iI o):=λw2 f=>(aa (a:=(aA p 0)) (f.b p (cz _ _ i) (by simp[g.1,g.2]))).trans i;go_in;go_upto_region 1 with fail
 refine Gen.start (S:=λw'=>cC w' (aA A.G (k*4)) (tp (A.c k))/\cC w' (aA A.G (k*4+1)) (iI (s.bm k).fo)/\cC w' (aA p 0) (iI o)) bt ⟨((h.e k d).b),((h.e k d).h),i⟩ (λqH=>?_);refine tz ?_;refine on 9 λK q=>?_;go_simp;apply (O0 o (s.bm k).fo (u.o k d) (v.s k d).k x).mono;rintro e w2⟨rfl,j,f⟩;have r:=z.out w2 j f;have d1:=(r.b.e k d).h;have t:∀c:Wld.K,((s.ac k c).bm k).fo=(s.bm k).fo:=λc=>by unfold Wd.ac;dsimp only;rw[da]
 rw[t]at d1

 refine q.out _ _ ⟨((r.b.e k d).b),d1,l w2 f⟩ (λqH=>?_)

 refine la 10 λK q=>?_;go_simp;apply q.out _ _;go_wp2;go_ret;exact⟨rfl,r⟩
def Km{q:Nat}(h:bF w A s)(g:k<s.n)(D:fV s C)(E:C<=100000000000)(l:cC w (aA p 0) (iI o))(r:cC w (aA q 0) (.string d))(F:d.size<=1000000)(i:p≠A.c k/\p≠A.m k)(j:q≠A.c k/\q≠A.m k):
  Calls prog 59 #[.pointer (some (aA A.G (k*4))),tp p,tp q] w λe w'=>e=.returned (eV ((s.bm k).k.e o d))/\Gi w w' A s k ((s.bm k).k.ac o d (s.bm k).fo):=by
 let ⟨B,H⟩:=h.h (au w.heap.size w).drew
 have I:Hid (∀w2,bi w2 (A.c k) (A.m k) ((s.bm k).k.ac o d (s.bm k).fo)->Ob [A.c k,A.m k] w.drew w2->Gi w w2 A s k ((s.bm k).k.ac o d (s.bm k).fo)):=λw2 t f=>by
  let ⟨J,L⟩:=B.O g t f
  exact⟨J,H.e L⟩
 have u:∀w2,Ob [A.c k,A.m k] w.drew w2->cC w2 (aA p 0) (iI o):=λw2 f=>(aa (a:=(aA p 0)) (f.b p (cz _ _ l) (by simp[i.1,i.2]))).trans l;have v:∀w2,Ob [A.c k,A.m k] w.drew w2->cC w2 (aA q 0) (.string d):=λw2 f=>(aa (a:=(aA q 0)) (f.b q (cz _ _ r) (by simp[j.1,j.2]))).trans r;go_in;go_upto_region 1 with fail
 refine Gen.start (S:=λw'=>cC w' (aA A.G (k*4)) _/\cC w' (aA A.G (k*4+1)) _/\cC w' (aA p 0) _/\cC w' (aA q 0) _) bt ⟨((h.e k g).b),((h.e k g).h),l,r⟩ (λqH=>?_);refine tz ?_;refine on 10 λK x=>?_;go_simp;apply (Kn o d (s.bm k).fo (B.o k g) (D.s k g).k E F).mono;rintro e w2⟨rfl,t,f⟩;have y:=I.out w2 t f;have d1:=(y.b.e k g).h;have z:∀c:Wld.K,((s.ac k c).bm k).fo=(s.bm k).fo:=λc=>by unfold Wd.ac;dsimp only;rw[da]
 rw[z]at d1

 refine x.out _ _ ⟨((y.b.e k g).b),d1,u w2 f,v w2 f⟩ (λqH=>?_)

 refine la 11 λK x=>?_;go_simp;apply x.out _ _;go_wp2;go_ret;exact⟨rfl,y⟩
def uc:(prog.info? 45).map (λi=>(i.zero,i.size,i.bytes))=some (some (.agg #[iI 0,iI 0,iI 0,.string ⟨#[]⟩,iI 0,.bool false,.bool false,iI 0,iI 0,iI 0]),10,80):=bt
def Ov(e:Ev):∀u∈eE e,u.oneCell'=true:=by
 intro u a;unfold eE at a;simp at a;rcases a with rfl|rfl|rfl|rfl|rfl|rfl|rfl|rfl|rfl|rfl<;>rfl
def WC{e:Ev}:Instr.fill (λi=>some (i*10,10)) ((Array.range (1*10)).map ((Value.agg #[iI 0,iI 0,iI 0,.string ⟨#[]⟩,iI 0,.bool false,.bool false,iI 0,iI 0,iI 0]).cells[· % (Value.agg #[iI 0,iI 0,iI 0,.string ⟨#[]⟩,iI 0,.bool false,.bool false,iI 0,iI 0,iI 0]).cells.size]!)) [(0,.agg (eE e).toArray)]=some (eE e).toArray:=by
 have h0:Array.range 0=#[]:=rfl;simp[Instr.fill,eE,Value.cells,Array.range_succ,h0]
def TO{o:Oper}{a:Act}{K:Act->Ba->Prop}{Q:Exit->Act->Ba->Prop}(t:Nat)(d:o.op=.buildSlice 38 1 #[(0,.tmp t)])(e:Ev)(f:a.eval (.tmp t)=.agg (eE e).toArray)(h:K (a.put o.dst (.slice (some (FI w 0)) 1 1)) (w.alloc (.cells (eE e).toArray 45))):o.wp prog a w K Q:=by
 obtain⟨g,i,c,b,j⟩:=dg uc;refine wp_buildSlice 38 45 1 _ d _ g _ underlying38 i c (by rw[b];decide) (by rw[b];decide) ?_ h;rw[b];simp only[iw,bT,fJ,f];exact WC
def WB(w:Ba)(e:Ev):∀j u,(eE e)[j]?=some u->(w.alloc (.cells (eE e).toArray 45)).cell? (((FI w 0):Addr).add j)=some u:=by
 intro j u a;rw[Net.K8,bN _ _ _ _ _ _ (bo w _),bY,bH];exact a
def Kh{X:Type}(f:Nat->X)(k:Nat)(a b:X):cq (cq f k a) k b=cq f k b:=by
 funext j;unfold cq;split<;>rfl
def Ag{f:Nat}{caps:Array Dv}{c:K}{er:Int}(h:bF w A s)(hk:k<s.n)(hB:fV s C)(hC:C<=10000000000)(cB:KB c (C+2))(ci:er≠0->c=(s.bm k).k)(d7:∀args w,(callFunc f args).run prog w=.ok (.enter f args) w)(D:Calls prog f (#[.pointer (some (aA A.G (k*4)))]++caps) w λe w'=>e=.returned (eV er)/\Gi w w' A s k c):
  Calls prog 40 #[tp A.Q,iI k,.func (.func f) #[] caps] w λe w'=>e=.returned (eV er)/\bF w' A (if er=0 then s.al k c else s)/\Fz A s w A (if er=0 then s.al k c else s) w':=by
 have hh:=kJ k h;have cj:s.ah k=true:=by
  unfold Wd.ah;exact aX ⟨ak,ak⟩
 rw[cj]at hh;have cG:=h.b.h;have d8:(0:Int)<=(k:Int):=ak;have d9:(k:Int)<(s.n:Int):=ak;have n4:=h.B;have HC:Hid (er≠0->c=(s.bm k).k):=ci;clear ci cj;by_cases he:er=0
 .subst he;rw[aH rfl];rw[show eV 0=.nilIface from rfl]at D⊢;have ea:IntKind.i64.wrap (s.cm+1)=s.cm+1:=jA (jd hB.O) (jd hB.V);go_in;go_wp2_with fail
  refine hh.mono ?_;rintro e w2⟨rfl,rfl⟩;go_wp2_with fail
  refine D.mono ?_;rintro e w3⟨rfl,B3⟩;obtain⟨W,x2⟩:=B3;have ck:=W.b.j;have cW:=W.b.e 12411;obtain⟨y1,y2⟩:=W.j (s.cm+1);have cl:(s.ac k c).cm=s.cm:=rfl;rw[cl]at ck;clear D hh h;go_upto_region 8 with fail
  generalize w3.setCell ⟨A.Q,12411,none⟩ (.int .i64 (s.cm+1))=w4 at *;obtain⟨v,hv,M⟩:=y1.x;obtain⟨ao,cp,dd,df,dk⟩:=Net.cP M;subst dd;have d3:=(y1.e k hk).j;have fG:=y1.C (k*4+3);obtain⟨R,z2⟩:=y1.ai hk s.bO.length;have dm:({s.ac k c with cm:=s.cm+1}:Wd).bO=s.bO:=rfl;rw[dm]at hv M;clear df dk ck cW cG;go_upto_region 9 with fail
  generalize w4.setCell ⟨A.G,k*4+3,none⟩ (.int .i64 (s.bO.length:Nat))=m at *;obtain⟨v5,E,d⟩:=R.x;have t:=R.b.j;have d2:=(R.e k hk).o;dsimp only at E d t d2;rw[da]at d2;dsimp only at d2;obtain⟨i0,hi,dn,dr,ds⟩:=dg uc;obtain⟨a5,c5,dt,dv,_⟩:=Net.cP d;subst dt;have eb:=hB.Z;have dy:((s.ac k c).bm k).pF=(s.bm k).pF:=by unfold Wd.ac;dsimp only;rw[da]
  rw[dy]at d2;obtain⟨ne,co⟩:∃ne:Ev,ne=⟨k,0,0,⟨#[]⟩,0,false,false,s.cm+1,0,(s.bm k).pF⟩:=⟨_,rfl⟩;have a0:=R.I;have cs:=R.u.H;have J:∀g,(Value.slice a5 s.bO.length c5).ownBlock=some g->g≠A.Q/\g≠A.G:=λg X=>⟨by have:=(cT d X).1;omega,(cT d X).2.j R.u cn⟩;have Y:(s.ac k c).bO=s.bO:=rfl;refine Gen.start (S:=λw'=>w'.cell? (aA A.Q 12410)=some (.slice a5 s.bO.length c5)/\w'.cell? (aA A.Q 12411)=some (iI (s.cm+1))/\w'.cell? (aA A.G (k*4+2))=some (iI (s.bm k).pF)) bt ⟨E,t,d2⟩ (λqH=>?_);refine tk 0 17 qH ?_;go_frame;refine tk 1 2 qH ?_;go_frame;refine tk 2 3 qH ?_;go_frame;refine tk 3 4 qH ?_;go_frame;refine tk 4 16 qH ?_;go_frame;refine tk 5 14 qH ?_;go_frame;refine tk 6 7 qH ?_;go_frame;refine tk 7 8 qH ?_;go_frame;refine tk 8 9 qH ?_;go_frame;refine tk 9 14 qH ?_;go_frame;refine tk 10 11 qH ?_;go_frame;refine tk 11 12 qH ?_;go_frame;refine tk 12 13 qH ?_;go_frame;refine tk 13 14 qH ?_;go_frame;refine tk 14 15 qH ?_;go_frame;refine on 15 λK hK=>?_;refine TO 55 rfl ne (co▸rfl) ?_;have b6:FF m (m.drew.alloc (.cells (eE ne).toArray 45)):=by
   have:=((au m.drew.heap.size m.drew).alloc (aj _) (.cells (eE ne).toArray 45));exact⟨this.os,this.tape,this.output,this.size,this.block⟩
  have q1:=(b6.cell (p:=(aA A.Q 12410)) a0).trans E;have q2:=(b6.cell (p:=(aA A.Q 12411)) a0).trans t;have q3:=(b6.cell (p:=(aA A.G (k*4+2))) cs).trans d2;refine hK.out _ _ ⟨q1,q2,q3⟩ (λqH=>?_);clear hK K;try simp only[Act.put,ax,aJ,aI]
  refine on 16 λK hK=>?_;refine App.mh _ _ rfl underlying38 hi dn dr ds rfl cn rfl (qF d.drew _) (FI m 0) 1 1 rfl rfl (WB m.drew ne) (Ov ne) (by rw[Y];unfold maxLen;omega) (by rw[Y];omega) (by have:m.drew.heap.size=m.heap.size:=rfl;simp;omega) ?_;intro z r F L N;obtain⟨a7,c7,dz,_,_⟩:=Net.cP F;have ec:=L.size;have ef:(m.drew.alloc (.cells (eE ne).toArray 45)).heap.size=m.heap.size+1:=aY;have T:∀y,y<m.heap.size->(Value.slice a5 s.bO.length c5).ownBlock≠some y->r.heap[y]?=m.heap[y]?:=λy hy hn=>(L.block y ak (λe=>hn e.symm)).trans (ff m.drew _ y hy);have l:=T A.Q a0 (λe=>(J _ e).1 rfl);have ad:=T A.G cs (λe=>(J _ e).2 rfl);have r1:=(aa (a:=(aA A.Q 12410)) l).trans E;have r2:=(aa (a:=(aA A.Q 12411)) l).trans t;have r3:=(aa (a:=(aA A.G (k*4+2))) ad).trans d2;have dJ:r.frozen? (aA A.Q 12410)=false:=(aG (a:=(aA A.Q 12410)) l).trans (R.b.e 12410);have HX:Hid (bF (r.setCell (aA A.Q 12410) z) A (s.ai k c)/\Fz A s w2 A (s.ai k c) (r.setCell (aA A.Q 12410) z)):=by
   have o8:∀y,y≠A.Q->(r.setCell (aA A.Q 12410) z).heap[y]?=r.heap[y]?:=λy hy=>aQ r (aA A.Q 12410) z y hy;have e1:∀y,y<m.heap.size->y≠A.Q->(∀v,m.cell? (aA A.Q 12410)=some v->v.ownBlock≠some y)->(r.setCell (aA A.Q 12410) z).heap[y]?=m.heap[y]?:=λy hy dN dP=>(o8 y dN).trans (T y hy (dP _ E));have e2:∀i,i≠12410->(r.setCell (aA A.Q 12410) z).cell? (aA A.Q i)=m.cell? (aA A.Q i):=λi hi=>(am _ _ _ _ (by intro q;injection q with _ q;exact hi q.symm)).trans (aa l);have e3:∀i,(r.setCell (aA A.Q 12410) z).frozen? (aA A.Q i)=m.frozen? (aA A.Q i):=λi=>(aT _ _ _ _).trans (aG l);have e4:qA (r.setCell (aA A.Q 12410) z) A.Q 81:=Wal.cZ (R.b.b.e l);have e5:(r.setCell (aA A.Q 12410) z).cell? (aA A.Q 12410)=some z:=az _ _ _ r1;have ct:∀g,z.ownBlock=some g->g≠A.Q:=λg X e=>by
    rcases N g X with q|q
    exact(J g q).1 e;omega
   have e6:(r.setCell (aA A.Q 12410) z).ownsRow (A.Q+1) 45 10 z (s.bO++[ne]).length (fq (s.bO++[ne])):=by
    rw[aL,GM];exact aZ F λg X=>o8 g (ct g X)
   have e7:∀g,z.ownBlock=some g->g<m.heap.size->∃v,m.cell? (aA A.Q 12410)=some v/\v.ownBlock=some g:=λg X P=>by
    rcases N g X with q|q
    exact⟨_,E,q⟩;omega
   have e8:m.heap.size<=(r.setCell (aA A.Q 12410) z).heap.size:=by
    have:(r.setCell (aA A.Q 12410) z).heap.size=r.heap.size:=aY;omega
   obtain⟨p1,p2⟩:=bF.Z R (w':=r.setCell (aA A.Q 12410) z) L.os L.tape L.output e8 e1 e2 e3 e4 e5 e6 e7;have dT:s.ai k c = { ({ ({s.ac k c with cm:=s.cm+1}:Wd) with bm:=cq (s.ac k c).bm k { (s.ac k c).bm k with kH:=(s.bO.length:Nat)} }:Wd) with bO:=s.bO++[ne]}:=by
    unfold Wd.ai Wd.ac;dsimp only;rw[Kh,da,co]
   rw[dT];exact⟨p1,((x2.e y2).e z2).e p2⟩
  refine hK.out _ _ ⟨r1,r2,r3⟩ (λqH=>?_);clear hK K F L N;subst dz;try simp only[Act.put,ax,aJ,aI]
  refine tk 17 18 qH ?_;go_frame;refine tk 18 19 qH ?_;go_frame;refine la 19 λK hK=>?_;go_simp;refine hK.out _ _ ?_;clear hK K qH;have a1:Hid (bF (r.setCell (aA A.Q 12410) (.slice a7 (s.bO.length+1) c7)) A (s.ai k c)/\Fz A s w2 A (s.ai k c) (r.setCell (aA A.Q 12410) (.slice a7 (s.bO.length+1) c7))):=HX.out;clear HX;clear y1 y2 R z2 W x2 hv M E d t d2 d3 fG T l ad r1 r2 r3 dJ b6 q1 q2 q3 J dv;generalize r.setCell ⟨A.Q,12410,none⟩ (.slice a7 (s.bO.length+1) c7)=w8 at *;have U:fV (s.ai k c) (C+2):=hB.a2 cB;have cv:=Ha a1.out.1 hk (U.s k hk).j;go_wp2_with fail
  refine cv.mono ?_;rintro e w9⟨rfl,p1,p2⟩;have bR:fV ((s.ai k c).V k) (C+2):=U.an k;have d0:((s.ai k c).V k).n=s.n:=by unfold Wd.V;split<;>rfl
  have cw:k<((s.ai k c).V k).n:=d0▸hk;have f3:=(p1.e k cw).j;have p3:=a1.out.2.e p2;clear cv a1 p2;by_cases P:(((s.ai k c).V k).bm k).kH<0
  .have g0:decide (0<=(((s.ai k c).V k).bm k).kH)=false:=aK ak;have HF:Hid (bF w9 A (s.al k c)/\Fz A s w2 A (s.al k c) w9):=by
    unfold Wd.al Wd.b6;rw[aH P];exact⟨p1,p3⟩
   clear p1 p3 P bR U;go_wp2;go_ret;exact⟨rfl,HF.out⟩
  .have g0:decide (0<=(((s.ai k c).V k).bm k).kH)=true:=aX ak;have aS:=Lm A ((s.ai k c).V k) k (C+2) w9 p1 cw bR ak;have HE:Hid (s.al k c=((s.ai k c).V k).b5 k):=by
    unfold Hid Wd.al Wd.b6;rw[ay P]
   clear p1 P bR U;go_wp2_with fail
   refine aS.mono ?_;rintro e cA⟨rfl,q1,q2⟩;have HF:Hid (bF cA A (s.al k c)/\Fz A s w2 A (s.al k c) cA):=by
    rw[HE.out];exact⟨q1,p3.e q2⟩
   clear q1 q2 p3 aS;go_wp2;go_ret;exact⟨rfl,HF.out⟩
 .rw[ay he];rw[Aj he]at D⊢;have d6:=HC.out he;rw[d6]at D;go_in;go_wp2_with fail
  refine hh.mono ?_;rintro e w2⟨rfl,rfl⟩;go_wp2_with fail
  refine D.mono ?_;rintro e w3⟨rfl,B3⟩;obtain⟨W,x2⟩:=B3;rw[Pg]at W x2;have HF:Hid (bF w3 A s/\Fz A s w2 A s w3):=⟨W,x2⟩;clear D hh W x2 h;go_wp2;go_ret;exact⟨rfl,HF.out⟩
def Hd{k:K}(h:KB k C)(o:Int)(h0:0<=now)(c:now<=549755813888):KB (k.af o now) (C+2):=by
 unfold K.af;split;rename_i d;let ⟨a,b⟩:=lJ d
 exact h.ac a b h0 c;exact h.H ak
def my{k:K}(h:k.e o d=0):0<=o/\o<=7/\d.size<=20:=by
 unfold K.e at h;split at h;rename_i q;exact(q h).elim;rename_i q;split at h;cases h;have:=lJ (dD q);omega
def CV{k:K}(h:KB k C)(o:Int)(d:DS)(h0:0<=now)(e:now<=549755813888):KB (k.ac o d now) (C+2):=by
 unfold K.ac;split;rename_i f;let ⟨a,b,c⟩:=my f
 exact(h.ab 2 c 0 false false a b h0 e).H ak;exact h.H ak
def Pb(o:Int)(h:bF w A s)(g:k<s.n)(i:fV s C)(x:C<=10000000000):
  Calls prog 16 #[tp A.Q,iI k,iI o] w λe w'=>e=.returned (eV ((s.bm k).k.h o))/\bF w' A (if (s.bm k).k.h o=0 then s.cc k o else s)/\Fz A s w A (if (s.bm k).k.h o=0 then s.cc k o else s) w':=by
 have y:=(h.o k g).H;obtain⟨j,l⟩:=h.h (show FF w (w.alloc (.cells #[.int .i64 o] 3)) from(au _ _).alloc (aj _) _);have m:(w.alloc (.cells #[.int .i64 o] 3)).cell? ⟨w.heap.size,0,none⟩=some (.int .i64 o):=bN _ _ _ _ _ _ (bo w _);have a:=i.s k g;have d:=OZ (A:=A) (s:=s) (k:=k) (p:=w.heap.size) (C:=C) (o:=o) j g i ak m ⟨ak,ak⟩;have c:=Ag (A:=A) (s:=s) (k:=k) (C:=C) (caps:=#[tp w.heap.size]) j g i x (Hd a.k o a.b a.e) (λq=>ay q) (λ_ _=>rfl) d;have f:(if (s.bm k).k.h o=0 then s.al k ((s.bm k).k.af o (s.bm k).fo) else s)=if (s.bm k).k.h o=0 then s.cc k o else s:=by
  split;rename_i z;unfold K.af Wd.cc;rw[aH z];rfl
 rw[f]at c;generalize (if (s.bm k).k.h o=0 then s.cc k o else s)=r at *;have t:Hid (Fz A s w A s (w.alloc (.cells #[.int .i64 o] 3))):=l;clear d f j l h i a m;go_in;go_wp2_with fail
 refine c.mono ?_;rintro e w3⟨rfl,u,v⟩;have B:Hid (bF w3 A r/\Fz A s w A r w3):=⟨u,t.out.e v⟩;clear c u v t;go_wp2;go_ret;exact⟨rfl,B.out⟩
def Kp(o:Int)(d:DS)(h:bF w A s)(j:k<s.n)(l:fV s C)(B:C<=10000000000)(D:d.size<=1000000):
  Calls prog 23 #[tp A.Q,iI k,iI o,.string d] w λe w'=>e=.returned (eV ((s.bm k).k.e o d))/\bF w' A (if (s.bm k).k.e o d=0 then s.b8 k o d else s)/\Fz A s w A (if (s.bm k).k.e o d=0 then s.b8 k o d else s) w':=by
 have E:=(h.o k j).H;have f:FF w ((w.alloc (.cells #[.int .i64 o] 3)).alloc (.cells #[.string d] 9)):=((au _ _).alloc (aj _) _).alloc aY _;obtain⟨m,r⟩:=h.h f;have t:((w.alloc (.cells #[.int .i64 o] 3)).alloc (.cells #[.string d] 9)).cell? ⟨w.heap.size,0,none⟩=some (.int .i64 o):=aY;have u:((w.alloc (.cells #[.int .i64 o] 3)).alloc (.cells #[.string d] 9)).cell? ⟨w.heap.size+1,0,none⟩=some (.string d):=aY;have a:=l.s k j;have g:=Km (A:=A) (s:=s) (k:=k) (p:=w.heap.size) (q:=w.heap.size+1) (C:=C) (o:=o) (d:=d) m j l ak t u D ⟨ak,ak⟩ ⟨ak,ak⟩;have c:=Ag (A:=A) (s:=s) (k:=k) (C:=C) (caps:=#[tp w.heap.size,tp (w.heap.size+1)]) m j l B (CV a.k o d a.b a.e) (λq=>ay q) (λ_ _=>rfl) g;have i:(if (s.bm k).k.e o d=0 then s.al k ((s.bm k).k.ac o d (s.bm k).fo) else s)=if (s.bm k).k.e o d=0 then s.b8 k o d else s:=by
  split;rename_i F;unfold K.ac Wd.b8;rw[aH F];rfl
 rw[i]at c;generalize (if (s.bm k).k.e o d=0 then s.b8 k o d else s)=v at *;have x:Hid (Fz A s w A s ((w.alloc (.cells #[.int .i64 o] 3)).alloc (.cells #[.string d] 9))):=r;clear g i m r h l a t u f;go_in;go_wp2_with fail
 refine c.mono ?_;rintro e w3⟨rfl,y,z⟩;have G:Hid (bF w3 A v/\Fz A s w A v w3):=⟨y,x.out.e z⟩;clear c y z x;go_wp2;go_ret;exact⟨rfl,G.out⟩
end Wld
end Go.Proofs.YtbebfliimjjohabGreatDoor
