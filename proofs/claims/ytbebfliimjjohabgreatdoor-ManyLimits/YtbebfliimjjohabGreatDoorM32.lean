/- Parts of the proof. -/
import Derived.Test.YtbebfliimjjohabGreatDoorM31
set_option maxRecDepth 100000
set_option maxHeartbeats 8000000
set_option linter.all false
open Go.Proofs.Tryz
namespace Go.Proofs.YtbebfliimjjohabGreatDoor
open Go.RowKit Go.Maps Go
open Lease (Ob gv gV cL ji fV fg dA bX eE mx kk)
open Cache (tp bp bD E lP qm)
open Wal (R dE bW Oq Fw cY jf fo)
open Net (fm ik cF)
open Num (M iC dD)
namespace Wld
variable{d:Bh}{x:E}{o now t td:Int}{k c:K}{L:List E}{m:M}{i C D:Nat}{A:Wa}{w s:Wd}{w':A1}
def bM.V{w:A1}(h:bM w A s){l:List (Int×M)}(hN:fm w' (A.Q+1) A.Q (l.map mD))(z:ik (A.Q+1) 201 A.Q w w'):bM w' A {s with dM:=l}/\Fz A s w A {s with dM:=l} w':=by
 have N:=h.I;have E:∀k t,rD w k t->k≠A.Q->t≠201->w'.heap[k]?=w.heap[k]?:=λk t D K ht=>z.b k D.H K (.inr λc f e=>D.j ⟨c,f,e⟩ ht rfl);have O:∀k,isM w k->k<w.heap.size->k≠A.Q->w'.heap[k]?=w.heap[k]?:=λk D Y K=>z.b k Y K (.inr λc f e=>D _ _ _ e);have S:∀i,(i<12405\/12406<i)->w'.cell? (aA A.Q i)=w.cell? (aA A.Q i):=λi P=>z.o i N (by omega) P;have Z:∀i,w'.frozen? (aA A.Q i)=w.frozen? (aA A.Q i):=λi=>z.s i N (by omega);obtain⟨U,R,ad⟩:=h.H;have W:=E A.G _ h.u (fE U) (by decide);have d:∀v,s.sv=some v->∀k,fy w A.a k->k≠A.a.q->w'.heap[k]?=w.heap[k]?:=λv n k D K=>by
  have u:=h.t v n;have r:k≠A.Q:=by rw[<-u.q];exact K
  rcases u.b.ag D with f|f|f|f|f|f|f
  exact(K f).elim;exact O k (by rw[f];exact qe u.b.p.b) (u.b.H D) r;exact E k _ f r (by decide);exact E k _ f r (by decide);exact E k _ f r (by decide);exact E k _ f r (by decide);exact E k _ f r (by decide)
 have hD:= DiskIs.ab h.y (λi h1 h2=>S i (by omega)) Z;refine⟨⟨(h.b.H (z.u _ (by omega) h.b.h) (λi h1 h2=>S i (by omega)) Z).I rfl rfl rfl rfl rfl rfl rfl,hD,hN,h.x.imp λv n=>⟨(S _ (by omega)).trans n.1,bp n.2 λg hg=>E g _ (dg n.2 hg).2 (by have:=(dg n.2 hg).1;omega) (by decide)⟩,h.u.e W,λi=>(aJ (a:=(aA A.G i)) W).trans (h.C i),λj L=>(h.e j L).e W,
  λj L=>(h.o j L).j (E _ _ (h.o j L).ac (fE (R j L).1) (by decide)) (O _ (h.o j L).af (h.o j L).H.2 (fE (R j L).2.1)),h.J,λv n=>?_,h.F,h.B⟩,
  ⟨z.x,z.p,z.j,z.h,λk D hf hp=>z.b k D (λe=>hf (.Q e)) (by
   by_cases K:A.Q<k;exact .inr λc f e=>hp ⟨K,c,f,e⟩;exact .inl (by omega)),λk D f=>?_,rfl⟩⟩
 have u:=h.t v n;exact⟨u.b.ae z.h (by rw[u.q,u.j,u.e,u.h];exact hD) (d v n),u.q,u.j,u.e,u.h,u.o,u.p,u.t⟩;rcases f with f|f|⟨v,T,X⟩|⟨i,P,f⟩|⟨i,P,f⟩|⟨T,X⟩
 exact .Q f;exact .G f;exact .ev v ((S _ (by omega)).symm.trans T) X;exact .c i P f;exact .m i P f;obtain⟨v,n⟩:=aV.1 T;have Y:=(h.t v n).b.e;exact .sv T ((jg (d v n _ (.inr (.inr (.inr (.inl rfl)))) (by omega)) (d v n _ (.inr (.inr (.inl rfl))) (by omega)) k).1 X)
def bM.af{w:A1}(h:bM w A s){v n:Sv}(r:s.sv=some v)(V:cx w' A.a n)(d:Fs A.a w w')(h1:n.i=v.i)(h2:n.b=v.b):bM w' A (s.Z n)/\Fz A s w A (s.Z n) w':=by
 have u:=h.t v r;have ad:=h.I;obtain⟨P,L,aI⟩:=h.H;have l:∀i,(i<3\/12405<=i)->w'.cell? (aA A.Q i)=w.cell? (aA A.Q i):=λi M=>by rw[<-u.q];exact d.s i M
 have W:∀i,w'.frozen? (aA A.Q i)=w.frozen? (aA A.Q i):=λi=>by rw[<-u.q];exact d.x i
 have O:∀k t,rD w k t->k≠A.Q->(t≠144/\t≠296/\t≠301/\t≠138/\t≠129)->w'.heap[k]?=w.heap[k]?:=λk t E hq ht=>d.o k E.H (u.b.af E (by rw[u.q];exact hq) ht);have R:=O A.G _ h.u (fE P) (by decide);have S:(s.Z n).sv=some n:=rfl;refine⟨⟨?_,by rw[<-u.q];exact V.Z,NetIs.ab h.p d.b (l _ (by omega)) (l _ (by omega)) W ?_,h.x.imp λv r=>⟨(l _ (by omega)).trans r.1,bp r.2 λg N=>O g _ (dg r.2 N).2 (by have:=(dg r.2 N).1;omega) (by decide)⟩,h.u.e R,λi=>(aJ (a:=(aA A.G i)) R).trans (h.C i),λj z=>(h.e j z).e R,
  λj z=>(h.o j z).j (O _ _ (h.o j z).ac (fE (L j z).1) (by decide)) (d.o _ (h.o j z).H.2 (u.b.aq (h.o j z).af (by rw[u.q];exact fE (L j z).2.1) (u.o j z))),h.J,λx K=>?_,h.F,h.B⟩,
  ⟨d.A,d.u,d.p,d.b,λk E hf hp=>d.o k E (λe=>hf (.sv (by rw[r];rfl) e)),λk E f=>?_,rfl⟩⟩
 have c:=h.b;have T:w'.cell? ⟨A.Q,12407,none⟩=some (LR A (s.Z n).sv):=by
  rw[l _ (by omega),c.o,r];rfl
 exact⟨by have:=d.y _ (by rw[u.q];exact c.h);rw[u.q]at this;exact this,λi=>(W i).trans (c.b i),(l _ (by omega)).trans c.t,(l _ (by omega)).trans c.u,(l _ (by omega)).trans c.x,T,(l _ (by omega)).trans c.p,(l _ (by omega)).trans c.e,(l _ (by omega)).trans c.j⟩;intro x g K N;obtain⟨n,D,X⟩:=h.p.b;rw[K]at D;injection D with D
 subst D;exact O g _ (dg X N).2 (by have:=(dg X N).1;omega) (by decide);rw[S]at K;injection K with K
 subst K;exact⟨V,u.q,rfl,rfl,rfl,u.o,h1.trans u.p,h2.trans u.t⟩;rcases f with f|f|⟨v,Y,U⟩|⟨i,M,f⟩|⟨i,M,f⟩|⟨Y,U⟩
 exact .Q f;exact .G f;exact .ev v ((l _ (by omega)).symm.trans Y) U;exact .c i M f;exact .m i M f;exact .sv (by rw[r];rfl) (d.h k E U)
def bM.ap{w:A1}{s':Wd}{x:Bg}(h:bM w A s)(N:12407<=i)(ad:i≠12410)(hc:xB (w.setCell ⟨A.Q,i,none⟩ x) A s')(V:s'.rs=s.rs)(W:s'.oP=s.oP)(X:s'.tR=s.tR)(e4:s'.dM=s.dM)(D:s'.n=s.n)(Y:s'.aI=s.aI)(e7:s'.ba=s.ba)(Z:s'.sv=s.sv\/s'.sv=none)(e9:s'.b=s.b)(P:s'.i=s.i):bM (w.setCell ⟨A.Q,i,none⟩ x) A s'/\Fz A s w A s' (w.setCell ⟨A.Q,i,none⟩ x):=by
 have aS:=h.I;let ⟨R,E,a0⟩:=h.H
 have r:∀k,k≠A.Q->(w.setCell (aA A.Q i) x).heap[k]?=w.heap[k]?:=λk O=>aX w (aA A.Q i) x k O;have K:∀j,j≠i->(w.setCell ⟨A.Q,i,none⟩ x).cell? ⟨A.Q,j,none⟩=w.cell? ⟨A.Q,j,none⟩:=λj z=>ak _ _ _ _ (by intro q;injection q with _ q;exact z q.symm);have fQ:∀j,(w.setCell ⟨A.Q,i,none⟩ x).frozen? ⟨A.Q,j,none⟩=w.frozen? ⟨A.Q,j,none⟩:=λj=>bb _ _ _ _;have a1:(w.setCell ⟨A.Q,i,none⟩ x).heap.size=w.heap.size:=by simp
 have S:=r A.G (fE R);have hD:= DiskIs.ab h.y (λj h1 h2=>K j (by omega)) fQ;have hN:= NetIs.ab h.p (by omega) (K _ (by omega)) (K _ (by omega)) fQ λv g l T=>by
  let ⟨v',d,hr⟩:=h.p.b
  rw[l]at d;injection d with d
  subst d;exact r g (by have:=(dg hr T).1;omega)
 refine⟨⟨hc,by rw[V,W,X];exact hD,by rw[e4];exact hN,by rw[e7];exact h.x.imp λv l=>⟨(K _ (by omega)).trans l.1,bp l.2 λg T=>r g (by have:=(dg l.2 T).1;omega)⟩,h.u.e S,λi=>(aJ (a:=⟨A.G,i,none⟩) S).trans (h.C i),λj z=>?_,
  λj z=>?_,by rw[D];exact h.J,λv l=>?_,by rw[D];exact h.F,by rw[D];exact h.B⟩,⟨rfl,rfl,rfl,by omega,λk O hf hp=>r k (λe=>hf (.Q e)),λk O f=>?_,rfl⟩⟩
 rw[Y];rw[D]at z;exact(h.e j z).e S;rw[Y];rw[D]at z;exact(h.o j z).j (r _ (fE (E j z).1)) (r _ (fE (E j z).2.1));have d:s.sv=some v:=by
  rcases Z with q|q
  rw[<-q];exact l;rw[q]at l;cases l
 have u:=h.t v d;refine⟨u.b.ae (by omega) (by rw[u.q,u.j,u.e,u.h];exact hD) (λk O hq=>r k (by rw[<-u.q];exact hq)),u.q,u.j.trans V.symm,u.e.trans W.symm,u.h.trans X.symm,by rw[D];exact u.o,u.p.trans e9.symm,u.t.trans P.symm⟩;rcases f with f|f|⟨v,L,U⟩|⟨i,N,f⟩|⟨i,N,f⟩|⟨L,U⟩
 exact .Q f;exact .G f;exact .ev v ((K _ (by omega)).symm.trans L) U;exact .c i (D▸N) f;exact .m i (D▸N) f;have M:s.sv.isSome=true:=by
  rcases Z with q|q
  rw[<-q];exact L;rw[q]at L;cases L
 let ⟨v,l⟩:=aV.1 M
 have u:=h.t v l;have hl:=u.b.e;exact .sv M ((jg (r _ (by rw[<-u.q];omega)) (r _ (by rw[<-u.q];omega)) k).1 U)
def bM.j{w:A1}(h:bM w A s)(x:Int):bM (w.setCell ⟨A.Q,12411,none⟩ (.int .i64 x)) A {s with bK:=x}/\Fz A s w A {s with bK:=x} (w.setCell ⟨A.Q,12411,none⟩ (.int .i64 x)):=by
 have c:=h.b;have e:∀j,j≠12411->(w.setCell (aA A.Q 12411) (iI x)).cell? (aA A.Q j)=w.cell? (aA A.Q j):=λj a=>ak _ _ _ _ (by intro q;injection q with _ q;exact a q.symm);exact h.ap (by omega) (by omega) ⟨Wal.db c.h,λi=>by rw[bb];exact c.b i,(e _ (by omega)).trans c.t,(e _ (by omega)).trans c.u,(e _ (by omega)).trans c.x,(e _ (by omega)).trans c.o,(e _ (by omega)).trans c.p,(e _ (by omega)).trans c.e,ay _ _ _ c.j⟩ rfl rfl rfl rfl rfl rfl rfl (.inl rfl) rfl rfl
def bM.ao{w:A1}(h:bM w A s)(x:Int):bM (w.setCell ⟨A.Q,12408,none⟩ (.int .i64 x)) A {s with cT:=x}/\Fz A s w A {s with cT:=x} (w.setCell ⟨A.Q,12408,none⟩ (.int .i64 x)):=by
 have c:=h.b;have e:∀j,j≠12408->(w.setCell (aA A.Q 12408) (iI x)).cell? (aA A.Q j)=w.cell? (aA A.Q j):=λj a=>ak _ _ _ _ (by intro q;injection q with _ q;exact a q.symm);exact h.ap (by omega) (by omega) ⟨Wal.db c.h,λi=>by rw[bb];exact c.b i,(e _ (by omega)).trans c.t,(e _ (by omega)).trans c.u,(e _ (by omega)).trans c.x,(e _ (by omega)).trans c.o,ay _ _ _ c.p,(e _ (by omega)).trans c.e,(e _ (by omega)).trans c.j⟩ rfl rfl rfl rfl rfl rfl rfl (.inl rfl) rfl rfl
def bM.al{w:A1}(h:bM w A s):bM (w.setCell ⟨A.Q,12407,none⟩ (.pointer none)) A {s with sv:=none}/\Fz A s w A {s with sv:=none} (w.setCell ⟨A.Q,12407,none⟩ (.pointer none)):=by
 have c:=h.b;have e:∀j,j≠12407->(w.setCell (aA A.Q 12407) (.pointer none)).cell? (aA A.Q j)=w.cell? (aA A.Q j):=λj a=>ak _ _ _ _ (by intro q;injection q with _ q;exact a q.symm);exact h.ap (by omega) (by omega) ⟨Wal.db c.h,λi=>by rw[bb];exact c.b i,(e _ (by omega)).trans c.t,(e _ (by omega)).trans c.u,(e _ (by omega)).trans c.x,ay _ _ _ c.o,(e _ (by omega)).trans c.p,(e _ (by omega)).trans c.e,(e _ (by omega)).trans c.j⟩ rfl rfl rfl rfl rfl rfl rfl (.inr rfl) rfl rfl
structure KB(k:K)(C:Nat):Prop where
 p:0<=k.io
 s:k.io<=7
 n:k.n<=C
 b:0<=k.mg
 u:k.mg<=C
 h:0<=k.dV
 w:k.dV<=C
 i:0<=k.Ff
 y:k.Ff<=1099511627776
 j:0<=k.KQ
 A:k.KQ<=1099511627776
 e:0<=k.qN
 t:k.qN<=549755813888
 o:0<=k.nk
 B:k.nk<=549755813888
 F:∀x∈k.fY,gv x.v/\x.d.size<=20
 J:k.d.size<=20
def KB.H(h:KB k C)(a:C<=D):KB k D:=⟨h.p,h.s,aP h.n a,h.b,by have:=h.u;omega,h.h,by have:=h.w;omega,h.i,h.y,h.j,h.A,h.e,h.t,h.o,h.B,h.F,h.J⟩
def KB.ok(h:KB k C)(a:C<=100000000000):KOk k:=⟨h.p,h.s,by have:=h.n;omega,h.b,by have:=h.u;omega,h.h,by have:=h.w;omega,h.i,h.y,h.j,h.A,h.e,by have:=h.t;omega,h.o,by have:=h.B;omega⟩
def nG(h:x∈qm o L):x∈L:=(gR.1 h).1
def qd{e:E}(h:x∈lP L e):x=e\/x∈L:=by
 unfold lP at h;rcases bq.1 h with q|q
 right;split at q;exact nG (gh q);exact nG q;exact .inl (aL.1 q)
def KB.I(h:KB k C)(hd:d.size<=20){v:Int}:KB (k.ab d v) (C+1):=
 ⟨h.p,h.s,by have:=h.n;show k.n+1<=_;omega,h.b,by have:=h.u;show k.mg<=_;omega,h.h,by have:=h.w;show k.dV<=_;omega,h.i,h.y,h.j,h.A,h.e,h.t,h.o,h.B,h.F,hd⟩
def KB.O(h:KB k C)(m:M)(f:gv m.v/\m.d.size<=20):KB (k.V m).1 (C+1)/\(k.V m).2.length<=1:=by
 have a:=h.H (du C);unfold K.V;split;refine⟨?_,by simp⟩;unfold K.ao;split;exact⟨a.p,a.s,a.n,a.b,a.u,a.h,a.w,a.i,a.y,a.j,a.A,a.e,a.t,a.o,a.B,λx c=>h.F x (nG c),h.J⟩;exact⟨a.p,a.s,a.n,a.b,a.u,a.h,a.w,a.i,a.y,a.j,a.A,a.e,a.t,a.o,a.B,λx c=>h.F x (nG c),h.J⟩;split;exact⟨a,by simp⟩;split;refine⟨?_,by simp⟩;unfold K.an;split;exact⟨a.p,a.s,a.n,a.b,a.u,a.h,a.w,a.i,a.y,a.j,a.A,a.e,a.t,a.o,a.B,a.F,a.J⟩;exact a;split;refine⟨?_,by simp⟩;unfold K.aU;split;exact a;exact⟨a.p,a.s,a.n,a.b,a.u,a.h,a.w,a.i,a.y,a.j,a.A,a.e,a.t,a.o,a.B,λx c=>(by simp at c),h.J⟩;split;refine⟨?_,by simp⟩;unfold K.a3;split;exact a;refine KB.I ?_ f.2;split;exact⟨h.p,h.s,h.n,h.b,h.u,h.h,h.w,h.i,h.y,h.j,h.A,h.e,h.t,h.o,h.B,λx c=>by
  rcases qd c with q|q
  rw[q];exact f;exact h.F x q,h.J⟩
 exact h;split;exact⟨h.I h.J,by simp⟩;exact⟨a,by simp⟩
def KB.Z(h:KB k C)(h0:0<=now)(c:now<=549755813888):KB (k.ag now) (C+1)/\(k.ae now).length<=2:=by
 have a:=h.H (du C);refine⟨?_,?_⟩;unfold K.ag;split;exact⟨a.p,a.s,a.n,a.b,a.u,by have:=h.h;show 0<=k.dV+1;omega,by have:=h.w;show k.dV+1<=_;omega,a.i,a.y,a.j,a.A,a.e,a.t,h0,c,a.F,a.J⟩;exact a;unfold K.ae;rw[aM];split<;>split<;>simp
def KB.ab(h:KB k C)(f:Int)(hd:d.size<=20)(v:Int)(g l:Bool)(c:0<=o)(e:o<=7)(h0:0<=now)(m:now<=549755813888):KB (k.O f o d v g l now) (C+1):=by
 have a:=h.H (du C);exact⟨c,e,a.n,by have:=h.b;show 0<=k.mg+1;omega,by have:=h.u;show k.mg+1<=_;omega,a.h,a.w,a.i,a.y,a.j,a.A,h0,m,a.o,a.B,a.F,hd⟩
def KB.V(h:KB k C)(o:Int):KB (k.e o) C:=by
 unfold K.e;split;exact h;rename_i x a;exact⟨h.p,h.s,h.n,h.b,h.u,h.h,h.w,h.i,h.y,h.j,h.A,h.e,h.t,h.o,h.B,λy c=>by
  rcases qd c with q|q
  rw[q];exact h.F x (eK a);exact h.F y q,h.J⟩
def KB.ac(h:KB k C)(f:0<=o)(g:o<=7)(h0:0<=now)(q:now<=549755813888):KB (k.al o now) (C+2):=by
 have l:=h.ab 1 (d:=⟨#[]⟩) (by decide) 0 false false f g h0 q;unfold K.al;split;exact(l.V o).H (by omega);rename_i x c;have a:=l.V o;have m:x∈(k.O 1 o ⟨#[]⟩ 0 false false now).fY:=by
  unfold K.av at c;split at c;cases c;rename_i y r;split at c;cases c;injection c with c
  subst c;exact eK r
 exact KB.I (k:={ (k.O 1 o ⟨#[]⟩ 0 false false now).e o with H0:=true}) ⟨a.p,a.s,a.n,a.b,a.u,a.h,a.w,a.i,a.y,a.j,a.A,a.e,a.t,a.o,a.B,a.F,a.J⟩ (l.F x m).2
structure SB(s:St)(C:Nat)(n:Nat):Prop where
 k:KB s.k C
 b:0<=s.cM
 e:s.cM<=549755813888
 h:0<=s.fN
 i:s.fN<=C
 o:-1<=s.fu
 j:s.fu<n
def SB.H{s:St}{n m:Nat}(h:SB s C n)(a:C<=D)(c:n<=m):SB s D m:=⟨h.k.H a,h.b,h.e,h.h,by have:=h.i;omega,h.o,by have:=h.j;omega⟩
structure f9(w:Wd)(C:Nat):Prop where
 F:0<=w.b
 x:w.b<=274877906944
 y:0<=w.i
 u:w.i<=274877906944
 A:0<=w.o
 B:w.o<=500
 W:0<=w.cT
 c1:w.cT<=549755813888
 o:∀i,i<w.n->SB (w.aI i) C w.ba.length
 J:0<=w.bK
 O:w.bK<=C
 Z:w.ba.length<=C
 t:∀p∈w.dM,iC p.2=true
 s:w.dM.length<=200
 V:∀v,w.sv=some v->mS v (400*C)/\v.i=w.b/\v.b=w.i/\v.rs=w.rs/\v.dX=w.oP/\v.da=w.tR
 j:∀r∈w.rs,0<=r.v/\r.v<=w.rs.length/\0<=r.e/\r.e<=w.rs.length/\r.d.size<=20
 I:w.rs.length<=200
 b:0<=w.tR
 h:w.tR<=9223372036854775807
def f9.e(h:f9 w C)(a:C<=D):f9 w D:=⟨h.F,h.x,h.y,h.u,h.A,h.B,h.W,h.c1,λi d=>(h.o i d).H a (aa _),h.J,by have:=h.O;omega,aP h.Z a,h.t,h.s,λv c=>⟨(h.V v c).1.e (by omega),(h.V v c).2⟩,h.j,h.I,h.b,h.h⟩
def f9.be(h:f9 w C)(e:C<=100000000000){v:Sv}(c:w.sv=some v):KP v w.cT (400*C):=by
 let ⟨d,a,b,_⟩:=h.V v c
 exact⟨d,by omega,h.W,h.c1,by rw[a];exact h.F,by rw[a];exact h.x,by rw[b];exact h.y,by rw[b];exact h.u⟩
def mH(h:iC m=true):okM m/\gv m.v:=by
 simp only[iC,bh]at h;let ⟨a,b⟩:=h
 simp[Num.M.j,Num.ko,Num.m6]at b;have hd:m.d.size<=20:=by
  simp[Num.m6]at a;omega
 exact⟨⟨by simp[fo,Num.m6];omega,by simp[fo,Num.m6];omega,hd⟩,⟨by omega,by omega⟩⟩
def f9.b4(h:f9 w C)(t:Int)(m:M):f9 (w.ac t m) C:=by
 unfold Wd.ac;split;rename_i a;exact⟨h.F,h.x,h.y,h.u,h.A,h.B,h.W,h.c1,h.o,h.J,h.O,h.Z,λp c=>by
  rcases bq.1 c with q|q
  exact h.t p q;rw[aL.1 q];exact a.1,by simp;omega,h.V,h.j,h.I,h.b,h.h⟩
 exact h
def f9.ao:∀(l:List M) {w:Wd},f9 w C->f9 (w.V t l) C
 | [],_,h=>h
 |m::l,w,h=>by
  unfold Wd.V;rw[gQ];exact f9.ao l (h.b4 t m)
def f9.a4:∀(l:List M) {w:Wd},f9 w C->f9 (w.O l) C
 | [],_,h=>h
 |m::l,w,h=>by
  unfold Wd.O;rw[gQ];exact f9.a4 l (h.b4 _ m)
def f9.ae(h:f9 w C){v:Sv}(c:mS v (400*C))(d:v.i=w.b)(e:v.b=w.i):f9 (w.Z v) C:=
 ⟨h.F,h.x,h.y,h.u,h.A,h.B,h.W,h.c1,h.o,h.J,h.O,h.Z,h.t,h.s,λx f=>by
  have a:= f;injection a with a
  subst a;exact⟨c,d,e,rfl,rfl,rfl⟩,c.p,c.u,c.b,c.h⟩
def f9.bd(h:f9 w C):f9 w.af C:=by
 unfold Wd.af;split;exact h;split;exact⟨h.F,h.x,h.y,h.u,h.A,h.B,h.W,h.c1,h.o,h.J,h.O,h.Z,h.t,h.s,λx a=>by simp at a,h.j,h.I,h.b,h.h⟩;exact h
def sK(s s':Sv):Prop:=s'.i=s.i/\s'.b=s.b
def sK.h{s:Sv}:sK s s:=⟨rfl,rfl⟩
def sK.e{a b c:Sv}(h:sK a b)(k:sK b c):sK a c:=⟨k.1.trans h.1,k.2.trans h.2⟩
def sJ.e{s s':Sv}(h:sJ s s'):sK s s':=by
 obtain⟨D,v,z,rfl⟩:=h;exact⟨rfl,rfl⟩
def P5(s:Sv)(r:R):sK s (s.ac r).1:=by
 unfold Sv.ac;split;exact sK.h;split;exact sK.h;split<;>exact⟨rfl,rfl⟩
def Fm(s:Sv)(m:M)(o:Nat):sK s (s.j m o).1:=by
 have h:=P5 s (s.V m o);unfold Sv.j;split;exact h.e ⟨(iY _ _).1,(iY _ _).2.1⟩;exact h
def tH(o:Nat)(now:Int):∀(f:Nat) (s:Sv),sK s (s.ag o now f).1
 |0,s=>sK.h (s:=s)
 |f+1,s=>by
  unfold Sv.ag;split;exact sK.h;have a:=(og (s:=s) o now).e;split;exact a;split;exact a;rename_i m rest _;have b:=a.e (Fm (s.e o now).1 m o);split;exact b;exact(b.e ⟨rfl,rfl⟩).e (tH o now f _)
def DK(s:Sv)(m:M){o:Nat}:sK s (s.aw m o).1:=by
 unfold Sv.aw;split;exact sK.h;split<;>exact⟨rfl,rfl⟩
def uU(s:Sv)(m:M)(now:Int):sK s (s.ai m now).1:=by
 unfold Sv.ai;split;exact sK.h;split;unfold Sv.a3 Sv.a2

 split<;>exact⟨rfl,rfl⟩;split;unfold Sv.ah;split;exact sK.h;split;exact sK.h;split;exact DK s m;exact((DK s m).e (tH _ now _ _)).e (og _ now).e;split;unfold Sv.an;have a:=(pq s (bx m.c:Nat) now 8).e;split;exact a;split;exact a;exact a.e ⟨rfl,rfl⟩;split;unfold Sv.av;split;exact sK.e ⟨rfl,rfl⟩ (tH _ now _ _);exact sK.h;exact sK.h
def uY(s:Sv)(now:Int):∀k,sK s (s.ae now k).1
 |0=>sK.h (s:=s)
 |k+1=>(uY s now k).e (tH k now _ _)
def f9.ai(h:f9 w C){r:Sv×List M}(a:mS r.1 (400*C))(c:r.1.i=w.b)(d:r.1.b=w.i):f9 (w.al r) C:=(f9.a4 r.2 (h.ae a c d)).bd
def f9.av(h:f9 w C)(c:KB k C):f9 (w.ab i k) C:=
 ⟨h.F,h.x,h.y,h.u,h.A,h.B,h.W,h.c1,λj a=>by
  show SB (bB w.aI i {w.aI i with k:=k} j) C w.ba.length;unfold bB;split;rename_i e;subst e;have q:=h.o j a;exact⟨c,q.b,q.e,q.h,q.i,q.o,q.j⟩;exact h.o j a,h.J,h.O,h.Z,h.t,h.s,h.V,h.j,h.I,h.b,h.h⟩
def f9.aq(h:f9 w C)(i:Nat):f9 (w.j i) C:=by
 unfold Wd.j;split;exact h;refine⟨h.F,h.x,h.y,h.u,h.A,h.B,h.W,h.c1,λj a=>?_,h.J,h.O,by simpa using h.Z,h.t,h.s,h.V,h.j,h.I,h.b,h.h⟩;show SB (bB w.aI i _ j) C (w.ba.modify _ _).length;rw[D7];unfold bB;split;rename_i e;subst e;have q:=h.o j a;refine⟨q.k,q.b,q.e,q.h,q.i,?_,?_⟩;dsimp only;split;omega;exact q.o;dsimp only;split;omega;exact q.j;exact h.o j a
def f9.af(h:f9 w C)(k:Nat):f9 (w.I k) (C+1):=by
 unfold Wd.I;split;exact h.e (by omega);rename_i p i;have d:=h.t p (bC i);have c:∀D,C+1<=D->f9 {w with dM:=w.dM.eraseIdx k,bK:=w.bK+1} D:=λD l=>by
  have a:=h.e (aP (du C) l);refine⟨a.F,a.x,a.y,a.u,a.A,a.B,a.W,a.c1,a.o,by have:=h.J;show 0<=w.bK+1;omega,by have:=h.O;show w.bK+1<=_;omega,a.Z,λq f=>h.t q (gh f),by have:=h.s;show (w.dM.eraseIdx k).length<=200;rw[zp];split<;>omega,a.V,a.j,a.I,a.b,a.h⟩
 unfold Wd.bs;split;have h0:f9 {w with dM:=w.dM.eraseIdx k,bK:=w.bK} C:=⟨h.F,h.x,h.y,h.u,h.A,h.B,h.W,h.c1,h.o,h.J,h.O,h.Z,λq f=>h.t q (gh f),by have:=h.s;show (w.dM.eraseIdx k).length<=200;rw[zp];split<;>omega,h.V,h.j,h.I,h.b,h.h⟩;unfold Wd.H;split;exact c _ (aa _);rename_i s m;obtain⟨k1,r,v,_⟩:=h.V s m;have g:=uU s p.2 w.cT;exact(c _ (aa _)).ai (((k1.af (mH d).1 w.cT).1).e (by omega)) (g.1.trans r) (g.2.trans v);split;rename_i z;have E:p.1.toNat<w.n:=by
  simp[Wd.aq]at z;omega
 exact(f9.ao _ ((c _ (aa _)).av ((h.o _ E).k.O p.2 ⟨(mH d).2,(mH d).1.2.2⟩).1)).aq _;exact c _ (aa _)
def f9.bf(h:f9 w C)(k:Nat):f9 (w.b8 k) C:=
 ⟨h.F,h.x,h.y,h.u,h.A,h.B,h.W,h.c1,h.o,h.J,h.O,h.Z,λq a=>h.t q (gh a),by have:=h.s;show (w.dM.eraseIdx k).length<=200;rw[zp];split<;>omega,h.V,h.j,h.I,h.b,h.h⟩
def f9.b3(h:f9 w C)(a:i<w.n):f9 (w.b7 i) (C+1):=
 f9.ao _ ((h.e (du C)).av ((h.o i a).k.Z (h.o i a).b (h.o i a).e).1)
def f9.H(h:f9 w C):f9 {w with bK:=w.bK+1} (C+1):=by
 have a:=h.e (du C);exact⟨a.F,a.x,a.y,a.u,a.A,a.B,a.W,a.c1,a.o,by have:=h.J;show 0<=w.bK+1;omega,by have:=h.O;show w.bK+1<=_;omega,a.Z,a.t,a.s,a.V,a.j,a.I,a.b,a.h⟩
def f9.ah(h:f9 w C)(a:i<w.n):f9 (w.aU i) (C+2):=h.H.b3 a
def f9.a3(h:f9 w C)(hc:KB c (C+2)):f9 (w.ag i c) (C+2):=by
 have a:=h.e (show C<=C+2 by omega);refine⟨a.F,a.x,a.y,a.u,a.A,a.B,a.W,a.c1,λj d=>?_,by have:=h.J;show 0<=w.bK+1;omega,by have:=h.O;show w.bK+1<=_;omega,by have:=h.Z;show (w.ba++[_]).length<=_;simp;omega,a.t,a.s,a.V,a.j,a.I,a.b,a.h⟩;show SB (bB w.aI i _ j) (C+2) (w.ba++[_]).length;unfold bB;split;rename_i e;subst e;have q:=a.o j d;exact⟨hc,q.b,q.e,q.h,q.i,by dsimp only;omega,by simp;omega⟩;have q:=a.o j d;exact q.H (aa _) (by simp)
def f9.aw(h:f9 w C)(b:i<w.n)(hc:KB c (C+2)):f9 (w.ao i c) (C+3):=by
 have a:=(h.a3 (i:=i) hc).aq i;unfold Wd.ao Wd.b0;split;exact a.e (by omega);apply a.b3;unfold Wd.j;split<;>exact b
def zo{x:Int}:ra x<=549755813888:=by unfold ra;split<;>omega
def zn{x:Int}(h:0<=x):0<=ra x:=by unfold ra;split<;>omega
def f9.al(h:f9 w C){b:Int}{f:Nat->Int}(v:0<=b)(l:∀i,i<w.n->0<=f i):f9 (w.aw b f) (C+1):=by
 have a:=h.e (du C);have c:f9 (w.b6 b f) (C+1):=by
  refine⟨a.F,a.x,a.y,a.u,a.A,a.B,zn (by have:=h.W;omega),zo,λj d=>?_,by have:=h.J;show 0<=w.bK+1;omega,by have:=h.O;show w.bK+1<=_;omega,a.Z,a.t,a.s,a.V,a.j,a.I,a.b,a.h⟩;have q:=a.o j d;exact⟨q.k,zn (by have:=q.b;have:=l j d;omega),zo,q.h,q.i,q.o,q.j⟩
 unfold Wd.aw Wd.a2;split;exact c;rename_i s m;obtain⟨k1,p,r,_⟩:=h.V s m;have g:=uY s (w.b6 b f).cT 8;exact c.ai ((mS.V k1 _ 8).1.e (by omega)) (g.1.trans p) (g.2.trans r)
def po(L:Int)(j:0<=L):∀(l:List R) (s:Sv),(∀r∈l,0<=r.v/\r.v<=L/\0<=r.e/\r.e<=L/\r.d.size<=20)->(∀o,0<=s.vv o/\s.vv o<=L/\(s.vd o).size<=20)->0<=s.bO->s.bO<=L->(∀o,0<=(l.foldl Sv.h s).vv o/\(l.foldl Sv.h s).vv o<=L/\((l.foldl Sv.h s).vd o).size<=20)/\0<=(l.foldl Sv.h s).bO/\(l.foldl Sv.h s).bO<=L
 | [],s,_,b,c,f=>⟨b,c,f⟩
 |r::l,s,i,b,c,f=>by
  rw[gQ];have a:=i r (by simp);refine po L j l _ (λx k=>i x (by simp[k])) ?_ ?_ ?_;intro o;unfold Sv.h;have g:0<=bB s.vv r.o.toNat r.v o/\bB s.vv r.o.toNat r.v o<=L/\(bB s.vd r.o.toNat r.d o).size<=20:=by
   have:=b o;unfold bB;split;exact⟨a.1,a.2.1,a.2.2.2.2⟩;exact this
  split;exact b o;split<;>exact g;unfold Sv.h;split;exact a.2.2.1;split<;>exact c;unfold Sv.h;split;exact a.2.2.2.1;split<;>exact f
def mS.aw{to' tv:Int}{f:List R}(z:∀r∈f,0<=r.v/\r.v<=f.length/\0<=r.e/\r.e<=f.length/\r.d.size<=20)(H:f.length<200):mS (Sv.aq to' tv td f false 0 now) 0/\(Sv.aq to' tv td f false 0 now).i=to'/\(Sv.aq to' tv td f false 0 now).b=tv/\0<=(Sv.al to' tv td f false 0).bO/\(Sv.al to' tv td f false 0).bO<=1000:=by
 let ⟨t,A,E⟩:=po f.length (by omega) f (Sv.ab to' tv td f false 0) z (λo=>⟨by simp[Sv.ab],by simp[Sv.ab],by simp[Sv.ab];decide⟩) (by simp[Sv.ab]) (by simp[Sv.ab])
 let ⟨B,a2,a3,a4,a5,a6,a7,a8,a9,u,w,g,j,k⟩:=kQ f (Sv.ab to' tv td f false 0)
 let ⟨a,l⟩:∃a,f.foldl Sv.h (Sv.ab to' tv td f false 0)=a:=⟨_,rfl⟩
 have e:Sv.al to' tv td f false 0=a:=l;rw[l]at t A E B a2 a3 a4 a5 a6 a7 a8 a9 u w g j k;unfold Sv.aq;rw[e];have k1:(a.O now).dS=false:=a4;have C:(a.O now).rs=f:=k;have D:(a.O now).dX=false:=a5;have F:(a.O now).ac (kc (a.O now).bO)=({a.O now with rs:=f++[kc (a.O now).bO],da:=(a.O now).da},0):=by
  unfold Sv.ac;rw[ax (by rw[k1];decide),ax (by rw[C];omega),ax (by rw[D];simp),C];simp[D]
 rw[F];have x:(a.O now).bO=a.bO+1:=rfl;refine⟨⟨λc=>?_,λc=>?_,?_,λo=>(t o).1,λo=>?_,?_,λo m G=>?_,λo=>?_,?_,?_,λr y=>?_,?_,?_,λo=>(t o).2.2⟩,B,a2,A,by omega⟩;show 0<=a.iu c;rw[g];simp[Sv.ab];show a.iu c<=_;rw[g];simp[Sv.ab];show a.n<=_;rw[j];simp[Sv.ab];have:=(t o).2.1;show a.vv o<=((f++[_]).length:Int);simp;omega;show (f++[_]).length<=200;simp;omega;have p:m∈a.waits o:=G;rw[a7]at p;simp[Sv.ab]at p;show (a.waits o).length<=10;rw[a7];simp[Sv.ab];show 0<=a.da;rw[a6];simp[Sv.ab];show a.da<=_;rw[a6];simp[Sv.ab];have s:= y;show 0<=r.v/\r.v<=((f++[_]).length:Int)/\0<=r.e/\r.e<=((f++[_]).length:Int)/\r.d.size<=20;rcases bq.1 s with q|q
 have:=z r q;simp;omega;rw[aL.1 q];show (0:Int)<=0/\(0:Int)<=_/\0<=(a.O now).bO/\(a.O now).bO<=_/\(⟨#[]⟩:Bh).size<=20;rw[x];refine⟨by omega,by simp;omega,by omega,by simp;omega,by decide⟩;show 0<=(a.O now).bO;omega;show (a.O now).bO<=201;omega
def f9.start(h:f9 w C)(a:w.rs.length<200):f9 w.start C:=by
 let ⟨c,d,f,_⟩:=mS.aw (to':=w.b) (tv:=w.i) (td:=w.o) (now:=w.cT) h.j a
 exact h.ae (c.e (by omega)) d f
def nH(h0:0<=td)(c:td<=500)(a:0<=t)(b:t<=274877906944):0<=ia td t/\ia td t<=t:=by
 unfold ia;constructor;exact Int.ediv_nonneg (rI a (by omega)) (by omega);apply Int.ediv_le_of_le_mul (by omega);apply Int.mul_le_mul_of_nonneg_left (by omega) a
def pU(l:List M):Prop:=∀m∈l,m.d.size<=20
def pU.e:pU []:=λm a=>by simp at a
def pU.one(h:m.d.size<=20):pU [m]:=λx a=>by rw[aL.1 a];exact h
def pU.h{a b:List M}(h:pU a)(k:pU b):pU (a++b):=λm c=>(bq.1 c).elim (h m) (k m)
def tG{o:Nat}(now:Int):∀(f:Nat) (s:Sv),pU (s.ag o now f).2
 |0,s=>pU.e
 |f+1,s=>by
  unfold Sv.ag;split;exact pU.e;split;exact pU.e;split;exact pU.e;split;exact pU.e;intro x a;rcases bN.1 a with q|q
  rw[q];show (⟨#[]⟩:Bh).size<=20;decide;exact tG now f _ x q
def wG(s:Sv)(a now:Int):∀k,pU (s.H a now k).2
 |0=>pU.e
 |k+1=>by
  apply (wG s a now k).h;split;exact pU.one (by show (⟨#[]⟩:Bh).size<=20;decide);exact pU.e
def Ll{s:Sv}{B:Nat}(h:mS s B)(m:M)(now:Int):pU (s.ai m now).2:=by
 have a:(⟨#[]⟩:Bh).size<=20:=by decide
 unfold Sv.ai;split;exact pU.e;split;exact pU.one (h.y _);split;unfold Sv.ah;split;exact pU.one a;split;exact pU.e;split;exact pU.e;refine pU.h (tG now _ _) λx b=>?_;obtain⟨c,_,rfl⟩:=dY.1 b;exact a;split;unfold Sv.an;split;exact wG s _ now 8;split<;>exact pU.one a;split;unfold Sv.av;split;exact tG now _ _;exact pU.e;exact pU.e
def BI(s:Sv)(now:Int):∀k,pU (s.ae now k).2
 |0=>pU.e
 |k+1=>(BI s now k).h (tG (o:=k) now _ _)
def IR(k:K)(m:M):pU (k.V m).2:=by
 unfold K.V;split;exact pU.one (by show (⟨#[]⟩:Bh).size<=20;decide);split;exact pU.e;split;exact pU.e;split;exact pU.e;split;exact pU.e;split<;>exact pU.e
def H8(h:KB k C)(now:Int):pU (k.ae now):=by
 have a:(⟨#[]⟩:Bh).size<=20:=by decide
 unfold K.ae;refine pU.h ?_ ?_;split;exact pU.one a;exact pU.e;split;apply pU.one;unfold K.ac;split;exact h.J;exact a;exact pU.e
end Wld
namespace Num
def Hl:∀(c d x y:List Int),c.length=d.length->c.all ko=true->d.all ko=true->jk c++x=jk d++y->c=d/\x=y
 | [],[],x,y,_,_,_,h=>⟨rfl,h⟩
 | [],_::_,_,_,h,_,_,_=>by cases h
 |_::_,[],_,_,h,_,_,_=>by cases h
 |a::c,b::d,x,y,g,e,f,h=>by
  simp only[Co,bh]at e f;have i:jk (a::c)=nb a.toNat++jk c:=by simp[jk]
  have j:jk (b::d)=nb b.toNat++jk d:=by simp[jk]
  rw[i,j,bQ,bQ]at h;let ⟨n,k⟩:=aaZ h
  let ⟨l,m⟩:=Hl c d x y (by simpa using g) e.2 f.2 k
  have o:=eY e.1;have p:=eY f.1;exact⟨by rw[l,show a=b by omega],m⟩
def TP{a b:Bh}(h:gy a=gy b):a=b:=by rw[<-qM a,<-qM b,h]
def PC{m n:M}{t:List Int}(d:iC m=true)(e:iC n=true)(h:m.h++t=n.h):m=n/\t=[]:=by
 simp only[iC,bh]at d e;rw[m.H,n.H,bQ]at h;let ⟨f,g⟩:=Hl m.j n.j _ _ rfl d.2 e.2 h
 simp only[M.I,dB,cH,gP]at g;let ⟨i,r,a⟩:=g
 have k:=bY List.length a;rw[aM,dL,dL]at k;have o:t=[]:=dG (by omega);subst o;rw[dP]at a;have p:=TP a;have q:m.l=n.l:=by
  revert i;unfold m8;cases m.l<;>cases n.l<;>decide
 refine⟨?_,rfl⟩;let ⟨s,u,a2,a3,a4,a5,a6,a7,a8⟩:=m
 let ⟨b0,v,w,b3,b4,b5,b6,b7,b8⟩:=n
 simp only[M.j,gP,mh]at f;obtain⟨rfl,rfl,rfl,rfl,rfl,rfl,rfl⟩:=f;have b:a7=b7:=q;have c:a8=b8:=p;rw[b,c]
def PD{m n:M}(a:iC m=true)(b:iC n=true)(h:m.h=n.h):m=n:=(PC (t:=[]) a b (by rw[dP];exact h)).1
end Num
namespace Wire
variable{m:M}{B:Nat}{w:A1}
def Ul{v:Bg}{l:List Int}(h:uJ w B v l)(n:0<l.length)(i:∀x∈l,0<=x/\x<256):∃g a,v=.slice (some (aA g 0)) l.length a/\l.length<=a/\a<=9223372036854775807/\sH w w.heap.size v l:=by
 have hc:=@FS w B 5 1 v l.length (l.map (Value.int .u8)) h;rcases h.2 with⟨_,h0⟩|⟨g,a,k,rfl,_,_,c,m,_⟩
 omega;have b:= m;refine⟨g,a,rfl,c,b,_,a,rfl,c,b,i,λ_=>⟨g,0,rfl,(h.h.lt g rfl).2,λj d=>?_⟩⟩;have f:=hc (g:=g) rfl j (.int .u8 (l.getD j 0)) (by rw[di,aB d,aG,aB d];rfl);have e:((aA g 0):Addr).add j=(aA g (0+j)):=by unfold Addr.add;split<;>simp_all
 rw[e]at f;exact f
def xA(h:iC m=true):m.h.length<=64/\0<m.h.length:=by
 simp only[iC,bh,fv]at h;have a:=(Num.nZ _ h.2).1;have b:m.j.length=7:=rfl;rw[Num.M.H,aM];simp only[Num.M.I,dB,cH,bT,Num.dL];omega
def Ui(a:iC m=true){v:Bg}(h:sH w B v m.h)(c:B<=w.heap.size):
  Calls prog 64 #[v] w λe w'=>e=.returned (.tuple #[M.ab m,.nilIface])/\Below w.heap.size w w':=by
 have g:=xA a;apply (X3 h (by omega) c).mono;rintro e w'⟨i,j,rfl,d,⟨rfl,f,b⟩|⟨_,_,b⟩⟩;rw[Num.PD a f b];exact⟨rfl,d⟩;exact absurd rfl (b m a)
end Wire
namespace Wld
variable{A:Wa}{s:Wd}{w:A1}
def oC(h:bM w A s):Calls prog 14 #[tp A.Q] w λe w'=>e=.returned (.bool s.sv.isSome)/\w'=w:=by
 have c:=h.b.o;cases hs:s.sv with
 |none=>
  rw[hs]at c;unfold LR at c;go_enter func14,ntmps14;go_wp2;go_ret;exact⟨rfl,rfl⟩
 |some v=>
  rw[hs]at c;unfold LR at c;go_enter func14,ntmps14;go_wp2;go_ret;exact⟨rfl,rfl⟩
def lG(k:Int)(h:bM w A s):Calls prog 61 #[tp A.Q,iI k] w λe w'=>e=.returned (.bool (s.aq k))/\w'=w:=by
 have c:=h.b.e;have f:=h.B;unfold Wd.aq;by_cases h0:0<=k
 .by_cases a:k<(s.n:Int)
  .rw[aR ⟨h0,a⟩];go_enter func61,ntmps61;go_wp2;go_ret;exact⟨rfl,rfl⟩
  .rw[aK (λq=>a q.2)];have d:= aK a;go_enter func61,ntmps61;go_wp2;go_ret;exact⟨rfl,rfl⟩
 .rw[aK (λq=>h0 q.1)];have d:= aK h0;go_enter func61,ntmps61;go_wp2;go_ret;exact⟨rfl,rfl⟩
def DS(h:bM w A s):Calls prog 17 #[tp A.Q] w λe w'=>e=.returned (iI s.dM.length)/\w'=w:=by
 have a:=Net.TH h.p;rw[bH]at a;go_enter func17,ntmps17;go_wp2_with (go_at_call 43;refine a.mono ?_;rintro e w'⟨rfl,rfl⟩)
 go_ret;exact⟨rfl,rfl⟩
structure Sd(w wr:World)(A:Wa)(s:Wd)(t:Int)(l:List M)(B:Nat)(v:Value)(k:Nat):Prop where
 h:bM wr A (s.V t (l.take k))
 e:Fz A s w A (s.V t (l.take k)) wr
 b:iy wr B v l
def QZ(s:Wd)(t:Int)(l:List M){k:Nat}(h:k<l.length):s.V t (l.take (k+1))=(s.V t (l.take k)).ac t l[k]:=by
 unfold Wd.V;rw[bF h,tU];rfl
theorem xM{A:Wa}{s:Wd}(t:Int)(l:List M)(B:Nat)(v:Value)(w:World)(h:bM w A s)(hl:iy w B v l)(hll:l.length<=200)(hsm:pU l):
  Calls prog 124 #[tp A.Q,iI t,v] w λe w'=>e=.returned (.tuple #[])/\bM w' A (s.V t l)/\Fz A s w A (s.V t l) w':=by
 let ⟨av,cv,hav,hcv,hcn⟩:=Net.cZ hl
 subst hav
 have HS0:Hid (Sd w w A s t l B (.slice av l.length cv) 0):=⟨h,Fz.h,hl⟩

 go_enter func124,ntmps124
 go_wp2_with fail
 go_loopw [12] (λi wr=>∃k:Nat,k<=l.length/\i=iI k/\Sd w wr A s t l B (.slice av l.length cv) k) (λi _=>l.length-(intOf i).toNat)
 case atStart=>exact⟨0,by omega,rfl,HS0.out⟩
 case round=>
  obtain⟨k,hk,rfl,D⟩:=hrel
  by_cases hlt:k<l.length
  .let ⟨ao,c,hao,hg⟩:=D.b.O
   let ⟨g,hge,hgB,hgs,hcell⟩:=hg (by omega)
   injection hao with hao _ hcc
   subst hao
   subst hcc
   subst hge
   have HT:Hid (s.V t (l.take (k+1))=(s.V t (l.take k)).ac t l[k]):=QZ s t l hlt
   have hsz:=hsm l[k] (bA hlt)
   have q0:=hcell k 0 hlt (by omega)
   have q1:=hcell k 1 hlt (by omega)
   have q2:=hcell k 2 hlt (by omega)
   have q3:=hcell k 3 hlt (by omega)
   have q4:=hcell k 4 hlt (by omega)
   have q5:=hcell k 5 hlt (by omega)
   have q6:=hcell k 6 hlt (by omega)
   have q7:=hcell k 7 hlt (by omega)
   have q8:=hcell k 8 hlt (by omega)
   let ⟨m,hm⟩:∃m,l[k]=m:=⟨_,rfl⟩
   rw[hm]at q0 q1 q2 q3 q4 q5 q6 q7 q8 hsz HT
   have q0':cC wr (aA g (k*9)) (iI m.k):=q0
   simp only[f8,aY,bm]at q1 q2 q3 q4 q5 q6 q7 q8
   have hkI:(k:Int)<(l.length:Int):=by omega
   have hkI0:(0:Int)<=(k:Int):=by omega
   have HD:Hid (Sd w wr A s t l B (.slice (some (aA g 0)) l.length cv) k):=D
   clear D hg hcell hm q0
   have hput:Hid ((s.V t (l.take k)).ac t m=if iC m=true/\(s.V t (l.take k)).dM.length<200 then {s.V t (l.take k) with dM:=(s.V t (l.take k)).dM++[(t,m)]} else s.V t (l.take k)):=rfl
   cases hok:iC m with
   |false=>
    have henc:=λw=>Wire.M4 w (by omega) hok
    unfold Wire.M.ab at henc
    have HP:Hid (s.V t (l.take (k+1))=s.V t (l.take k)):=by
     unfold Hid
     rw[HT.out,hput.out,hok,ax (by simp)]
    go_wp2_with fail
    generalize hW:wr.alloc (.cells #[iI m.k,iI m.c,iI m.n,iI m.e,iI m.s,iI m.o,iI m.v,.bool m.l,.string m.d] 129)=w2
    have hb2:Below wr.heap.size wr w2:=by rw[<-hW];exact(au _ _).alloc (aa _) _
    clear hW
    apply (henc w2).mono
    rintro e w3⟨rfl,hb3⟩
    have hb23:Below wr.heap.size wr w3:=hb2.trans (hb3.mono hb2.size)
    have HS3:Hid (Sd w w3 A s t l B (.slice (some (aA g 0)) l.length cv) (k+1)):=by
     let ⟨x1,x2⟩:=HD.out.h.h hb23
     refine⟨by rw[HP.out];exact x1,by rw[HP.out];exact HD.out.e.e x2,HD.out.b.j hb23⟩

    go_wp2_with fail
    go_roundw
    case rel=>exact⟨k+1,by omega,by go_num,HS3.out⟩
    case measure=>simp[intOf];omega
   |true=>
    have henc:=λw=>Wire.Uj w (by omega) hok
    unfold Wire.M.ab at henc
    have HOK:Hid (iC m=true):=hok
    clear hok
    go_wp2_with fail
    generalize hW:wr.alloc (.cells #[iI m.k,iI m.c,iI m.n,iI m.e,iI m.s,iI m.o,iI m.v,.bool m.l,.string m.d] 129)=w2
    have hb2:Below wr.heap.size wr w2:=by rw[<-hW];exact(au _ _).alloc (aa _) _
    clear hW
    apply (henc w2).mono
    rintro e w3⟨vb,rfl,hH3,hb3⟩
    have hb23:Below wr.heap.size wr w3:=hb2.trans (hb3.mono hb2.size)
    let ⟨x1,x2⟩:=HD.out.h.h hb23
    have hr3:=HD.out.b.j hb23
    have hlen:=Wire.xA HOK.out
    obtain⟨gb,cb,rfl,_,_,hsees⟩:=Wire.Ul hH3 (by omega) (Num.uH HOK.out)
    have hsd:=Net.TM t x1.p hsees (aa _)
    have HX:Hid (bM w3 A (s.V t (l.take k))/\Fz A s w A (s.V t (l.take k)) w3/\iy w3 B (.slice (some (aA g 0)) l.length cv) l):=⟨x1,HD.out.e.e x2,hr3⟩

    go_wp2_with fail
    apply hsd.mono
    rintro e w4⟨rfl,hN4,hO4⟩
    have HS4:Hid (Sd w w4 A s t l B (.slice (some (aA g 0)) l.length cv) (k+1)):=by
     let ⟨y1,y2,y3⟩:=HX.out
     have hmap:Net.TL ((s.V t (l.take k)).dM.map mD) (t,dD m.h)=((s.V t (l.take k)).ac t m).dM.map mD:=by
      rw[hput.out]
      unfold Net.TL
      rw[bH]
      by_cases hq:(s.V t (l.take k)).dM.length<200
      .rw[az hq,az ⟨HOK.out,hq⟩,dQ]
       rfl
      .rw[ax hq,ax (λq=>hq q.2)]
     rw[hmap]at hN4
     let ⟨z1,z2⟩:=y1.V hN4 hO4
     have heq:({s.V t (l.take k) with dM:=((s.V t (l.take k)).ac t m).dM}:Wd)=(s.V t (l.take k)).ac t m:=by
      rw[hput.out]
      split<;>rfl
     rw[heq]at z1 z2
     refine⟨by rw[HT.out];exact z1,by rw[HT.out];exact y2.e z2,bp y3 λq hq=>?_⟩
     let ⟨_,hqt⟩:=dg y3 hq
     exact hO4.b q hqt.H (hqt.j y1.b.h (by decide)) (.inr λc f e=>hqt.j ⟨c,f,e⟩ (by decide) rfl)

    go_wp2_with fail
    go_roundw
    case rel=>exact⟨k+1,by omega,by go_num,HS4.out⟩
    case measure=>simp[intOf];omega
  .obtain rfl:k=l.length:=by omega
   have HD:Hid (Sd w wr A s t l B (.slice av l.length cv) l.length):=D

   go_wp2_with fail
   go_end0
   have:=HD.out.h
   have h2:=HD.out.e
   rw[gz]at this h2
   exact⟨rfl,this,h2⟩
end Wld
namespace Gen
variable{a:Act}{listed:Array Bool}{af':Array Edge}{ops:Array Oper}{Q:Exit->Act->A1->Prop}{fuel:Nat}{op op':Op}{o o':Oper}{d d':Option Tmp}{P:Bo}{md:Region.Mode}{ps ps':String}{ty ty':Bi}{w:A1}{S:A1->Prop}
def two{i j:Nat}{af:Array Edge}(m:Region.ready md ops listed=[i,j])(n:ops[i]?=some o)(f:o=⟨d,op,ty,ps,af,none⟩)(g:ops[j]?=some o')(b:o'=⟨d',op',ty',ps',af',none⟩)(h:∀K:Act->A1->Prop,Shut (∀a w,S w->(S w->anyM P md ops Q S fuel (listed.setIfInBounds i true) a w)->K a w)->Oper.wp P ⟨d,op,ty,ps,af,none⟩ a w K Q)(p:∀K:Act->A1->Prop,Shut (∀a w,S w->(S w->anyM P md ops Q S fuel (listed.setIfInBounds j true) a w)->K a w)->Oper.wp P ⟨d',op',ty',ps',af',none⟩ a w K Q):anyM P md ops Q S (fuel+1) listed a w:=by
 subst f b;refine⟨λh0=>(by rw[m]at h0;cases h0),λk e=>?_⟩;rw[m]at e;rcases bN.1 e with rfl|e
 unfold wpOp;simp only[n,Region.wanted,dC];exact .inl (h _ (λa w c l=>⟨λ_=>c,l c⟩));obtain rfl:=aL.1 e;unfold wpOp;simp only[g,Region.wanted,dC];exact .inl (p _ (λa w c l=>⟨λ_=>c,l c⟩))
def tw(i j:Nat){af:Array Edge}(h:∀K:Act->A1->Prop,Shut (∀a w,S w->(S w->anyM P md ops Q S fuel (listed.setIfInBounds i true) a w)->K a w)->Oper.wp P ⟨d,op,ty,ps,af,none⟩ a w K Q)(f:∀K:Act->A1->Prop,Shut (∀a w,S w->(S w->anyM P md ops Q S fuel (listed.setIfInBounds j true) a w)->K a w)->Oper.wp P ⟨d',op',ty',ps',af',none⟩ a w K Q)(g:Region.ready md ops listed=[i,j]:=by kernel_rfl)(k:ops[i]?=some o:=by rfl)(c:o=⟨d,op,ty,ps,af,none⟩:=by rfl)(e:ops[j]?=some o':=by rfl)(b:o'=⟨d',op',ty',ps',af',none⟩:=by rfl):anyM P md ops Q S (fuel+1) listed a w:=two g k c e b h f
end Gen
end Go.Proofs.YtbebfliimjjohabGreatDoor
