/- Parts of the proof. -/
import Derived.Test.YtbebfliimjjohabGreatDoorM24
set_option maxRecDepth 100000
set_option maxHeartbeats 8000000
set_option linter.all false
open Go.Proofs.Tryz
namespace Go.Proofs.YtbebfliimjjohabGreatDoor
open Go.RowKit Go.Maps
open Lease (Ob fN ic ek dH mx cy jm fY eI de)
open Cache (tp aZ bq)
open Wal (R du bM Oq Fw cO)
open Num (M)
namespace Wld
variable{down:Bool}{D:Lease.j1}{l:List M}{rs:List R}{m:M}{b g u i o k p B:Nat}{A:Type}{t:DU}{w w' x z y:Ba}{f:Nat->A}
structure Sv where
 i:Int
 b:Int
 o:Int
 xU:Int
 bR:Int
 ge:Int
 vd:Nat->ByteArray
 vv:Nat->Int
 last:Nat->R
 D:Lease.j1
 oQ:Int->Int
 iK:Int->Int
 n:Nat
 waits:Nat->List M
 rs:List R
 jw:Bool
 iD:Bool
 eK:Int
structure Ad where
 q:Nat
 S:Nat
 U:Nat
 T:Nat
 m:Nat
variable{a:Ad}
structure bZ(w:World)(a:Ad)(s:Sv):Prop where
 y:∃cs f,w.heap[a.S]?=some (.cells cs 144 f)
 o:∀i,w.frozen? ⟨a.S,i,none⟩=false
 c0:w.cell? ⟨a.S,0,none⟩=some (.int .i64 s.i)
 c1:w.cell? ⟨a.S,1,none⟩=some (.int .i64 s.b)
 c2:w.cell? ⟨a.S,2,none⟩=some (.int .i64 s.o)
 c3:w.cell? ⟨a.S,3,none⟩=some (tp a.U)
 c4:w.cell? ⟨a.S,4,none⟩=some (.int .i64 s.xU)
 c5:w.cell? ⟨a.S,5,none⟩=some (.int .i64 s.bR)
 c6:w.cell? ⟨a.S,6,none⟩=some (.int .i64 s.ge)
 vd:∀i,i<8->w.cell? ⟨a.S,7+i*2,none⟩=some (.string (s.vd i))
 vv:∀i,i<8->w.cell? ⟨a.S,7+i*2+1,none⟩=some (.int .i64 (s.vv i))
 la:∀i,i<4->∀j u,(s.last i).h[j]?=some u->w.cell? ⟨a.S,23+i*6+j,none⟩=some u
 A:w.cell? ⟨a.S,47,none⟩=some (tp a.T)
 b:∀i,i<8->∃v,w.cell? ⟨a.S,48+i,none⟩=some v/\gR w (a.S+1) v (s.waits i)
 t:∀i j u v,i<8->j<8->i≠j->w.cell? ⟨a.S,48+i,none⟩=some u->w.cell? ⟨a.S,48+j,none⟩=some v->∀g,u.ownBlock=some g->v.ownBlock≠some g
 B:du w a.U a.q s.rs s.jw
 J:bM w a.q s.rs s.iD s.eK
 p:cy w a.T a.m s.D s.oQ s.iK s.n
 tt:∃cs f,w.heap[a.T]?=some (.cells cs 301 f)
 x:a.q<a.U
 W:a.U<a.m
 Z:a.m<a.T
 F:a.T<a.S
 C:∀i,i<8->(s.waits i).length<=10
def bZ.lt{s:Sv}(h:bZ w a s):a.S<w.heap.size:=h.y.elim λ_ h=>h.elim λ_ h=>(ar.1 h).1
def bZ.ai{s:Sv}(h:bZ w a s)(g:w'.heap[a.S]?=w.heap[a.S]?)(p:du w' a.U a.q s.rs s.jw)(r:bM w' a.q s.rs s.iD s.eK)(z:cy w' a.T a.m s.D s.oQ s.iK s.n)(k:∃cs f,w'.heap[a.T]?=some (.cells cs 301 f))(B:∀i v,i<8->cC w (aA a.S (48+i)) v->gR w (a.S+1) v (s.waits i)->gR w' (a.S+1) v (s.waits i)):bZ w' a s:=by
 have e:∀i,w'.cell? (aA a.S i)=w.cell? (aA a.S i):=λi=>aa g;exact⟨g▸h.y,λi=>(aG (a:=(aA a.S i)) g).trans (h.o i),(e 0).trans h.c0,(e 1).trans h.c1,(e 2).trans h.c2,(e 3).trans h.c3,(e 4).trans h.c4,(e 5).trans h.c5,(e 6).trans h.c6,
  λi c=>(e _).trans (h.vd i c),λi c=>(e _).trans (h.vv i c),λi c j u l=>(e _).trans (h.la i c j u l),(e 47).trans h.A,
  λi c=>(h.b i c).imp λv d=>⟨(e _).trans d.1,B i v c d.1 d.2⟩,λi j u v c E G l d=>h.t i j u v c E G ((e _).symm.trans l) ((e _).symm.trans d),p,r,z,k,h.x,h.W,h.Z,h.F,h.C⟩
def bZ.h{s:Sv}(h:bZ w a s)(b:FF w w'):bZ w' a s:=
 h.ai (b.block _ h.lt) (h.B.e b) (h.J.e b (Pz h.B.p h.x)) (h.p.H b) (h.tt.imp λ_ k=>k.imp λ_ k=>(b.block _ (Pz h.lt h.F)).trans k) (λ_ _ _ _ c=>c.j b)
def bZ.I{s:Sv}(h:bZ w a s):bZ w.drew a s:=h.h (au _ _).drew
def bZ.ab{s:Sv}(h:bZ w a s){j:Nat}:bZ (w.drewN j) a s:=h.h ⟨rfl,rfl,rfl,aj _,λ_ _=>rfl⟩
def bZ.j{s:Sv}(h:bZ w a s)(o:Obj):bZ (w.alloc o) a s:=h.h ((au _ _).alloc (aj _) o)
def nU{cs c:Array Dv}{d:DU}{f f':Nat×Nat}(h:w.heap[b]?=some (.cells cs t f))(a:w.heap[g]?=some (.cells c d f'))(e:t≠d):b≠g:=by
 rintro rfl;rw[h]at a;injection a with a
 injection a with _ a _
 exact e a
def WalIs.ac{q:Nat}(h:du w u q rs down)(hs:w.heap.size<=w'.heap.size)(b:w'.heap[u]?=w.heap[u]?)(m:∀g cs f,w.heap[g]?=some (.cells cs 138 f)->u+1<=g->w'.heap[g]?=w.heap[g]?):du w' u q rs down:=by
 obtain⟨n,⟨v,o,d,e⟩,p,r,y,s⟩:=h;refine⟨(aa (a:=(aA u 0)) b).trans n,⟨v,(aa (a:=(aA u 1)) b).trans o,d,?_⟩,(aa (a:=(aA u 2)) b).trans p,λi=>(aG (a:=(aA u i)) b).trans (r i),ak,b▸s⟩;rcases e with h|⟨g,j,c,t,k,l,x⟩
 exact .inl h;exact .inr ⟨g,j,c,t,k,(m g c _ l k).trans l,x⟩
def DiskIs.ac{q:Nat}{f:Bool}{l:Int}(h:bM w q rs f l)(d:w'.heap[q]?=w.heap[q]?):bM w' q rs f l:=by
 have e:∀i,w'.cell? (aA q i)=w.cell? (aA q i):=λi=>aa d;have g:∀i,w'.frozen? (aA q i)=w.frozen? (aA q i):=λi=>aG d;exact⟨λk a=>⟨(h.j k a).1,λj v m=>(e _).trans ((h.j k a).2.1 j v m),λj c=>⟨by rw[e];exact((h.j k a).2.2 j c).1,(g _).trans ((h.j k a).2.2 j c).2⟩⟩,
  λk a j c=>⟨by rw[e];exact(h.s k a j c).1,(g _).trans (h.s k a j c).2⟩,λk n r=>(e _).trans (h.u k n r),(e _).trans h.b,(e _).trans h.o,λi=>(g i).trans (h.p i),h.t,h.x⟩
structure aa5(w:World)(a:Ad)(s:Sv):Prop where
 e:du w a.U a.q s.rs s.jw
 b:bM w a.q s.rs s.iD s.eK
 h:cy w a.T a.m s.D s.oQ s.iK s.n
 i:∃cs f,w.heap[a.T]?=some (.cells cs 301 f)
def bZ.aw{s:Sv}(h:bZ w a s)(i:Nat)(x:Dv):aa5 (w.setCell (aA a.S i) x) a s:=by
 have l:=h.x;have m:=h.W;have n:=h.Z;have o:=h.F;have e:∀k,k≠a.S->(w.setCell (aA a.S i) x).heap[k]?=w.heap[k]?:=λk b=>aQ w (aA a.S i) x k b;obtain⟨q,f,c⟩:=h.y;exact⟨WalIs.ac h.B aY (e _ ak) (λg d r j _=>e g (nU j c cn)),DiskIs.ac h.J (e _ ak),h.p.e (e _ ak) (e _ ak),by rw[e _ ak];exact h.tt⟩
def gR.h{v x:Dv}(h:gR w (b+1) v l):gR (w.setCell (aA b i) x) (b+1) v l:=gU (a:=(aA b i)) h jB _
def bZ.af{s:Sv}(h:bZ w a s)(x:Int):bZ (w.setCell (aA a.S 4) (iI x)) a {s with xU:=x}/\bZ (w.setCell (aA a.S 5) (iI x)) a {s with bR:=x}/\bZ (w.setCell (aA a.S 6) (iI x)) a {s with ge:=x}:=by
 have d:=λk=>h.aw k (iI x);have e:∀{k} i,i≠k->(w.setCell (aA a.S k) (iI x)).cell? (aA a.S i)=w.cell? (aA a.S i):=λi c=>am _ _ _ _ (by intro q;injection q with _ q;exact c q.symm);refine⟨?_,?_,?_⟩;all_goals exact⟨Wal.cZ h.y,λi=>by rw[aT];exact h.o i,(e 0 ak).trans h.c0,(e 1 ak).trans h.c1,(e 2 ak).trans h.c2,(e 3 ak).trans h.c3,by first|exact(e 4 ak).trans h.c4|exact az _ _ _ h.c4,by first|exact(e 5 ak).trans h.c5|exact az _ _ _ h.c5,by first|exact(e 6 ak).trans h.c6|exact az _ _ _ h.c6,
  λi c=>(e _ ak).trans (h.vd i c),λi c=>(e _ ak).trans (h.vv i c),λi c j u g=>(e _ ak).trans (h.la i c j u g),(e 47 ak).trans h.A,
  λi c=>(h.b i c).imp λv f=>⟨(e _ ak).trans f.1,f.2.h⟩,λi j u v c l m g f=>h.t i j u v c l m ((e _ ak).symm.trans g) ((e _ ak).symm.trans f),(d _).e,(d _).b,(d _).h,(d _).i,h.x,h.W,h.Z,h.F,h.C⟩
def bZ.an{s:Sv}(h:bZ w a s){v z:Int->Int}{n:Nat}(O:cy w' a.T a.m D v z n)(P:Ob [a.T,a.m] w w'):bZ w' a {s with D:=D,oQ:=v,iK:=z,n:=n}:=by
 have h1:=h.x;have h2:=h.W;have h3:=h.Z;have h4:=h.F;have I:=h.lt;have e:∀k,k<w.heap.size->k≠a.T->k≠a.m->w'.heap[k]?=w.heap[k]?:=λk Q R U=>P.b k Q (by simp[R,U]);let ⟨cs,f,V⟩:=h.tt
 have E:∀g c t f,w.heap[g]?=some (.cells c t f)->g≠a.m:=by
  rintro g c t f l rfl;let ⟨es,K,k1,_⟩:=h.p.b
  rw[k1]at l;cases l
 have L:=e a.S I ak ak;have k:=(h.ai (w':=w) rfl h.B h.J h.p h.tt (λ_ _ _ _ q=>q));have X:∀i v,i<8->cC w (aA a.S (48+i)) v->gR w (a.S+1) v (s.waits i)->gR w' (a.S+1) v (s.waits i):=λi v _ _ H=>aZ H λg l=>e g (bj H g l).2 (jd ((bj H g l).1)) (jd ((bj H g l).1));have d:∀i,w'.cell? (aA a.S i)=w.cell? (aA a.S i):=λi=>aa L;have M:=O.x;exact⟨L▸h.y,λi=>(aG (a:=(aA a.S i)) L).trans (h.o i),(d 0).trans h.c0,(d 1).trans h.c1,(d 2).trans h.c2,(d 3).trans h.c3,(d 4).trans h.c4,(d 5).trans h.c5,(d 6).trans h.c6,
  λi r=>(d _).trans (h.vd i r),λi r=>(d _).trans (h.vv i r),λi r j u N=>(d _).trans (h.la i r j u N),(d 47).trans h.A,
  λi r=>(h.b i r).imp λv G=>⟨(d _).trans G.1,X i v r G.1 G.2⟩,λi j u v r Y hn N G=>h.t i j u v r Y hn ((d _).symm.trans N) ((d _).symm.trans G),
  WalIs.ac h.B P.i (e _ ak ak ak) (λg ad f' l _=>e g (ar.1 l).1 (nU l V cn) (E g _ _ _ l)),DiskIs.ac h.J (e _ ak ak ak),O,M,h.x,h.W,h.Z,h.F,h.C⟩
def cq{A:Type}(f:Nat->A)(i:Nat)(x:A):Nat->A:=λj=>if j=i then x else f j
def da{x:A}:cq f i x i=x:=by simp[cq]
def dM{j:Nat}{x:A}(h:j≠i):cq f i x j=f j:=by simp[cq,h]
def bZ.ap{s:Sv}(h:bZ w a s)(o:Nat)(vs:List Dv):aa5 (w.setCells a.S o vs) a s:=by
 have c:=h.x;have d:=h.W;have i:=h.Z;have j:=h.F;have e:∀k,k≠a.S->(w.setCells a.S o vs).heap[k]?=w.heap[k]?:=by
  intro k l;clear h c d i j;induction vs generalizing o w with
  |nil=>rfl
  |cons v r b=>rw[World.setCells,b,aQ w (aA a.S o) v k l]
 have t:(w.setCells a.S o vs).heap.size=w.heap.size:=by
  clear h c d i j e;induction vs generalizing o w with
  |nil=>rfl
  |cons v r b=>rw[World.setCells,b];simp
 let ⟨u,f,m⟩:=h.y
 exact⟨WalIs.ac h.B ak (e _ ak) (λg n z q _=>e g (nU q m cn)),DiskIs.ac h.J (e _ ak),h.p.e (e _ ak) (e _ ak),by rw[e _ ak];exact h.tt⟩
def vz(vs:List Dv)(h:∃cs f,w.heap[b]?=some (.cells cs t f)):∃cs f,(w.setCells b o vs).heap[b]?=some (.cells cs t f):=by
 induction vs generalizing o w with
 |nil=>exact h
 |cons v r a=>rw[World.setCells];exact a (Wal.cZ h)
def vt{v:Dv}{vs:List Dv}(h:gR w (b+1) v l):gR (w.setCells b o vs) (b+1) v l:=by
 induction vs generalizing o w with
 |nil=>exact h
 |cons x r a=>rw[World.setCells];exact a h.h
def bZ.a3{s:Sv}(h:bZ w a s)(m:o<8)(d:DS)(v:Int):bZ (w.setCells a.S (7+o*2) [.string d,iI v]) a {s with vd:=cq s.vd o d,vv:=cq s.vv o v}:=by
 have g:=h.ap (7+o*2) [.string d,iI v];have f:∀i,(w.setCells a.S (7+o*2) [.string d,iI v]).frozen? (aA a.S i)=w.frozen? (aA a.S i):=λi=>jQ _ _ _ _ _;have e:∀i,(i<7+o*2\/7+o*2+2<=i)->(w.setCells a.S (7+o*2) [.string d,iI v]).cell? (aA a.S i)=w.cell? (aA a.S i):=λi c=>l6 a.S _ _ w (aA a.S i) (λ_ _=>dD c);have n:(w.setCells a.S (7+o*2) [.string d,.int .i64 v]).cell? ⟨a.S,7+o*2,none⟩=some (.string d):=by
  simp only[World.setCells];rw[am _ _ _ _ (by intro q;injection q with _ q;omega),az _ _ _ (h.vd o m)]
 have p:cC (w.setCells a.S (7+o*2) [.string d,iI v]) (aA a.S (7+o*2+1)) (iI v):=by
  simp only[World.setCells];exact az _ _ _ ((am _ _ _ _ (by intro q;injection q with _ q;omega)).trans (h.vv o m))
 exact⟨(vz (o:=7+o*2) [.string d,iI v] h.y),λi=>by rw[f];exact h.o i,(e 0 ak).trans h.c0,(e 1 ak).trans h.c1,(e 2 ak).trans h.c2,(e 3 ak).trans h.c3,(e 4 ak).trans h.c4,(e 5 ak).trans h.c5,(e 6 ak).trans h.c6,λi c=>by
  dsimp only;by_cases q:i=o;subst q;rw[da];exact n;rw[dM q];exact(e _ ak).trans (h.vd i c),λi c=>by
  dsimp only;by_cases q:i=o;subst q;rw[da];exact p;rw[dM q];exact(e _ ak).trans (h.vv i c),λi c j u k=>(e _ (by have:=(bB.1 k).1;rw[Wal.R.j]at this;omega)).trans (h.la i c j u k),(e 47 ak).trans h.A,λi c=>(h.b i c).imp λv l=>⟨(e _ ak).trans l.1,(λh=>vt h) l.2⟩,λi j u v c r z k l=>h.t i j u v c r z ((e _ ak).symm.trans k) ((e _ ak).symm.trans l),g.e,g.b,g.h,g.i,h.x,h.W,h.Z,h.F,h.C⟩
def bZ.aU{s:Sv}(h:bZ w a s)(n:o<4)(r:R):bZ (w.setCells a.S (23+o*6) r.h) a {s with last:=cq s.last o r}:=by
 have k:=h.ap (23+o*6) r.h;have f:∀i,(w.setCells a.S (23+o*6) r.h).frozen? (aA a.S i)=w.frozen? (aA a.S i):=λi=>jQ _ _ _ _ _;have e:∀i,(i<23+o*6\/23+o*6+6<=i)->(w.setCells a.S (23+o*6) r.h).cell? (aA a.S i)=w.cell? (aA a.S i):=λi d=>l6 a.S _ _ w (aA a.S i) (λ_ _=>by rw[Wal.R.j];exact d);have m:w.there a.S (23+o*6) 6:=λj g=>by
  obtain⟨u,c⟩:∃u,(s.last o).h[j]?=some u:=⟨_,aE (by rw[Wal.R.j];exact g)⟩;exact⟨by rw[h.la o n j u c];rfl,h.o _⟩
 exact⟨(vz (o:=23+o*6) r.h h.y),λi=>by rw[f];exact h.o i,(e 0 ak).trans h.c0,(e 1 ak).trans h.c1,(e 2 ak).trans h.c2,(e 3 ak).trans h.c3,(e 4 ak).trans h.c4,(e 5 ak).trans h.c5,(e 6 ak).trans h.c6,λi d=>(e _ ak).trans (h.vd i d),λi d=>(e _ ak).trans (h.vv i d),λi d j u c=>by
  by_cases q:i=o;subst q;dsimp only at c;rw[da]at c;exact(λj u c=>World.rangeAt_setCells_same _ _ _ _ (by rw[Wal.R.j];exact m) j u c) j u c;dsimp only at c;rw[dM q]at c;have g:=(bB.1 c).1;rw[Wal.R.j]at g;exact(e _ ak).trans (h.la i d j u c),(e 47 ak).trans h.A,λi d=>(h.b i d).imp λv l=>⟨(e _ ak).trans l.1,(λh=>vt h) l.2⟩,λi j u v d g p c l=>h.t i j u v d g p ((e _ ak).symm.trans c) ((e _ ak).symm.trans l),k.e,k.b,k.h,k.i,h.x,h.W,h.Z,h.F,h.C⟩
def eM(w:World)(a:Ad)(k:Nat):Prop:=k=a.q\/k=a.m\/k=a.S\/k=a.U\/k=a.T\/(∃v,w.cell? ⟨a.U,1,none⟩=some v/\v.ownBlock=some k)\/∃i v,i<8/\w.cell? ⟨a.S,48+i,none⟩=some v/\v.ownBlock=some k
structure Fs(a:Ad)(w w':World):Prop where
 A:w'.os=w.os
 u:w'.tape=w.tape
 p:w'.output=w.output
 b:w.heap.size<=w'.heap.size
 o:∀k,k<w.heap.size->¬eM w a k->w'.heap[k]?=w.heap[k]?
 h:∀k,k<w.heap.size->eM w' a k->eM w a k
 s:∀i,(i<3\/12405<=i)->w'.cell? ⟨a.q,i,none⟩=w.cell? ⟨a.q,i,none⟩
 x:∀i,w'.frozen? ⟨a.q,i,none⟩=w.frozen? ⟨a.q,i,none⟩
 y:∀t,(∃cs f,w.heap[a.q]?=some (.cells cs t f))->∃cs f,w'.heap[a.q]?=some (.cells cs t f)
def Fs.j:Fs a w w:=⟨rfl,rfl,rfl,aj _,λ_ _ _=>rfl,λ_ _ h=>h,λ_ _=>rfl,λ_=>rfl,λ_ h=>h⟩
def Fs.e(h:Fs a x y)(k:Fs a y z):Fs a x z:=
 ⟨k.A.trans h.A,k.u.trans h.u,k.p.trans h.p,aO h.b k.b,
  λi c d=>(k.o i (aN c h.b) (λf=>d (h.h i c f))).trans (h.o i c d),λi c f=>h.h i c (k.h i (aN c h.b) f),
  λi c=>(k.s i c).trans (h.s i c),λi=>(k.x i).trans (h.x i),λt g=>k.y t (h.y t g)⟩
def fe(e:w'.cell? (aA a.U 1)=w.cell? (aA a.U 1))(f:∀i,i<8->w'.cell? (aA a.S (48+i))=w.cell? (aA a.S (48+i)))(h:eM w' a k):eM w a k:=by
 rcases h with h|h|h|h|h|⟨v,b,c⟩|⟨i,v,d,b,c⟩
 exact .inl h;exact .inr (.inl h);exact .inr (.inr (.inl h));exact .inr (.inr (.inr (.inl h)));exact .inr (.inr (.inr (.inr (.inl h))));exact .inr (.inr (.inr (.inr (.inr (.inl ⟨v,e▸b,c⟩)))));exact .inr (.inr (.inr (.inr (.inr (.inr ⟨i,v,d,(f i d)▸b,c⟩)))))
def bZ.e{s:Sv}(h:bZ w a s):a.q<w.heap.size/\a.U<w.heap.size/\a.m<w.heap.size/\a.T<w.heap.size/\a.S<w.heap.size/\a.q≠a.S/\a.q≠a.T/\a.q≠a.m/\a.q≠a.U/\a.U≠a.S/\a.U≠a.T/\a.U≠a.m/\a.T≠a.S/\a.m≠a.S:=by
 have b:=h.x;have c:=h.W;have d:=h.Z;have f:=h.F;have g:=h.lt;omega
def bZ.V{s:Sv}(h:bZ w a s){v:Dv}(d:cC w (aA a.U 1) v)(c:v.ownBlock=some g):a.U<g/\∃e f,w.heap[g]?=some (.cells e 138 f):=by
 obtain⟨n,b,i⟩:=h.B.o;rw[d]at b;injection b with b
 subst b;rcases i.2 with⟨rfl,_⟩|⟨p,j,k,rfl,l,m,_⟩
 simp[Value.ownBlock]at c;simp[Value.ownBlock]at c;subst c;exact⟨l,_,_,m⟩
def bZ.ac{s:Sv}(h:bZ w a s)(e:i<8){v:Dv}(j:cC w (aA a.S (48+i)) v)(d:v.ownBlock=some g):a.S<g/\∃k f,w.heap[g]?=some (.cells k 129 f):=by
 obtain⟨q,c,l⟩:=h.b i e;rw[j]at c;injection c with c
 subst c;rcases l.2 with⟨rfl,_⟩|⟨r,m,n,rfl,o,p,_⟩
 simp[Value.ownBlock]at d;simp[Value.ownBlock]at d;subst d;exact⟨o,_,_,p⟩
def bZ.H{s:Sv}(h:bZ w a s)(j:eM w a k):k<w.heap.size:=by
 have n:=h.e;rcases j with b|b|b|b|b|⟨v,c,d⟩|⟨i,v,l,c,d⟩
 omega;omega;omega;omega;omega;let ⟨_,m,f,g⟩:=h.V c d
 exact(ar.1 g).1;let ⟨_,m,f,g⟩:=h.ac l c d
 exact(ar.1 g).1
def Fs.H{s:Sv}(hs:bZ x a s)(h:FF x y):Fs a x y:=by
 have b:=hs.e;exact⟨h.os,h.tape,h.output,h.size,λk c _=>h.block k c,λk _=>fe (aa (h.block a.U b.2.1)) (λi _=>aa (h.block a.S b.2.2.2.2.1)),
  λ_ _=>aa (h.block a.q b.1),λ_=>aG (h.block a.q b.1),λ_ d=>by rw[h.block a.q b.1];exact d⟩
def Fs.V(h:Fs a x y):Fs a x y.drew:=⟨h.A,h.u,h.p,h.b,h.o,h.h,h.s,h.x,h.y⟩
def Fs.ab(h:Fs a x y){j:Nat}:Fs a x (y.drewN j):=⟨h.A,h.u,h.p,h.b,h.o,h.h,h.s,h.x,h.y⟩
def Fs.O{s:Sv}(h:Fs a x y)(hs:bZ y a s)(o:Obj):Fs a x (y.alloc o):=h.e (Fs.H hs ((au _ _).alloc (aj _) o))
def Fs.I{s:Sv}(h:Fs a x y)(hs:bZ y a s)(b:FF y z):Fs a x z:=h.e (Fs.H hs b)
def bZ.O{w1:Ba}{s:Sv}(h:bZ w a s)(b:FF w w1)(d:w.heap.size<=k):¬eM w1 a k:=λf=>by
 have c:=h.e;have:=h.H (fe (aa (b.block a.U c.2.1)) (λi _=>aa (b.block a.S c.2.2.2.2.1)) f);omega
def Fs.ae(h:Fs a x y)(c:z.os=y.os)(d:z.tape=y.tape)(f:z.output=y.output)(g:y.heap.size<=z.heap.size)(b:z.heap[a.q]?=y.heap[a.q]?)(j:∀k,k<y.heap.size->¬eM y a k->z.heap[k]?=y.heap[k]?)(l:z.cell? (aA a.U 1)=y.cell? (aA a.U 1))(m:∀i,i<8->z.cell? (aA a.S (48+i))=y.cell? (aA a.S (48+i))):Fs a x z:=
 h.e ⟨c,d,f,g,j,λk _=>fe l m,λ_ _=>aa b,λ_=>aG b,λt n=>b▸n⟩
def Fs.ac{s:Sv}{v:Dv}(h:Fs a x y)(hs:bZ y a s)(d:i<48\/56<=i):Fs a x (y.setCell (aA a.S i) v):=by
 have f:=hs.e;have e:∀k,k≠a.S->(y.setCell (aA a.S i) v).heap[k]?=y.heap[k]?:=λk b=>aQ y (aA a.S i) v k b;exact h.ae rfl rfl rfl aY (e _ ak) (λk _ c=>e k (λq=>c (.inr (.inr (.inl q))))) (aa (e a.U ak)) (λj g=>am _ _ _ _ (by intro q;injection q with _ q;omega))
def CM:∀(a:List Dv) (o:Nat) (w:Ba),(w.setCells b o a).heap.size=w.heap.size/\(w.setCells b o a).os=w.os/\(w.setCells b o a).tape=w.tape/\(w.setCells b o a).output=w.output
 | [],_,_=>⟨rfl,rfl,rfl,rfl⟩
 |v::r,o,w=>by
  obtain⟨c,d,e,f⟩:=CM r (o+1) (w.setCell (aA b o) v);rw[World.setCells];exact⟨by rw[c];simp,d,e,f⟩
def Fs.af{s:Sv}(h:Fs a x y)(hs:bZ y a s)(o:Nat)(vs:List Dv)(c:o+vs.length<=48):Fs a x (y.setCells a.S o vs):=by
 have d:=hs.e;have e:∀k,k≠a.S->(y.setCells a.S o vs).heap[k]?=y.heap[k]?:=by
  intro k f;clear c h hs d;induction vs generalizing o y with
  |nil=>rfl
  |cons v r g=>rw[World.setCells,g,aQ y (aA a.S o) v k f]
 have b:(y.setCells a.S o vs).heap.size=y.heap.size/\(y.setCells a.S o vs).os=y.os/\(y.setCells a.S o vs).tape=y.tape/\(y.setCells a.S o vs).output=y.output:=CM vs o y;exact h.ae b.2.1 b.2.2.1 b.2.2.2 ak (e _ ak) (λk _ i=>e k (λq=>i (.inr (.inr (.inl q))))) (aa (e a.U ak)) (λj l=>l6 a.S _ _ y (aA a.S (48+j)) (λ_ _=>.inr jB))
def Fs.ob{s:Sv}(h:Fs a x y)(hs:bZ y a s)(c:Ob [a.T,a.m] y z):Fs a x z:=by
 have n:=hs.e;have e:∀k,k<y.heap.size->k≠a.T->k≠a.m->z.heap[k]?=y.heap[k]?:=λk d g l=>c.b k d (by simp[g,l]);exact h.ae c.s c.p c.o c.i (e _ ak ak ak) (λk d f=>e k d (λq=>f (.inr (.inr (.inr (.inr (.inl q)))))) (λq=>f (.inr (.inl q)))) (aa (e a.U ak ak ak)) (λj r=>aa (e a.S ak ak ak))
def Fs.fw{s:Sv}(h:Fs a x y)(hs:bZ y a s)(hF:Fw a.U a.q y z):Fs a x z:=by
 have j:=hs.e;let ⟨v,d,hF,I,l,m⟩:=hF
 have n:∀g,v.ownBlock=some g->a.U<g:=λg E=>(hs.V d E).1;let ⟨J,f,r⟩:=hs.y
 have F:=hF.b a.S j.2.2.2.2.1 ak ak (λe=>by
  let ⟨_,G,K,H⟩:=hs.V d e
  exact nU r H cn rfl)
 exact h.e ⟨hF.A,hF.s,hF.o,hF.h,λk D w=>hF.b k D (λq=>w (.inr (.inr (.inr (.inl q))))) (λq=>w (.inl q)) (λq=>w (.inr (.inr (.inr (.inr (.inr (.inl ⟨v,d,q⟩))))))),λk D f=>by
   rcases f with f|f|f|f|f|⟨u,c,B⟩|⟨i,u,C,c,B⟩
   exact .inl f;exact .inr (.inl f);exact .inr (.inr (.inl f));exact .inr (.inr (.inr (.inl f)));exact .inr (.inr (.inr (.inr (.inl f))));exact .inr (.inr (.inr (.inr (.inr (.inl ⟨v,d,by
   rw[l]at c;injection c with c
   subst c;rcases m k B with q|q
   exact q;omega⟩)))))
   exact .inr (.inr (.inr (.inr (.inr (.inr ⟨i,u,C,(aa F).symm.trans c,B⟩))))),
  λi C=>hF.p i j.1 hs.x n C,λi=>hF.x i j.1 hs.x n,λt r=>hF.y t hs.x n r⟩
def bZ.ao{s:Sv}(h:bZ w a s){d:Bool}{left:Int}(O:du w' a.U a.q rs down)(P:bM w' a.q rs d left)(hF:Fw a.U a.q w w'):bZ w' a {s with rs:=rs,jw:=down,iD:=d,eK:=left}:=by
 have hl:=h.e;let ⟨M,f,D⟩:=h.tt
 let ⟨Q,f',R⟩:=h.y
 let ⟨v,n,hF,_⟩:=hF
 have E:∀k c t f,w.heap[k]?=some (.cells c t f)->t≠138->v.ownBlock≠some k:=λk c t f X D e=>by
  let ⟨_,M,f,z⟩:=h.V n e
  exact nU X z D rfl
 have G:=hF.b a.S ak ak ak (E _ _ _ _ R cn);have N:=hF.b a.T ak ak ak (E _ _ _ _ D cn);have B:=hF.b a.m ak ak ak (λe=>by
  let ⟨es,H,k1,_⟩:=h.p.b
  let ⟨_,M,f,z⟩:=h.V n e
  rw[k1]at z;cases z)
 have r:∀i v,i<8->cC w (aA a.S (48+i)) v->gR w (a.S+1) v (s.waits i)->gR w' (a.S+1) v (s.waits i):=λi v _ _ B=>by
  have Y:=h.F;have ad:=h.x;have aS:=h.W;have a0:=h.Z;refine⟨B.1,?_⟩;rcases B.2 with k|⟨g,I,J,e1,e2,K,e4⟩
  exact .inl k;exact .inr ⟨g,I,J,e1,e2,(hF.b g (ar.1 K).1 ak ak (E _ _ _ _ K cn)).trans K,e4⟩
 have e:∀i,w'.cell? (aA a.S i)=w.cell? (aA a.S i):=λi=>aa G;exact⟨G▸h.y,λi=>(aG (a:=(aA a.S i)) G).trans (h.o i),(e 0).trans h.c0,(e 1).trans h.c1,(e 2).trans h.c2,(e 3).trans h.c3,(e 4).trans h.c4,(e 5).trans h.c5,(e 6).trans h.c6,
  λi l=>(e _).trans (h.vd i l),λi l=>(e _).trans (h.vv i l),λi l j u L=>(e _).trans (h.la i l j u L),(e 47).trans h.A,
  λi l=>(h.b i l).imp λv n=>⟨(e _).trans n.1,r i v l n.1 n.2⟩,λi j u v l hj hn L n=>h.t i j u v l hj hn ((e _).symm.trans L) ((e _).symm.trans n),O,P,h.p.e N B,N▸h.tt,h.x,h.W,h.Z,h.F,h.C⟩
def kb{n:Int}:Calls prog 184 #[iI n] w λe w'=>e=.returned (.bool (eI n))/\w'=w:=by
 unfold eI;by_cases h0:0<=n
 .by_cases a:n<8
  .rw[Num.fu h0 ak];go_in;go_wp2;go_ret;exact⟨rfl,rfl⟩
  .rw[Num.j3 ak];have b:= aK a;go_in;go_wp2;go_ret;exact⟨rfl,rfl⟩
 .rw[Num.j4 ak];have b:= aK h0;go_in;go_wp2;go_ret;exact⟨rfl,rfl⟩
def bK(id:Int):Nat:=(id%4).toNat
def na(id:Int):bK id<4:=by unfold bK;omega
def TB(id:Int):((bK id:Nat):Int)=id%4:=by unfold bK;omega
def nd{id:Int}(w:Ba)(h0:0<=id):Calls prog 137 #[iI id] w λe w'=>e=.returned (iI (bK id:Nat))/\w'=w:=by
 have e:id.tmod 4=((bK id:Nat):Int):=by rw[TB,PB h0]
 have a:=na id;generalize bK id=b at *;go_in;go_wp2;go_ret;exact⟨by first|rfl|(simp[e];done)|(rw[e];rfl),rfl⟩
def vm(c n:Int)(r:R):Bool:=decide (r.c<c)||(decide (c=r.c)&&decide (r.n<n))
def CJ(c n:Int)(r:R)(w:Ba):Calls prog 217 #[iI c,iI n,r.H] w λe w'=>e=.returned (.bool (vm c n r))/\FF w w':=by
 unfold vm Wal.R.H;by_cases d:r.c<c
 .have b:= aX d;rw[b];go_in;go_wp2;go_ret;exact⟨rfl,(au _ _).alloc (aj _) _⟩
 .have b:= aK d;rw[b];by_cases a:c=r.c
  .have f:(c==r.c)=true:=dD a;rw[aX a];go_in;go_wp2;go_ret;exact⟨rfl,(au _ _).alloc (aj _) _⟩
  .have f:(c==r.c)=false:=dD a;rw[aK a];go_in;go_wp2;go_ret;exact⟨rfl,(au _ _).alloc (aj _) _⟩
def oK{s:Sv}(h:bZ w a s):Calls prog 138 #[tp a.S] w λe w'=>e=.returned (.bool s.jw)/\w'=w:=by
 have c3:=h.c3;go_in;go_wp2_with (go_at_call 194;refine(Wal.RO h.B).mono ?_;rintro e w'⟨rfl,rfl⟩)
 go_ret;exact⟨rfl,rfl⟩
def TH{s:Sv}(x:Int)(h:bZ w a s):Calls prog 34 #[tp a.S,iI x] w λe w'=>e=.returned (.tuple #[])/\bZ w' a {s with xU:=x}/\Fs a w w':=by
 have c4:=h.c4;have b:=h.o 4;go_in;go_wp2;go_end0;exact⟨rfl,(h.af x).1,((Fs.j).ac h ak)⟩
def Pk(a:Ad){o:Int}(w:Ba)(c:eI o=false):Calls prog 208 #[tp a.S,iI o] w λe w'=>e=.returned (.tuple #[.agg #[.string ⟨#[]⟩,iI 0],.iface 59 (iI 2)])/\FF w w':=by
 have b :Hid _:= c;go_in;go_wp2_with (go_at_call 184;refine(kb).mono ?_;rintro e w'⟨rfl,rfl⟩;rw[b.out])
 exact bn (v:=.tuple #[.agg #[.string ⟨#[]⟩,iI 0],.iface 59 (iI 2)]) (by simp[results,results208,go_sem]) rfl ⟨rfl,(au _ _).alloc (aj _) _⟩
def TM{s:Sv}(h:bZ w a s)(c:o<8):Calls prog 208 #[tp a.S,iI o] w λe w'=>e=.returned (.tuple #[.agg #[.string (s.vd o),iI (s.vv o)],.nilIface])/\FF w w':=by
 have b:eI o=true:=Num.fu ak ak;have j:=h.vd o c;have k:=h.vv o c;have d:=h.lt;have f:a.S≠w.heap.size:=ak;have g:(0:Int)<=(o:Int):=ak;have i:(o:Int)<8:=ak;clear h;go_in;go_wp2_with (go_at_call 184;refine(kb).mono ?_;rintro e w'⟨rfl,rfl⟩;rw[b])
 exact bn (v:=.tuple #[.agg #[.string (s.vd o),iI (s.vv o)],.nilIface]) (by simp[results,results208,go_sem]) rfl ⟨rfl,(au _ _).alloc (aj _) _⟩
def Sv.ao(s:Sv)(a:Int)(m:M):M:=⟨a,m.c,m.n,s.bR,s.iK (bK m.c:Nat),0,0,false,⟨#[]⟩⟩
theorem tU{s:Sv}(kind:Int)(m:M)(h:bZ w a s)(hc:0<=m.c):Calls prog 223 #[tp a.S,iI kind,Wire.M.ab m] w λe w'=>e=.returned (Wire.M.ab (s.ao kind m))/\Below w.heap.size w w':=by
 let ⟨mk,mc,mn,me,ms,mo,mv,ml,md⟩:=m
 dsimp only at hc
 have hlt:=h.lt
 have hs:=λw=>(nd w hc).mono (R':=λe w'=>e=.returned (iI (bK mc:Nat))/\∃n,w'=w.drewN n) (λe w' h=>⟨h.1,0,h.2⟩)
 have hT:∀o1 o2 j,bZ (((w.alloc o1).alloc o2).drewN j) a s:=λo1 o2 j=>((h.j o1).j o2).ab (j:=j)
 have hq:=λo1 o2 j=>(Lease.YX (hT o1 o2 j).p (na mc)).mono (R':=λe w'=>e=.returned (.tuple #[iI (s.iK (bK mc:Nat)),.nilIface])/\∃n,w'=(((w.alloc o1).alloc o2).drewN j).drewN n) (λe w' h=>⟨h.1,0,h.2⟩)
 have c47:=h.A
 have c5:=h.c5
 have hne:a.S≠w.heap.size:=ak
 have hne1:a.S≠w.heap.size+1:=ak
 unfold Sv.ao Wire.M.ab

 go_in
 go_wp2_with fail
 go_quiet (first|(go_at_call 137;refine Calls.quiet_of (hs _))|(go_at_call 254;refine Calls.quiet_of (hq _ _ _)))
 go_wp2_with fail
 have hz:w.heap.size=(w.drewN nq).heap.size:=rfl
 have hB0:Below w.heap.size w (w.drewN nq):=⟨rfl,rfl,rfl,aj _,λ_ _=>rfl⟩
 have c5':cC (w.drewN nq) (aA a.S 5) (iI s.bR):=c5
 change Code.wp _ _ _ _ (((w.drewN nq).alloc _).alloc _)
 rw[hz]at hne hne1 hlt⊢
 rw[hz]at hB0

 generalize w.drewN nq=w0 at *
 go_region
 all_goals go_wp2_with fail
 all_goals exact bn (v:=.agg #[iI kind,iI mc,iI mn,iI s.bR,iI (s.iK (bK mc:Nat)),iI 0,iI 0,.bool false,.string ⟨#[]⟩]) (by simp[results,results223,go_sem]) rfl ⟨rfl,(((hB0.alloc (aj _) _).alloc aY _).drew).mono hB0.size⟩
def MB.ab(m:M)(g:∀j,j<9->(w.cell? (aA p j)).isSome=true):MB (w.setCells p 0 (gh m)) p m:=by
 have h:∀j u,(gh m)[j]?=some u->(w.setCells p 0 (gh m)).cell? ⟨p,j,none⟩=some u:=λj u b=>by
  obtain⟨l,c⟩:=aP.1 (g 0 ak);obtain⟨n,d⟩:=aP.1 (g 1 ak);obtain⟨o,e⟩:=aP.1 (g 2 ak);obtain⟨q,r3⟩:=aP.1 (g 3 ak);obtain⟨r,r4⟩:=aP.1 (g 4 ak);obtain⟨s,r5⟩:=aP.1 (g 5 ak);obtain⟨t,f⟩:=aP.1 (g 6 ak);obtain⟨v,i⟩:=aP.1 (g 7 ak);obtain⟨x,k⟩:=aP.1 (g 8 ak);have a:=(bB.1 b).1;rw[iV]at a;rw[<-b,aE (by rw[iV];exact a)];exact Wire.sf _ _ _ _ _ _ _ _ _ c d e r3 r4 r5 f i k j a
 exact⟨h 0 _ rfl,h 1 _ rfl,h 2 _ rfl,h 3 _ rfl,h 4 _ rfl,h 5 _ rfl,h 6 _ rfl,h 7 _ rfl,h 8 _ rfl⟩
def MB.I(h:MB w p m)(a:p<w.heap.size)(o:Obj):MB (w.alloc o) p m:=by
 have e:∀j,(w.alloc o).cell? (aA p j)=w.cell? (aA p j):=λj=>aC w o (aA p j) a;exact⟨(e _).trans h.y,(e _).trans h.i,(e _).trans h.u,(e _).trans h.j,(e _).trans h.p,(e _).trans h.h,(e _).trans h.t,(e _).trans h.x,(e _).trans h.A⟩
def MB.e{C:Nat}(h:MB w p m)(a:Below C w w')(b:p<C):MB w' p m:=by
 have e:∀j,w'.cell? (aA p j)=w.cell? (aA p j):=λj=>a.cell (p:=(aA p j)) b;exact⟨(e _).trans h.y,(e _).trans h.i,(e _).trans h.u,(e _).trans h.j,(e _).trans h.p,(e _).trans h.h,(e _).trans h.t,(e _).trans h.x,(e _).trans h.A⟩
def MB.Z(h:MB w p m)(j:Nat)(a:j<9):(w.cell? (aA p j)).isSome=true:=by
 match j,a with
 |0,_=>rw[h.y];rfl
 |1,_=>rw[h.i];rfl
 |2,_=>rw[h.u];rfl
 |3,_=>rw[h.j];rfl
 |4,_=>rw[h.p];rfl
 |5,_=>rw[h.h];rfl
 |6,_=>rw[h.t];rfl
 |7,_=>rw[h.x];rfl
 |8,_=>rw[h.A];rfl
def TF:∀(a:List Dv) (o:Nat) (w:Ba),(w.setCells p o a).heap.size=w.heap.size
 | [],_,_=>rfl
 |v::r,o,w=>by rw[World.setCells,TF r (o+1)];simp
def Ai{a:Ba}(b:B<=p):∀(c:List Dv) (o:Nat) (w:Ba),Below B a w->Below B a (w.setCells p o c)
 | [],_,_,h=>h
 |v::r,o,w,h=>by rw[World.setCells];exact Ai b r (o+1) _ (h.setCell (p:=(aA p o)) b v)
def Sv.av(s:Sv)(m:M)(v:Int):M:=⟨6,m.c,m.n,s.bR,s.iK (bK m.c:Nat),m.o,v,false,⟨#[]⟩⟩
def Sv.Z(s:Sv)(a:Int)(o:Nat):M:=⟨9,a,0,s.bR,0,o,s.vv o+1,false,⟨#[]⟩⟩
def CI(a:Ad){s:Sv}(b:Int)(o:Nat)(w:Ba)(h:bZ w a s)(c:o<8)(h0:0<=s.vv o)(j:s.vv o<=4611686018427387904):Calls prog 226 #[tp a.S,iI b,iI o] w λe w'=>e=.returned (Wire.M.ab (s.Z b o))/\FF w w':=by
 have d:=h.lt;have c5:=h.c5;have k:=h.vv o c;have f:a.S≠w.heap.size:=ak;have g:(0:Int)<=(o:Int):=ak;have i:(o:Int)<8:=ak;unfold Sv.Z Wire.M.ab

 go_in;go_wp2;go_region;all_goals go_wp2
 all_goals exact bn (v:=.agg #[iI 9,iI b,iI 0,iI s.bR,iI 0,iI o,iI (s.vv o+1),.bool false,.string ⟨#[]⟩]) (by simp[results,results226,go_sem]) rfl ⟨rfl,((au _ _).alloc (aj _) _).drew⟩
def GJ{s:Sv}(m:M)(v:Int)(h:bZ w a s)(hc:0<=m.c):Calls prog 198 #[tp a.S,Wire.M.ab m,iI v] w λe w'=>e=.returned (Wire.M.ab (s.av m v))/\FF w w':=by
 let ⟨mk,b,d,g,k,f,l,n,q⟩:=m
 have N:MB ((dL w mk b d g k f l n q).alloc (.cells #[iI 0,iI 0,iI 0,iI 0,iI 0,iI 0,iI 0,.bool false,.string ⟨#[]⟩] 129)) w.heap.size ⟨mk,b,d,g,k,f,l,n,q⟩:=(gF w).I aY _;have O:MB ((dL w mk b d g k f l n q).alloc (.cells #[iI 0,iI 0,iI 0,iI 0,iI 0,iI 0,iI 0,.bool false,.string ⟨#[]⟩] 129)) (w.heap.size+1) ⟨0,0,0,0,0,0,0,false,⟨#[]⟩⟩:=by
  have:=gF (dL w mk b d g k f l n q) (mk:=0) (mc:=0) (mn:=0) (me:=0) (ms:=0) (mo:=0) (mv:=0) (ml:=false) (md:=⟨#[]⟩);rw[show (dL w mk b d g k f l n q).heap.size=w.heap.size+1 by simp]at this;exact this
 have E:∀i,((dL w mk b d g k f l n q).alloc (.cells #[iI 0,iI 0,iI 0,iI 0,iI 0,iI 0,iI 0,.bool false,.string ⟨#[]⟩] 129)).frozen? (aA (w.heap.size+1) i)=false:=λi=>aY;have P:((dL w mk b d g k f l n q).alloc (.cells #[iI 0,iI 0,iI 0,iI 0,iI 0,iI 0,iI 0,.bool false,.string ⟨#[]⟩] 129)).heap.size=w.heap.size+2:=aY;have G:FF w ((dL w mk b d g k f l n q).alloc (.cells #[iI 0,iI 0,iI 0,iI 0,iI 0,iI 0,iI 0,.bool false,.string ⟨#[]⟩] 129)):=((au _ _).alloc (aj _) _).alloc aY _;have F:bZ ((dL w mk b d g k f l n q).alloc (.cells #[iI 0,iI 0,iI 0,iI 0,iI 0,iI 0,iI 0,.bool false,.string ⟨#[]⟩] 129)) a s:=(h.j _).j _;unfold dL at *;unfold Sv.av Wire.M.ab;dsimp only at hc⊢

 go_in;go_wp2_with fail
 generalize (w.alloc (.cells #[iI mk,iI b,iI d,iI g,iI k,iI f,iI l,.bool n,.string q] 129)).alloc (.cells #[iI 0,iI 0,iI 0,iI 0,iI 0,iI 0,iI 0,.bool false,.string ⟨#[]⟩] 129)=w1 at *;apply (tU 6 ⟨mk,b,d,g,k,f,l,n,q⟩ F hc).mono;rintro e w2⟨rfl,z⟩;have H:=N.e z ak;have B:=O.e z ak;have Q:=λi=>(z.frozen (p:=(aA (w.heap.size+1) i)) jB).trans (E i);have R:=z.size;have b5:=H.h;have ⟨U,V,X,Y,z4,z5,z6,z7,z8⟩:=B








 have C:w.heap.size+1<w2.heap.size:=ak;have L:w.heap.size<w2.heap.size:=ak;have J:=G.trans (z.mono ak);unfold Sv.ao Wire.M.ab;dsimp only at b5⊢

 go_wp2_with fail
 have T:=MB.ab ⟨6,b,d,s.bR,s.iK (bK b:Nat),f,v,false,⟨#[]⟩⟩ (B.Z);have D:(w2.setCells (w.heap.size+1) 0 (gh ⟨6,b,d,s.bR,s.iK (bK b:Nat),f,v,false,⟨#[]⟩⟩)).heap.size=w2.heap.size:=TF _ _ _;have K:FF w (w2.setCells (w.heap.size+1) 0 (gh ⟨6,b,d,s.bR,s.iK (bK b:Nat),f,v,false,⟨#[]⟩⟩)):=Ai ak _ _ _ J;change bodyPost _ _ _ _ _ ((w2.setCells (w.heap.size+1) 0 (gh ⟨6,b,d,s.bR,s.iK (bK b:Nat),f,v,false,⟨#[]⟩⟩)).alloc _);have r:=λo=>T.I (by rw[D];exact C) o;generalize w2.setCells (w.heap.size+1) 0 (gh ⟨6,b,d,s.bR,s.iK (bK b:Nat),f,v,false,⟨#[]⟩⟩)=W at *;exact bn (v:=.agg #[iI 6,iI b,iI d,iI s.bR,iI (s.iK (bK b:Nat)),iI f,iI v,.bool false,.string ⟨#[]⟩]) (by simp[results,results198,go_sem,(λo=>(r o).y),(λo=>(r o).i),(λo=>(r o).u),(λo=>(r o).j),(λo=>(r o).p),(λo=>(r o).h),(λo=>(r o).t),(λo=>(r o).x),(λo=>(r o).A)]) rfl ⟨rfl,(λo=>K.alloc (by rw[D];omega) o) _⟩
def MB.H(h:MB w b m)(hF:Fs a w w')(c:b<w.heap.size)(d:¬eM w a b):MB w' b m:=by
 have e:∀j,w'.cell? (aA b j)=w.cell? (aA b j):=λj=>aa (hF.o b c d);exact⟨(e _).trans h.y,(e _).trans h.i,(e _).trans h.u,(e _).trans h.j,(e _).trans h.p,(e _).trans h.h,(e _).trans h.t,(e _).trans h.x,(e _).trans h.A⟩
def Sv.ap(s:Sv)(c:Int):Sv:={s with D:=fY s.D c 8,oQ:=ic s.oQ c 0,iK:=ic s.iK c (s.iK c+1)}
def Sv.O(s:Sv)(now:Int):List Int->Sv×List Int
 | []=>(s,[])
 |c::a=>if now<s.oQ c then ((s.O now a).1,c::(s.O now a).2) else (s.ap c).O now a
theorem oI(s:Sv)(now:Int):s.O now []=(s,[]):=rfl
theorem lp(s:Sv)(now c:Int)(cs:List Int):s.O now (c::cs)=if now<s.oQ c then ((s.O now cs).1,c::(s.O now cs).2) else (s.ap c).O now cs:=rfl
def Sv.e(s:Sv)(o:Nat)(now:Int):Sv×List Int:=if s.jw=true\/(s.waits o).length=0 then (s,[]) else s.O now (jm s.D o now 4)
variable{s:Sv}
def LA{o now:Int}{c:Int}(h:c∈jm D o now k):∃n:Nat,n<k/\c=(n:Int):=by
 unfold Lease.jm at h;obtain⟨n,a,rfl⟩:=ed.1 h;exact⟨n,by have:=mF.1 (jH.1 a).1;omega,rfl⟩
def HasI.ab{v:Dv}{l:List Int}(h:de w B v l)(b:∀g,B<=g->g<w.heap.size->w'.heap[g]?=w.heap[g]?):de w' B v l:=aZ h λg a=>b g (bj h g a).1 (bj h g a).2
def WalIs.ab{q:Nat}(h:du w u q rs down)(hs:w.heap.size<=w'.heap.size)(b:w'.heap[u]?=w.heap[u]?)(l:∀v g,cC w (aA u 1) v->v.ownBlock=some g->w'.heap[g]?=w.heap[g]?):du w' u q rs down:=by
 obtain⟨m,⟨v,j,c,d⟩,n,o,x,p⟩:=h;refine⟨(aa (a:=(aA u 0)) b).trans m,⟨v,(aa (a:=(aA u 1)) b).trans j,c,?_⟩,(aa (a:=(aA u 2)) b).trans n,λi=>(aG (a:=(aA u i)) b).trans (o i),ak,b▸p⟩;rcases d with h|⟨g,e,f,k,r,s,t⟩
 exact .inl h;exact .inr ⟨g,e,f,k,r,(l v g j (k▸rfl)).trans s,t⟩
def Fs.Z(h:Fs a x y)(hs:bZ y a s)(F:z.os=y.os)(G:z.tape=y.tape)(I:z.output=y.output)(K:y.heap.size<=z.heap.size)(c:∀k,k<y.heap.size->(k<x.heap.size\/eM y a k)->z.heap[k]?=y.heap[k]?):Fs a x z/\bZ z a s:=by
 have d:=hs.e;have n:=c a.q d.1 (.inr (.inl rfl));have C:=c a.U d.2.1 (.inr (.inr (.inr (.inr (.inl rfl)))));have D:=c a.S d.2.2.2.2.1 (.inr (.inr (.inr (.inl rfl))));have E:=c a.T d.2.2.2.1 (.inr (.inr (.inr (.inr (.inr (.inl rfl))))));have L:=h.b;refine⟨⟨F.trans h.A,G.trans h.u,I.trans h.p,ak,λk r M=>(c k ak (.inl r)).trans (h.o k r M),λk r f=>h.h k r (fe (aa C) (λi _=>aa D) f),
  λi w=>(aa n).trans (h.s i w),λi=>(aG n).trans (h.x i),λt N=>by rw[n];exact h.y t N⟩,?_⟩
 exact hs.ai D (WalIs.ab hs.B K C (λv g j l=>c g (hs.H (.inr (.inr (.inr (.inr (.inr (.inl ⟨v,j,l⟩))))))) (.inr (.inr (.inr (.inr (.inr (.inr (.inl ⟨v,j,l⟩))))))))) (DiskIs.ac hs.J n) (hs.p.e E (c a.m d.2.2.1 (.inr (.inr (.inl rfl))))) (E▸hs.tt)
  (λi v w j O=>aZ O λg l=>c g (hs.H (.inr (.inr (.inr (.inr (.inr (.inr ⟨i,v,w,j,l⟩))))))) (.inr (.inr (.inr (.inr (.inr (.inr (.inr ⟨i,v,w,j,l⟩))))))))
def Fs.ag{o:Obj}{v:Dv}{l:List Int}(h:Fs a x y)(hs:bZ y a s)(t:de y x.heap.size v l)(I:a.S<x.heap.size)(b:(y.alloc o).grownBy z v.ownBlock):Fs a x z/\bZ z a s:=by
 have A:=b.size;simp at A;refine h.Z hs b.os b.tape b.output ak (λk B d=>?_);have m:some k≠v.ownBlock:=λe=>by
  have C:=(bj t k e.symm).1;rcases d with d|d
  omega;have J:=hs.e;have j:∃w f,y.heap[k]?=some (.cells w 3 f):=by
   rcases t.2 with⟨rfl,_⟩|⟨g,D,E,rfl,K,c,_⟩
   simp[Value.ownBlock]at e;simp[Value.ownBlock]at e;subst e;exact⟨_,_,c⟩
  let ⟨w,f,j⟩:=j
  have L:=hs.x;have M:=hs.W;have N:=hs.Z;have O:=hs.F;rcases d with q|q|q|q|q|⟨u,n,p⟩|⟨i,u,G,n,p⟩
  omega;omega;omega;omega;omega;let ⟨_,r,H,c⟩:=hs.V n p
  exact nU j c cn rfl;let ⟨_,r,H,c⟩:=hs.ac G n p
  exact nU j c cn rfl
 rw[b.block k fS m];exact ff y o k B
structure Aw(w wr:World)(a:Ad)(s:Sv)(now:Int)(hs:List Int)(hv:Value)(k:Nat)(v:Value)(s2:Sv)(l:List Int):Prop where
 i:bZ wr a s2
 o:Fs a w wr
 h:de wr w.heap.size v l
 b:de wr w.heap.size hv hs
 u:l.length<=k
 j:∀c,s2.iK c<=4611686018427387904+k
 p:(s.O now hs).1=(s2.O now (hs.drop k)).1
 t:(s.O now hs).2=l++(s2.O now (hs.drop k)).2
 e:∀g,v.ownBlock=some g->hv.ownBlock≠some g
def D3(now:Int)(h:bZ w a s)(f:o<8)(d:s.jw=true\/(s.waits o).length=0):
  Calls prog 195 #[tp a.S,iI o,iI now] w λe w'=>e=.returned (.slice none 0 0)/\w'=w:=by
 have c:=oK h;let ⟨v,g,i⟩:=h.b o f
 obtain⟨ao,cc,rfl,_,_⟩:=Net.cP i;have j:(0:Int)<=(o:Int):=ak;have k:(o:Int)<8:=ak;let ⟨b,l⟩:∃b,s.jw=b:=⟨_,rfl⟩
 rw[l]at c d;cases b with
 |true=>
  go_in;go_wp2_with (go_at_call 138;refine c.mono ?_;rintro e w'⟨rfl,rfl⟩)
  go_ret;exact⟨rfl,rfl⟩
 |false=>
  have m:= d.resolve_left aY;rw[m]at g;go_in;go_wp2_with (go_at_call 138;refine c.mono ?_;rintro e w'⟨rfl,rfl⟩)
  go_ret;exact⟨rfl,rfl⟩
def D4(now:Int)(h:bZ w a s)(ho:o<8)(hd0:s.jw=false)(hw0:(s.waits o).length≠0)(hses:∀c,s.iK c<=4611686018427387904){x:Sv×List Int}(hx:Hid (s.O now (jm s.D o now 4)=x)):
  Calls prog 195 #[tp a.S,iI o,iI now] w λe w'=>∃v,e=.returned v/\de w' w.heap.size v x.2/\bZ w' a x.1/\Fs a w w':=by
 have hd:=oK h;rw[hd0]at hd;let ⟨v,hv,hm⟩:=h.b o ho
 obtain⟨ao,cc,rfl,_,_⟩:=Net.cP hm;let ⟨n,hn⟩:∃n,(s.waits o).length=n+1:=⟨(s.waits o).length-1,ak⟩
 have hlen:=h.C o ho;rw[hn]at hv hlen;have hz0:(((n+1:Nat):Int)==0)=false:=fS;have ho0:(0:Int)<=(o:Int):=ak;have ho8:(o:Int)<8:=ak;have c47:=h.A;have hlt:=h.lt;have hl:=h.e;have hhol:=Lease.Rj o now h.p ⟨ak,ak⟩;have hmem:∀c∈jm s.D o now 4,∃n:Nat,n<4/\c=(n:Int):=λc hc=>LA hc;have hhl:(jm s.D o now 4).length<=4:=Lease.DP _ _ _ _;let ⟨hs,hhs⟩:∃hs,jm s.D o now 4=hs:=⟨_,rfl⟩
 rw[hhs]at hhol hmem hhl hx

 let ⟨i0,hi,hz0',hz1,hz2⟩:=dg Lease.FK
 go_in;go_wp2_with fail
 apply hd.mono;rintro e w'⟨rfl,rfl⟩;go_wp2_with fail
 apply hhol.mono;rintro e w1⟨vh,rfl,hH,hb1⟩

 have F1:=h.h hb1;have hF1:=Fs.H h hb1

 obtain⟨ah,ch,rfl,hcells⟩:=hH.e;go_wp2;go_loopw [7,30] (λv i wr=>∃(k:Nat) (s2:Sv) (l:List Int),k<=hs.length/\i = iI k/\Aw w' wr a s now hs (.slice ah hs.length ch) k v s2 l) (λ_ i _=>hs.length-(intOf i).toNat)
 case atStart=>exact⟨0,s,[],ak,rfl,F1,hF1,Lease.de.j,hH,aY,λc=>by have:=hses c;omega,rfl,rfl,by simp[Value.ownBlock]⟩
 case round=>
  obtain⟨k,s2,l,hk,rfl,A⟩:=hrel;by_cases hlt2:k<hs.length
  .obtain⟨g,rfl,_⟩:=hcells ak;let ⟨n,hn4,hn⟩:=hmem _ (bp hlt2)
   have hc:wr.cell? (aA g k)=some (iI n):=by
    have:=bC A.b k ak;rw[this,cU,aE hlt2,hn];rfl
   have hdr:hs.drop k=(n:Int)::hs.drop (k+1):=by rw[<-hn];exact TT hlt2
   have e1:=A.p;have e2:=A.t;rw[hdr,lp]at e1 e2;have d47:=A.i.A;have hle:=Lease.Rk now A.i.p hn4;have hkI:(k:Int)<(hs.length:Int):=ak;by_cases hle2:now<s2.oQ n
   .rw[aX hle2]at hle;rw[aH hle2]at e1;rw[aH hle2]at e2;obtain⟨av,cv,rfl,hcv⟩:=A.h.e;have HA:Hid (Aw w' wr a s now hs (.slice (some (aA g 0)) hs.length ch) k (.slice av l.length cv) s2 l):=A;have E1:Hid ((s.O now hs).1=(s2.O now (hs.drop (k+1))).1):=e1;have E2:Hid ((s.O now hs).2=l++(n:Int)::(s2.O now (hs.drop (k+1))).2):=e2;have hll:=A.u;have hwr:=A.o.b

    go_wp2_with fail
    apply hle.mono;rintro e w2⟨rfl,rfl⟩

    go_wp2_with (at_builtin;refine App.iC rfl rfl underlying26 hi hz0' hz1 hz2 rfl cn rfl (Lease.de.h HA.out.h) (FI w2 0) 1 1 [iI (n:Int)] rfl rfl (Lease.zT _) (Lease.Ce) ?c3 ?c4 ?c5 ?_)
    case c3=>unfold maxLen;omega
    case c4=>omega
    case c5=>simp;omega
    intro v' w3 hown' hgrow hat;have A:=HA.out;let ⟨hF3,F3⟩:=A.o.ag A.i A.h hlt hgrow
    have R:Aw w' w3 a s now hs (.slice (some (aA g 0)) hs.length ch) (k+1) v' s2 (l++[(n:Int)]):=by
     refine⟨F3,hF3,?_,?_,fS,λc=>by have:=A.j c;omega,E1.out,by rw[E2.out];simp,?_⟩;unfold Lease.de;rw[aL,dE];exact hown';refine aZ A.b λb hb=>?_;have hbl:=(bj A.b b hb).2;rw[hgrow.block b fS (λq=>A.e b q.symm hb)];exact ff w2 _ b hbl;intro b hb hb2;have hbl:=(bj A.b b hb2).2;rcases hat b hb with q|q
     exact A.e b q hb2;first|omega|(simp at q;omega)
    have HR:Hid (Aw w' w3 a s now hs (.slice (some (aA g 0)) hs.length ch) (k+1) v' s2 (l++[(n:Int)])):=R

    go_wp2;go_roundw
    case rel=>exact⟨k+1,s2,l++[(n:Int)],ak,by go_num,HR.out⟩
    case measure=>simp[intOf];omega
   .rw[aK hle2]at hle;rw[ay hle2]at e1;rw[ay hle2]at e2;have hfl:=Lease.Rh A.i.p hn4 (jd (A.j n));have HA:Hid (Aw w' wr a s now hs (.slice (some (aA g 0)) hs.length ch) k u7 s2 l):=A;have E1:Hid ((s.O now hs).1=((s2.ap n).O now (hs.drop (k+1))).1):=e1;have E2:Hid ((s.O now hs).2=l++((s2.ap n).O now (hs.drop (k+1))).2):=e2

    go_wp2_with fail
    apply hle.mono;rintro e w2⟨rfl,rfl⟩

    go_wp2_with fail
    apply hfl.mono;rintro e w3⟨rfl,hT3,hO3⟩

    have A:=HA.out;have R:Aw w' w3 a s now hs (.slice (some (aA g 0)) hs.length ch) (k+1) u7 (s2.ap n) l:=by
     have hlw:=A.o.b;have hk:∀b,w'.heap.size<=b->b<w2.heap.size->w3.heap[b]?=w2.heap[b]?:=λb h1 h2=>hO3.b b h2 fS;refine⟨A.i.an hT3 hO3,A.o.ob A.i hO3,HasI.ab A.h hk,HasI.ab A.b hk,by have:=A.u;omega,λc=>?_,E1.out,E2.out,A.e⟩;have h1:=A.j c;have h2:=A.j n;show ic s2.iK n (s2.iK n+1) c<=_;unfold Lease.ic;split<;>omega
    have HR:Hid (Aw w' w3 a s now hs (.slice (some (aA g 0)) hs.length ch) (k+1) u7 (s2.ap n) l):=R

    go_wp2;go_roundw
    case rel=>exact⟨k+1,s2.ap n,l,ak,by go_num,HR.out⟩
    case measure=>simp[intOf];omega
  .obtain rfl:k=hs.length:=ak;have e1:=A.p;have e2:=A.t;rw[mB (aj _),oI]at e1 e2;rw[ei]at e2;have hx1:Hid (x.1=s2):=hx.out▸e1;have hx2:Hid (x.2=l):=hx.out▸e2;have HA:Hid (de wr w'.heap.size u7 l/\bZ wr a s2/\Fs a w' wr):=⟨A.h,A.i,A.o⟩

   go_wp2;go_ret;rw[hx1.out,hx2.out];exact⟨_,rfl,HA.out⟩
def rE(now:Int)(h:bZ w a s)(f:o<8)(b:∀c,s.iK c<=4611686018427387904):
  Calls prog 195 #[tp a.S,iI o,iI now] w λe w'=>∃v,e=.returned v/\de w' w.heap.size v (s.e o now).2/\bZ w' a (s.e o now).1/\Fs a w w':=by
 unfold Sv.e;by_cases d:s.jw=true\/(s.waits o).length=0;rw[aH d];apply (D3 now h f d).mono;rintro e w'⟨rfl,rfl⟩;exact⟨_,rfl,Lease.de.j,h,Fs.j⟩;rw[ay d];exact D4 now h f (by cases g:s.jw with|false=>rfl|true=>exact absurd (.inl g) d) (λq=>d (.inr q)) b rfl
end Wld
end Go.Proofs.YtbebfliimjjohabGreatDoor
