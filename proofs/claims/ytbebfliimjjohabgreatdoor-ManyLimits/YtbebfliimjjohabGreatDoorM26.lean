/- Parts of the proof. -/
import Derived.Test.YtbebfliimjjohabGreatDoorM25
set_option maxRecDepth 100000
set_option maxHeartbeats 8000000
set_option linter.all false
open Go.Proofs.Tryz
namespace Go.Proofs.YtbebfliimjjohabGreatDoor
open Go.RowKit Go.Maps
open Lease (Ob gv gV de cP mx cL ji fV fg dA)
open Cache (tp bp bD)
open Wal (R dE bW Oq Fw cY)
open Num (M)
namespace Wld
variable{a:Ad}{down:Bool}{l:List M}{rs:List R}{m:M}{i b o k g p B:Nat}{A:Type}{x w y z w':A1}{f:Nat->A}
def bB{A:Type}(f:Nat->A)(i:Nat)(x:A):Nat->A:=λj=>if j=i then x else f j
def cy{x:A}:bB f i x i=x:=by simp[bB]
def cU{j:Nat}{x:A}(h:j≠i):bB f i x j=f j:=by simp[bB,h]
def cx.ap{s:Sv}(h:cx w a s)(o:Nat)(vs:List Bg):acY (w.setCells a.S o vs) a s:=by
 have c:=h.x;have d:=h.J;have i:=h.W;have j:=h.C;have e:∀k,k≠a.S->(w.setCells a.S o vs).heap[k]?=w.heap[k]?:=by
  intro k l;clear h c d i j;induction vs generalizing o w with
  |nil=>rfl
  |cons v r b=>rw[World.setCells,b,aX w (aA a.S o) v k l]
 have t:(w.setCells a.S o vs).heap.size=w.heap.size:=by
  clear h c d i j e;induction vs generalizing o w with
  |nil=>rfl
  |cons v r b=>rw[World.setCells,b];simp
 let ⟨u,f,m⟩:=h.y
 exact⟨WalIs.ac h.F (by omega) (e _ (by omega)) (λg n z q _=>e g (pr q m (by decide))),DiskIs.ac h.Z (e _ (by omega)),h.p.e (e _ (by omega)) (e _ (by omega)),by rw[e _ (by omega)];exact h.tt⟩
def wK{t:Bi}(vs:List Bg)(h:∃cs f,w.heap[b]?=some (.cells cs t f)):∃cs f,(w.setCells b o vs).heap[b]?=some (.cells cs t f):=by
 induction vs generalizing o w with
 |nil=>exact h
 |cons v r a=>rw[World.setCells];exact a (Wal.db h)
def wI{v:Bg}{vs:List Bg}(h:iy w (b+1) v l):iy (w.setCells b o vs) (b+1) v l:=by
 induction vs generalizing o w with
 |nil=>exact h
 |cons x r a=>rw[World.setCells];exact a h.e
def cx.a3{s:Sv}(h:cx w a s)(m:o<8)(d:Bh)(v:Int):cx (w.setCells a.S (7+o*2) [.string d,iI v]) a {s with vd:=bB s.vd o d,vv:=bB s.vv o v}:=by
 have g:=h.ap (7+o*2) [.string d,iI v];have f:∀i,(w.setCells a.S (7+o*2) [.string d,iI v]).frozen? (aA a.S i)=w.frozen? (aA a.S i):=λi=>i8 _ _ _ _ _;have e:∀i,(i<7+o*2\/7+o*2+2<=i)->(w.setCells a.S (7+o*2) [.string d,iI v]).cell? (aA a.S i)=w.cell? (aA a.S i):=λi c=>na a.S _ _ w (aA a.S i) (λ_ _=>by simpa using c);have n:(w.setCells a.S (7+o*2) [.string d,.int .i64 v]).cell? ⟨a.S,7+o*2,none⟩=some (.string d):=by
  simp only[World.setCells];rw[ak _ _ _ _ (by intro q;injection q with _ q;omega),ay _ _ _ (h.vd o m)]
 have p:cC (w.setCells a.S (7+o*2) [.string d,iI v]) (aA a.S (7+o*2+1)) (iI v):=by
  simp only[World.setCells];exact ay _ _ _ ((ak _ _ _ _ (by intro q;injection q with _ q;omega)).trans (h.vv o m))
 exact⟨(wK (o:=7+o*2) [.string d,iI v] h.y),λi=>by rw[f];exact h.o i,(e 0 (by omega)).trans h.c0,(e 1 (by omega)).trans h.c1,(e 2 (by omega)).trans h.c2,(e 3 (by omega)).trans h.c3,(e 4 (by omega)).trans h.c4,(e 5 (by omega)).trans h.c5,(e 6 (by omega)).trans h.c6,λi c=>by
  dsimp only;by_cases q:i=o;subst q;rw[cy];exact n;rw[cU q];exact(e _ (by omega)).trans (h.vd i c),λi c=>by
  dsimp only;by_cases q:i=o;subst q;rw[cy];exact p;rw[cU q];exact(e _ (by omega)).trans (h.vv i c),λi c j u k=>(e _ (by have:=(aT.1 k).1;rw[Wal.R.j]at this;omega)).trans (h.la i c j u k),(e 47 (by omega)).trans h.A,λi c=>(h.b i c).imp λv l=>⟨(e _ (by omega)).trans l.1,(λh=>wI h) l.2⟩,λi j u v c r z k l=>h.t i j u v c r z ((e _ (by omega)).symm.trans k) ((e _ (by omega)).symm.trans l),g.e,g.b,g.h,g.i,h.x,h.J,h.W,h.C,h.B⟩
def cx.aU{s:Sv}(h:cx w a s)(n:o<4)(r:R):cx (w.setCells a.S (23+o*6) r.h) a {s with last:=bB s.last o r}:=by
 have k:=h.ap (23+o*6) r.h;have f:∀i,(w.setCells a.S (23+o*6) r.h).frozen? (aA a.S i)=w.frozen? (aA a.S i):=λi=>i8 _ _ _ _ _;have e:∀i,(i<23+o*6\/23+o*6+6<=i)->(w.setCells a.S (23+o*6) r.h).cell? (aA a.S i)=w.cell? (aA a.S i):=λi d=>na a.S _ _ w (aA a.S i) (λ_ _=>by rw[Wal.R.j];exact d);have m:w.there a.S (23+o*6) 6:=λj g=>by
  obtain⟨u,c⟩:∃u,(s.last o).h[j]?=some u:=⟨_,aB (by rw[Wal.R.j];exact g)⟩;exact⟨by rw[h.la o n j u c];rfl,h.o _⟩
 exact⟨(wK (o:=23+o*6) r.h h.y),λi=>by rw[f];exact h.o i,(e 0 (by omega)).trans h.c0,(e 1 (by omega)).trans h.c1,(e 2 (by omega)).trans h.c2,(e 3 (by omega)).trans h.c3,(e 4 (by omega)).trans h.c4,(e 5 (by omega)).trans h.c5,(e 6 (by omega)).trans h.c6,λi d=>(e _ (by omega)).trans (h.vd i d),λi d=>(e _ (by omega)).trans (h.vv i d),λi d j u c=>by
  by_cases q:i=o;subst q;dsimp only at c;rw[cy]at c;exact(λj u c=>World.rangeAt_setCells_same _ _ _ _ (by rw[Wal.R.j];exact m) j u c) j u c;dsimp only at c;rw[cU q]at c;have g:=(aT.1 c).1;rw[Wal.R.j]at g;exact(e _ (by omega)).trans (h.la i d j u c),(e 47 (by omega)).trans h.A,λi d=>(h.b i d).imp λv l=>⟨(e _ (by omega)).trans l.1,(λh=>wI h) l.2⟩,λi j u v d g p c l=>h.t i j u v d g p ((e _ (by omega)).symm.trans c) ((e _ (by omega)).symm.trans l),k.e,k.b,k.h,k.i,h.x,h.J,h.W,h.C,h.B⟩
def fy(w:World)(a:Ad)(k:Nat):Prop:=k=a.q\/k=a.m\/k=a.S\/k=a.U\/k=a.T\/(∃v,w.cell? ⟨a.U,1,none⟩=some v/\v.ownBlock=some k)\/∃i v,i<8/\w.cell? ⟨a.S,48+i,none⟩=some v/\v.ownBlock=some k
structure Fs(a:Ad)(w w':World):Prop where
 A:w'.os=w.os
 u:w'.tape=w.tape
 p:w'.output=w.output
 b:w.heap.size<=w'.heap.size
 o:∀k,k<w.heap.size->¬fy w a k->w'.heap[k]?=w.heap[k]?
 h:∀k,k<w.heap.size->fy w' a k->fy w a k
 s:∀i,(i<3\/12405<=i)->w'.cell? ⟨a.q,i,none⟩=w.cell? ⟨a.q,i,none⟩
 x:∀i,w'.frozen? ⟨a.q,i,none⟩=w.frozen? ⟨a.q,i,none⟩
 y:∀t,(∃cs f,w.heap[a.q]?=some (.cells cs t f))->∃cs f,w'.heap[a.q]?=some (.cells cs t f)
def Fs.j:Fs a w w:=⟨rfl,rfl,rfl,aa _,λ_ _ _=>rfl,λ_ _ h=>h,λ_ _=>rfl,λ_=>rfl,λ_ h=>h⟩
def Fs.e(h:Fs a x y)(k:Fs a y z):Fs a x z:=
 ⟨k.A.trans h.A,k.u.trans h.u,k.p.trans h.p,aP h.b k.b,
  λi c d=>(k.o i (aO c h.b) (λf=>d (h.h i c f))).trans (h.o i c d),λi c f=>h.h i c (k.h i (aO c h.b) f),
  λi c=>(k.s i c).trans (h.s i c),λi=>(k.x i).trans (h.x i),λt g=>k.y t (h.y t g)⟩
def fI(e:w'.cell? (aA a.U 1)=w.cell? (aA a.U 1))(f:∀i,i<8->w'.cell? (aA a.S (48+i))=w.cell? (aA a.S (48+i)))(h:fy w' a k):fy w a k:=by
 rcases h with h|h|h|h|h|⟨v,b,c⟩|⟨i,v,d,b,c⟩
 exact .inl h;exact .inr (.inl h);exact .inr (.inr (.inl h));exact .inr (.inr (.inr (.inl h)));exact .inr (.inr (.inr (.inr (.inl h))));exact .inr (.inr (.inr (.inr (.inr (.inl ⟨v,e▸b,c⟩)))));exact .inr (.inr (.inr (.inr (.inr (.inr ⟨i,v,d,(f i d)▸b,c⟩)))))
def cx.e{s:Sv}(h:cx w a s):a.q<w.heap.size/\a.U<w.heap.size/\a.m<w.heap.size/\a.T<w.heap.size/\a.S<w.heap.size/\a.q≠a.S/\a.q≠a.T/\a.q≠a.m/\a.q≠a.U/\a.U≠a.S/\a.U≠a.T/\a.U≠a.m/\a.T≠a.S/\a.m≠a.S:=by
 have b:=h.x;have c:=h.J;have d:=h.W;have f:=h.C;have g:=h.lt;omega
def cx.V{s:Sv}(h:cx w a s){v:Bg}(d:cC w (aA a.U 1) v)(c:v.ownBlock=some g):a.U<g/\∃e f,w.heap[g]?=some (.cells e 138 f):=by
 obtain⟨n,b,i⟩:=h.F.p;rw[d]at b;injection b with b
 subst b;rcases i.2 with⟨rfl,_⟩|⟨o,j,k,rfl,l,m,_⟩
 simp[Value.ownBlock]at c;simp[Value.ownBlock]at c;subst c;exact⟨l,_,_,m⟩
def cx.ac{s:Sv}(h:cx w a s)(e:i<8){v:Bg}(j:cC w (aA a.S (48+i)) v)(d:v.ownBlock=some g):a.S<g/\∃k f,w.heap[g]?=some (.cells k 129 f):=by
 obtain⟨q,c,l⟩:=h.b i e;rw[j]at c;injection c with c
 subst c;rcases l.2 with⟨rfl,_⟩|⟨r,m,n,rfl,o,p,_⟩
 simp[Value.ownBlock]at d;simp[Value.ownBlock]at d;subst d;exact⟨o,_,_,p⟩
def cx.H{s:Sv}(h:cx w a s)(j:fy w a k):k<w.heap.size:=by
 have n:=h.e;rcases j with b|b|b|b|b|⟨v,c,d⟩|⟨i,v,l,c,d⟩
 omega;omega;omega;omega;omega;let ⟨_,m,f,g⟩:=h.V c d
 exact(am.1 g).1;let ⟨_,m,f,g⟩:=h.ac l c d
 exact(am.1 g).1
def Fs.H{s:Sv}(hs:cx x a s)(h:Below x.heap.size x y):Fs a x y:=by
 have b:=hs.e;exact⟨h.os,h.tape,h.output,h.size,λk c _=>h.block k c,λk _=>fI (aj (h.block a.U b.2.1)) (λi _=>aj (h.block a.S b.2.2.2.2.1)),
  λ_ _=>aj (h.block a.q b.1),λ_=>aJ (h.block a.q b.1),λ_ d=>by rw[h.block a.q b.1];exact d⟩
def Fs.V(h:Fs a x y):Fs a x y.drew:=⟨h.A,h.u,h.p,h.b,h.o,h.h,h.s,h.x,h.y⟩
def Fs.ab(h:Fs a x y){j:Nat}:Fs a x (y.drewN j):=⟨h.A,h.u,h.p,h.b,h.o,h.h,h.s,h.x,h.y⟩
def Fs.O{s:Sv}(h:Fs a x y)(hs:cx y a s)(o:Obj):Fs a x (y.alloc o):=h.e (Fs.H hs ((au _ _).alloc (aa _) o))
def Fs.I{s:Sv}(h:Fs a x y)(hs:cx y a s)(b:Below y.heap.size y z):Fs a x z:=h.e (Fs.H hs b)
def cx.O{w1:A1}{s:Sv}(h:cx w a s)(b:Below w.heap.size w w1)(d:w.heap.size<=k):¬fy w1 a k:=λf=>by
 have c:=h.e;have:=h.H (fI (aj (b.block a.U c.2.1)) (λi _=>aj (b.block a.S c.2.2.2.2.1)) f);omega
def Fs.ae(h:Fs a x y)(c:z.os=y.os)(d:z.tape=y.tape)(f:z.output=y.output)(g:y.heap.size<=z.heap.size)(b:z.heap[a.q]?=y.heap[a.q]?)(j:∀k,k<y.heap.size->¬fy y a k->z.heap[k]?=y.heap[k]?)(l:z.cell? (aA a.U 1)=y.cell? (aA a.U 1))(m:∀i,i<8->z.cell? (aA a.S (48+i))=y.cell? (aA a.S (48+i))):Fs a x z:=
 h.e ⟨c,d,f,g,j,λk _=>fI l m,λ_ _=>aj b,λ_=>aJ b,λt n=>by rw[b];exact n⟩
def Fs.ac{s:Sv}{v:Bg}(h:Fs a x y)(hs:cx y a s)(d:i<48\/56<=i):Fs a x (y.setCell (aA a.S i) v):=by
 have f:=hs.e;have e:∀k,k≠a.S->(y.setCell (aA a.S i) v).heap[k]?=y.heap[k]?:=λk b=>aX y (aA a.S i) v k b;exact h.ae rfl rfl rfl (by simp) (e _ (by omega)) (λk _ c=>e k (λq=>c (.inr (.inr (.inl q))))) (aj (e a.U (by omega))) (λj g=>ak _ _ _ _ (by intro q;injection q with _ q;omega))
def DV:∀(a:List Bg) (o:Nat) (w:A1),(w.setCells b o a).heap.size=w.heap.size/\(w.setCells b o a).os=w.os/\(w.setCells b o a).tape=w.tape/\(w.setCells b o a).output=w.output
 | [],_,_=>⟨rfl,rfl,rfl,rfl⟩
 |v::r,o,w=>by
  obtain⟨c,d,e,f⟩:=DV r (o+1) (w.setCell (aA b o) v);rw[World.setCells];exact⟨by rw[c];simp,d,e,f⟩
def Fs.af{s:Sv}(h:Fs a x y)(hs:cx y a s)(o:Nat)(vs:List Bg)(c:o+vs.length<=48):Fs a x (y.setCells a.S o vs):=by
 have d:=hs.e;have e:∀k,k≠a.S->(y.setCells a.S o vs).heap[k]?=y.heap[k]?:=by
  intro k f;clear c h hs d;induction vs generalizing o y with
  |nil=>rfl
  |cons v r g=>rw[World.setCells,g,aX y (aA a.S o) v k f]
 have b:(y.setCells a.S o vs).heap.size=y.heap.size/\(y.setCells a.S o vs).os=y.os/\(y.setCells a.S o vs).tape=y.tape/\(y.setCells a.S o vs).output=y.output:=DV vs o y;exact h.ae b.2.1 b.2.2.1 b.2.2.2 (by omega) (e _ (by omega)) (λk _ i=>e k (λq=>i (.inr (.inr (.inl q))))) (aj (e a.U (by omega))) (λj l=>na a.S _ _ y (aA a.S (48+j)) (λ_ _=>.inr (by dsimp only;omega)))
def Fs.ob{s:Sv}(h:Fs a x y)(hs:cx y a s)(c:Ob [a.T,a.m] y z):Fs a x z:=by
 have n:=hs.e;have e:∀k,k<y.heap.size->k≠a.T->k≠a.m->z.heap[k]?=y.heap[k]?:=λk d g l=>c.b k d (by simp[g,l]);exact h.ae c.s c.p c.o c.i (e _ (by omega) (by omega) (by omega)) (λk d f=>e k d (λq=>f (.inr (.inr (.inr (.inr (.inl q)))))) (λq=>f (.inr (.inl q)))) (aj (e a.U (by omega) (by omega) (by omega))) (λj r=>aj (e a.S (by omega) (by omega) (by omega)))
def Fs.fw{s:Sv}(h:Fs a x y)(hs:cx y a s)(c:Fw a.U a.q y z):Fs a x z:=by
 have l:=hs.e;let ⟨v,j,c,J,m,n⟩:=c
 have r:∀g,v.ownBlock=some g->a.U<g:=λg F=>(hs.V j F).1;let ⟨K,f,w⟩:=hs.y
 have G:=c.b a.S l.2.2.2.2.1 (by omega) (by omega) (λe=>by
  let ⟨_,H,L,I⟩:=hs.V j e
  exact pr w I (by decide) rfl)
 exact h.e ⟨c.A,c.s,c.o,c.h,λk E B=>c.b k E (λq=>B (.inr (.inr (.inr (.inl q))))) (λq=>B (.inl q)) (λq=>B (.inr (.inr (.inr (.inr (.inr (.inl ⟨v,j,q⟩))))))),λk E f=>by
   rcases f with f|f|f|f|f|⟨u,d,C⟩|⟨i,u,D,d,C⟩
   exact .inl f;exact .inr (.inl f);exact .inr (.inr (.inl f));exact .inr (.inr (.inr (.inl f)));exact .inr (.inr (.inr (.inr (.inl f))));exact .inr (.inr (.inr (.inr (.inr (.inl ⟨v,j,by
   rw[m]at d;injection d with d
   subst d;rcases n k C with q|q
   exact q;omega⟩)))))
   exact .inr (.inr (.inr (.inr (.inr (.inr ⟨i,u,D,(aj G).symm.trans d,C⟩))))),
  λi D=>c.p i l.1 hs.x r D,λi=>c.x i l.1 hs.x r,λt w=>c.y t hs.x r w⟩
def cx.ao{s:Sv}(h:cx w a s){d:Bool}{left:Int}(Q:dE w' a.U a.q rs down)(R:bW w' a.q rs d left)(r:Fw a.U a.q w w'):cx w' a {s with rs:=rs,dS:=down,dX:=d,da:=left}:=by
 have hl:=h.e;let ⟨O,f,F⟩:=h.tt
 let ⟨X,f',Y⟩:=h.y
 let ⟨v,n,r,_⟩:=r
 have G:∀k c t f,w.heap[k]?=some (.cells c t f)->t≠138->v.ownBlock≠some k:=λk c t f Z F e=>by
  let ⟨_,O,f,D⟩:=h.V n e
  exact pr Z D F rfl
 have H:=r.b a.S (by omega) (by omega) (by omega) (G _ _ _ _ Y (by decide));have P:=r.b a.T (by omega) (by omega) (by omega) (G _ _ _ _ F (by decide));have E:=r.b a.m (by omega) (by omega) (by omega) (λe=>by
  let ⟨es,I,k1,_⟩:=h.p.b
  let ⟨_,O,f,D⟩:=h.V n e
  rw[k1]at D;cases D)
 have z:∀i v,i<8->cC w (aA a.S (48+i)) v->iy w (a.S+1) v (s.waits i)->iy w' (a.S+1) v (s.waits i):=λi v _ _ E=>by
  have ad:=h.C;have aI:=h.x;have aS:=h.J;have a0:=h.W;refine⟨E.1,?_⟩;rcases E.2 with k|⟨g,K,L,e1,e2,M,e4⟩
  exact .inl k;exact .inr ⟨g,K,L,e1,e2,(r.b g (am.1 M).1 (by omega) (by omega) (G _ _ _ _ M (by decide))).trans M,e4⟩
 have e:∀i,w'.cell? (aA a.S i)=w.cell? (aA a.S i):=λi=>aj H;exact⟨by rw[H];exact h.y,λi=>(aJ (a:=(aA a.S i)) H).trans (h.o i),(e 0).trans h.c0,(e 1).trans h.c1,(e 2).trans h.c2,(e 3).trans h.c3,(e 4).trans h.c4,(e 5).trans h.c5,(e 6).trans h.c6,
  λi l=>(e _).trans (h.vd i l),λi l=>(e _).trans (h.vv i l),λi l j u N=>(e _).trans (h.la i l j u N),(e 47).trans h.A,
  λi l=>(h.b i l).imp λv n=>⟨(e _).trans n.1,z i v l n.1 n.2⟩,λi j u v l hj hn N n=>h.t i j u v l hj hn ((e _).symm.trans N) ((e _).symm.trans n),Q,R,h.p.e P E,by rw[P];exact h.tt,h.x,h.J,h.W,h.C,h.B⟩
def kS{n:Int}:Calls prog 184 #[iI n] w λe w'=>e=.returned (.bool (fg n))/\w'=w:=by
 unfold fg;by_cases h0:0<=n
 .by_cases a:n<8
  .rw[Num.fX h0 (by omega)];go_enter func184,ntmps184;go_wp2;go_ret;exact⟨rfl,rfl⟩
  .rw[Num.kM (by omega)];have b:= aK a;go_enter func184,ntmps184;go_wp2;go_ret;exact⟨rfl,rfl⟩
 .rw[Num.kN (by omega)];have b:= aK h0;go_enter func184,ntmps184;go_wp2;go_ret;exact⟨rfl,rfl⟩
def bx(id:Int):Nat:=(id%4).toNat
def mJ(id:Int):bx id<4:=by unfold bx;omega
def I8(id:Int):((bx id:Nat):Int)=id%4:=by unfold bx;omega
def oz{id:Int}(w:A1)(h0:0<=id):Calls prog 137 #[iI id] w λe w'=>e=.returned (iI (bx id:Nat))/\w'=w:=by
 have e:id.tmod 4=((bx id:Nat):Int):=by rw[I8,Rl h0]
 have a:=mJ id;generalize bx id=b at *;go_enter func137,ntmps137;go_wp2;go_ret;exact⟨by first|rfl|(simp[e];done)|(rw[e];rfl),rfl⟩
def j0(c n:Int)(r:R):Bool:=decide (r.c<c)||(decide (c=r.c)&&decide (r.n<n))
def DQ(c n:Int)(r:R)(w:A1):Calls prog 217 #[iI c,iI n,r.H] w λe w'=>e=.returned (.bool (j0 c n r))/\Below w.heap.size w w':=by
 unfold j0 Wal.R.H;by_cases d:r.c<c
 .have b:= aR d;rw[b];go_enter func217,ntmps217;go_wp2;go_ret;exact⟨rfl,(au _ _).alloc (aa _) _⟩
 .have b:= aK d;rw[b];by_cases a:c=r.c
  .have f:(c==r.c)=true:=by simpa using a
   rw[aR a];go_enter func217,ntmps217;go_wp2;go_ret;exact⟨rfl,(au _ _).alloc (aa _) _⟩
  .have f:(c==r.c)=false:=by simpa using a
   rw[aK a];go_enter func217,ntmps217;go_wp2;go_ret;exact⟨rfl,(au _ _).alloc (aa _) _⟩
def pZ{s:Sv}(h:cx w a s):Calls prog 138 #[tp a.S] w λe w'=>e=.returned (.bool s.dS)/\w'=w:=by
 have c3:=h.c3;go_enter func138,ntmps138;go_wp2_with (go_at_call 194;refine(Wal.TW h.F).mono ?_;rintro e w'⟨rfl,rfl⟩)
 go_ret;exact⟨rfl,rfl⟩
def Sv.ao(s:Sv)(a:Int)(m:M):M:=⟨a,m.c,m.n,s.bO,s.iu (bx m.c:Nat),0,0,false,⟨#[]⟩⟩
def uM{s:Sv}(b:Int)(m:M)(h:cx w a s)(hc:0<=m.c):Calls prog 223 #[tp a.S,iI b,Wire.M.ab m] w λe w'=>e=.returned (Wire.M.ab (s.ao b m))/\Below w.heap.size w w':=by
 let ⟨mk,i,r,B,C,D,E,F,G⟩:=m
 dsimp only at hc;have l:=h.lt;have t:=λw=>(oz w hc).mono (R':=λe w'=>e=.returned (iI (bx i:Nat))/\∃n,w'=w.drewN n) (λe w' h=>⟨h.1,0,h.2⟩);have u:∀f g j,cx (((w.alloc f).alloc g).drewN j) a s:=λf g j=>((h.j f).j g).ab (j:=j);have x:=λf g j=>(Lease.aaQ (u f g j).p (mJ i)).mono (R':=λe w'=>e=.returned (.tuple #[iI (s.iu (bx i:Nat)),.nilIface])/\∃n,w'=(((w.alloc f).alloc g).drewN j).drewN n) (λe w' h=>⟨h.1,0,h.2⟩);have y:=h.A;have c5:=h.c5;have o:a.S≠w.heap.size:=by omega
 have k:a.S≠w.heap.size+1:=by omega
 unfold Sv.ao Wire.M.ab

 go_enter func223,ntmps223;go_wp2_with fail
 go_quiet (first|(go_at_call 137;refine Calls.quiet_of (t _))|(go_at_call 254;refine Calls.quiet_of (x _ _ _)));go_wp2_with fail
 have q:w.heap.size=(w.drewN nq).heap.size:=rfl;have d:Below w.heap.size w (w.drewN nq):=⟨rfl,rfl,rfl,aa _,λ_ _=>rfl⟩;have z:cC (w.drewN nq) (aA a.S 5) (iI s.bO):=c5;change Code.wp _ _ _ _ (((w.drewN nq).alloc _).alloc _);rw[q]at o k l⊢;rw[q]at d

 generalize w.drewN nq=H at *;go_region;all_goals go_wp2_with fail
 all_goals exact bz (v:=.agg #[iI b,iI i,iI r,iI s.bO,iI (s.iu (bx i:Nat)),iI 0,iI 0,.bool false,.string ⟨#[]⟩]) (by simp[results,results223,go_sem]) rfl ⟨rfl,(((d.alloc (aa _) _).alloc (by simp) _).drew).mono d.size⟩
def MB.ab(m:M)(g:∀j,j<9->(w.cell? (aA p j)).isSome=true):MB (w.setCells p 0 (f8 m)) p m:=by
 have h:∀j u,(f8 m)[j]?=some u->(w.setCells p 0 (f8 m)).cell? ⟨p,j,none⟩=some u:=λj u b=>by
  obtain⟨l,c⟩:=aV.1 (g 0 (by omega));obtain⟨n,d⟩:=aV.1 (g 1 (by omega));obtain⟨o,e⟩:=aV.1 (g 2 (by omega));obtain⟨q,r3⟩:=aV.1 (g 3 (by omega));obtain⟨r,r4⟩:=aV.1 (g 4 (by omega));obtain⟨s,r5⟩:=aV.1 (g 5 (by omega));obtain⟨t,f⟩:=aV.1 (g 6 (by omega));obtain⟨v,i⟩:=aV.1 (g 7 (by omega));obtain⟨x,k⟩:=aV.1 (g 8 (by omega));have a:=(aT.1 b).1;rw[fP]at a;rw[<-b,aB (by rw[fP];exact a)];exact Wire.tF _ _ _ _ _ _ _ _ _ c d e r3 r4 r5 f i k j a
 exact⟨h 0 _ rfl,h 1 _ rfl,h 2 _ rfl,h 3 _ rfl,h 4 _ rfl,h 5 _ rfl,h 6 _ rfl,h 7 _ rfl,h 8 _ rfl⟩
def MB.I(h:MB w p m)(a:p<w.heap.size)(o:Obj):MB (w.alloc o) p m:=by
 have e:∀j,(w.alloc o).cell? (aA p j)=w.cell? (aA p j):=λj=>aH w o (aA p j) a;exact⟨(e _).trans h.y,(e _).trans h.i,(e _).trans h.u,(e _).trans h.j,(e _).trans h.p,(e _).trans h.h,(e _).trans h.t,(e _).trans h.x,(e _).trans h.A⟩
def MB.e{C:Nat}(h:MB w p m)(a:Below C w w')(b:p<C):MB w' p m:=by
 have e:∀j,w'.cell? (aA p j)=w.cell? (aA p j):=λj=>a.cell (p:=(aA p j)) b;exact⟨(e _).trans h.y,(e _).trans h.i,(e _).trans h.u,(e _).trans h.j,(e _).trans h.p,(e _).trans h.h,(e _).trans h.t,(e _).trans h.x,(e _).trans h.A⟩
def MB.Z(h:MB w p m)(j:Nat)(a:j<9):(w.cell? (aA p j)).isSome=true:=by
 match j,a with
 |0,_=>rw[h.y];rfl
 |1,_=>rw[h.i];rfl
 |2,_=>rw[h.u];rfl
 |3,_=>rw[h.j];rfl
 |4,_=>rw[h.p];rfl
 |5,_=>rw[h.h];rfl
 |6,_=>rw[h.t];rfl
 |7,_=>rw[h.x];rfl
 |8,_=>rw[h.A];rfl
def Vu:∀(a:List Bg) (o:Nat) (w:A1),(w.setCells p o a).heap.size=w.heap.size
 | [],_,_=>rfl
 |v::r,o,w=>by rw[World.setCells,Vu r (o+1)];simp
def Bl{a:A1}(b:B<=p):∀(c:List Bg) (o:Nat) (w:A1),Below B a w->Below B a (w.setCells p o c)
 | [],_,_,h=>h
 |v::r,o,w,h=>by rw[World.setCells];exact Bl b r (o+1) _ (h.setCell (p:=(aA p o)) b v)
def Sv.aU(s:Sv)(m:M)(v:Int):M:=⟨6,m.c,m.n,s.bO,s.iu (bx m.c:Nat),m.o,v,false,⟨#[]⟩⟩
def Sv.af(s:Sv)(a:Int)(o:Nat):M:=⟨9,a,0,s.bO,0,o,s.vv o+1,false,⟨#[]⟩⟩
def DO(a:Ad){s:Sv}(b:Int)(o:Nat)(w:A1)(h:cx w a s)(c:o<8)(h0:0<=s.vv o)(j:s.vv o<=4611686018427387904):Calls prog 226 #[tp a.S,iI b,iI o] w λe w'=>e=.returned (Wire.M.ab (s.af b o))/\Below w.heap.size w w':=by
 have d:=h.lt;have c5:=h.c5;have k:=h.vv o c;have f:a.S≠w.heap.size:=by omega
 have g:(0:Int)<=(o:Int):=by omega
 have i:(o:Int)<8:=by omega
 unfold Sv.af Wire.M.ab

 go_enter func226,ntmps226;go_wp2_with fail
 go_region;all_goals go_wp2_with fail
 all_goals exact bz (v:=.agg #[iI 9,iI b,iI 0,iI s.bO,iI 0,iI o,iI (s.vv o+1),.bool false,.string ⟨#[]⟩]) (by simp[results,results226,go_sem]) rfl ⟨rfl,((au _ _).alloc (aa _) _).drew⟩
def Iw{s:Sv}(m:M)(v:Int)(h:cx w a s)(hc:0<=m.c):Calls prog 198 #[tp a.S,Wire.M.ab m,iI v] w λe w'=>e=.returned (Wire.M.ab (s.aU m v))/\Below w.heap.size w w':=by
 let ⟨mk,b,d,g,k,f,l,n,q⟩:=m
 have N:MB ((dW w mk b d g k f l n q).alloc (.cells #[iI 0,iI 0,iI 0,iI 0,iI 0,iI 0,iI 0,.bool false,.string ⟨#[]⟩] 129)) w.heap.size ⟨mk,b,d,g,k,f,l,n,q⟩:=(ie w).I (by simp) _;have O:MB ((dW w mk b d g k f l n q).alloc (.cells #[iI 0,iI 0,iI 0,iI 0,iI 0,iI 0,iI 0,.bool false,.string ⟨#[]⟩] 129)) (w.heap.size+1) ⟨0,0,0,0,0,0,0,false,⟨#[]⟩⟩:=by
  have:=ie (dW w mk b d g k f l n q) (mk:=0) (mc:=0) (mn:=0) (me:=0) (ms:=0) (mo:=0) (mv:=0) (ml:=false) (md:=⟨#[]⟩);rw[show (dW w mk b d g k f l n q).heap.size=w.heap.size+1 by simp]at this;exact this
 have E:∀i,((dW w mk b d g k f l n q).alloc (.cells #[iI 0,iI 0,iI 0,iI 0,iI 0,iI 0,iI 0,.bool false,.string ⟨#[]⟩] 129)).frozen? (aA (w.heap.size+1) i)=false:=λi=>by simp
 have P:((dW w mk b d g k f l n q).alloc (.cells #[iI 0,iI 0,iI 0,iI 0,iI 0,iI 0,iI 0,.bool false,.string ⟨#[]⟩] 129)).heap.size=w.heap.size+2:=by simp
 have G:Below w.heap.size w ((dW w mk b d g k f l n q).alloc (.cells #[iI 0,iI 0,iI 0,iI 0,iI 0,iI 0,iI 0,.bool false,.string ⟨#[]⟩] 129)):=((au _ _).alloc (aa _) _).alloc (by simp) _;have F:cx ((dW w mk b d g k f l n q).alloc (.cells #[iI 0,iI 0,iI 0,iI 0,iI 0,iI 0,iI 0,.bool false,.string ⟨#[]⟩] 129)) a s:=(h.j _).j _;unfold dW at *;unfold Sv.aU Wire.M.ab;dsimp only at hc⊢

 go_enter func198,ntmps198;go_wp2_with fail
 generalize (w.alloc (.cells #[iI mk,iI b,iI d,iI g,iI k,iI f,iI l,.bool n,.string q] 129)).alloc (.cells #[iI 0,iI 0,iI 0,iI 0,iI 0,iI 0,iI 0,.bool false,.string ⟨#[]⟩] 129)=w1 at *;apply (uM 6 ⟨mk,b,d,g,k,f,l,n,q⟩ F hc).mono;rintro e w2⟨rfl,z⟩;have H:=N.e z (by omega);have B:=O.e z (by omega);have Q:=λi=>(z.frozen (p:=(aA (w.heap.size+1) i)) (by dsimp only;omega)).trans (E i);have R:=z.size;have b5:=H.h;have ⟨U,V,X,Y,z4,z5,z6,z7,z8⟩:=B








 have C:w.heap.size+1<w2.heap.size:=by omega
 have L:w.heap.size<w2.heap.size:=by omega
 have J:=G.trans (z.mono (by omega));unfold Sv.ao Wire.M.ab;dsimp only at b5⊢

 go_wp2_with fail
 have T:=MB.ab ⟨6,b,d,s.bO,s.iu (bx b:Nat),f,v,false,⟨#[]⟩⟩ (B.Z);have D:(w2.setCells (w.heap.size+1) 0 (f8 ⟨6,b,d,s.bO,s.iu (bx b:Nat),f,v,false,⟨#[]⟩⟩)).heap.size=w2.heap.size:=Vu _ _ _;have K:Below w.heap.size w (w2.setCells (w.heap.size+1) 0 (f8 ⟨6,b,d,s.bO,s.iu (bx b:Nat),f,v,false,⟨#[]⟩⟩)):=Bl (by omega) _ _ _ J;change bodyPost _ _ _ _ _ ((w2.setCells (w.heap.size+1) 0 (f8 ⟨6,b,d,s.bO,s.iu (bx b:Nat),f,v,false,⟨#[]⟩⟩)).alloc _);have r:=λo=>T.I (by rw[D];exact C) o;generalize w2.setCells (w.heap.size+1) 0 (f8 ⟨6,b,d,s.bO,s.iu (bx b:Nat),f,v,false,⟨#[]⟩⟩)=W at *;exact bz (v:=.agg #[iI 6,iI b,iI d,iI s.bO,iI (s.iu (bx b:Nat)),iI f,iI v,.bool false,.string ⟨#[]⟩]) (by simp[results,results198,go_sem,(λo=>(r o).y),(λo=>(r o).i),(λo=>(r o).u),(λo=>(r o).j),(λo=>(r o).p),(λo=>(r o).h),(λo=>(r o).t),(λo=>(r o).x),(λo=>(r o).A)]) rfl ⟨rfl,(λo=>K.alloc (by rw[D];omega) o) _⟩
def MB.H(h:MB w b m)(c:Fs a w w')(d:b<w.heap.size)(f:¬fy w a b):MB w' b m:=by
 have e:∀j,w'.cell? (aA b j)=w.cell? (aA b j):=λj=>aj (c.o b d f);exact⟨(e _).trans h.y,(e _).trans h.i,(e _).trans h.u,(e _).trans h.j,(e _).trans h.p,(e _).trans h.h,(e _).trans h.t,(e _).trans h.x,(e _).trans h.A⟩
def Sv.ap(s:Sv)(c:Int):Sv:={s with D:=fV s.D c 8,mR:=gV s.mR c 0,iu:=gV s.iu c (s.iu c+1)}
def Sv.Z(s:Sv)(now:Int):List Int->Sv×List Int
 | []=>(s,[])
 |c::a=>if now<s.mR c then ((s.Z now a).1,c::(s.Z now a).2) else (s.ap c).Z now a
theorem pW(s:Sv)(now:Int):s.Z now []=(s,[]):=rfl
theorem kG(s:Sv)(now c:Int)(cs:List Int):s.Z now (c::cs)=if now<s.mR c then ((s.Z now cs).1,c::(s.Z now cs).2) else (s.ap c).Z now cs:=rfl
def Sv.e(s:Sv)(o:Nat)(now:Int):Sv×List Int:=if s.dS=true\/(s.waits o).length=0 then (s,[]) else s.Z now (ji s.D o now 4)
variable{s:Sv}
def Fv{D:Lease.ka}{o now:Int}{c:Int}(h:c∈ji D o now k):∃n:Nat,n<k/\c=(n:Int):=by
 unfold Lease.ji at h;obtain⟨n,a,rfl⟩:=dY.1 h;exact⟨n,by have:=lh.1 (gR.1 a).1;omega,rfl⟩
def HasI.ab{v:Bg}{l:List Int}(h:dA w B v l)(b:∀g,B<=g->g<w.heap.size->w'.heap[g]?=w.heap[g]?):dA w' B v l:=bp h λg a=>b g (bv h g a).1 (bv h g a).2
def WalIs.ab{u q:Nat}(h:dE w u q rs down)(hs:w.heap.size<=w'.heap.size)(b:w'.heap[u]?=w.heap[u]?)(l:∀v g,cC w (aA u 1) v->v.ownBlock=some g->w'.heap[g]?=w.heap[g]?):dE w' u q rs down:=by
 obtain⟨m,⟨v,j,c,d⟩,n,o,x,p⟩:=h;refine⟨(aj (a:=(aA u 0)) b).trans m,⟨v,(aj (a:=(aA u 1)) b).trans j,c,?_⟩,(aj (a:=(aA u 2)) b).trans n,λi=>(aJ (a:=(aA u i)) b).trans (o i),by omega,by rw[b];exact p⟩;rcases d with h|⟨g,e,f,k,r,s,t⟩
 exact .inl h;exact .inr ⟨g,e,f,k,r,(l v g j (by rw[k];rfl)).trans s,t⟩
def Fs.Z(h:Fs a x y)(hs:cx y a s)(E:z.os=y.os)(G:z.tape=y.tape)(I:z.output=y.output)(J:y.heap.size<=z.heap.size)(c:∀k,k<y.heap.size->(k<x.heap.size\/fy y a k)->z.heap[k]?=y.heap[k]?):Fs a x z/\cx z a s:=by
 have d:=hs.e;have n:=c a.q d.1 (.inr (.inl rfl));have B:=c a.U d.2.1 (.inr (.inr (.inr (.inr (.inl rfl)))));have C:=c a.S d.2.2.2.2.1 (.inr (.inr (.inr (.inl rfl))));have D:=c a.T d.2.2.2.1 (.inr (.inr (.inr (.inr (.inr (.inl rfl))))));have K:=h.b;refine⟨⟨E.trans h.A,G.trans h.u,I.trans h.p,by omega,λk r L=>(c k (by omega) (.inl r)).trans (h.o k r L),λk r f=>h.h k r (fI (aj B) (λi _=>aj C) f),
  λi w=>(aj n).trans (h.s i w),λi=>(aJ n).trans (h.x i),λt M=>by rw[n];exact h.y t M⟩,?_⟩
 exact hs.ah C (WalIs.ab hs.F J B (λv g j l=>c g (hs.H (.inr (.inr (.inr (.inr (.inr (.inl ⟨v,j,l⟩))))))) (.inr (.inr (.inr (.inr (.inr (.inr (.inl ⟨v,j,l⟩))))))))) (DiskIs.ac hs.Z n) (hs.p.e D (c a.m d.2.2.1 (.inr (.inr (.inl rfl))))) (by rw[D];exact hs.tt)
  (λi v w j N=>bp N λg l=>c g (hs.H (.inr (.inr (.inr (.inr (.inr (.inr ⟨i,v,w,j,l⟩))))))) (.inr (.inr (.inr (.inr (.inr (.inr (.inr ⟨i,v,w,j,l⟩))))))))
def Fs.ag{o:Obj}{v:Bg}{l:List Int}(h:Fs a x y)(hs:cx y a s)(t:dA y x.heap.size v l)(I:a.S<x.heap.size)(b:(y.alloc o).grownBy z v.ownBlock):Fs a x z/\cx z a s:=by
 have A:=b.size;simp at A;refine h.Z hs b.os b.tape b.output (by omega) (λk B d=>?_);have m:some k≠v.ownBlock:=λe=>by
  have D:=(bv t k e.symm).1;rcases d with d|d
  omega;have K:=hs.e;have j:∃w f,y.heap[k]?=some (.cells w 3 f):=by
   rcases t.2 with⟨rfl,_⟩|⟨g,E,F,rfl,L,c,_⟩
   simp[Value.ownBlock]at e;simp[Value.ownBlock]at e;subst e;exact⟨_,_,c⟩
  let ⟨w,f,j⟩:=j
  have M:=hs.x;have N:=hs.J;have O:=hs.W;have P:=hs.C;rcases d with q|q|q|q|q|⟨u,n,p⟩|⟨i,u,G,n,p⟩
  omega;omega;omega;omega;omega;let ⟨_,r,H,c⟩:=hs.V n p
  exact pr j c (by decide) rfl;let ⟨_,r,H,c⟩:=hs.ac G n p
  exact pr j c (by decide) rfl
 rw[b.block k (by simp;omega) m];exact fJ y o k B
structure Aw(w wr:World)(a:Ad)(s:Sv)(now:Int)(hs:List Int)(hv:Value)(k:Nat)(v:Value)(s2:Sv)(l:List Int):Prop where
 i:cx wr a s2
 o:Fs a w wr
 h:dA wr w.heap.size v l
 b:dA wr w.heap.size hv hs
 u:l.length<=k
 j:∀c,s2.iu c<=4611686018427387904+k
 p:(s.Z now hs).1=(s2.Z now (hs.drop k)).1
 t:(s.Z now hs).2=l++(s2.Z now (hs.drop k)).2
 e:∀g,v.ownBlock=some g->hv.ownBlock≠some g
def Fi(now:Int)(h:cx w a s)(d:o<8)(c:s.dS=true\/(s.waits o).length=0):
  Calls prog 195 #[tp a.S,iI o,iI now] w λe w'=>e=.returned (.slice none 0 0)/\w'=w:=by
 have hd:=pZ h;let ⟨v,f,g⟩:=h.b o d
 obtain⟨ao,m,rfl,_,_⟩:=Net.cZ g;have i:(0:Int)<=(o:Int):=by omega
 have j:(o:Int)<8:=by omega
 let ⟨b,k⟩:∃b,s.dS=b:=⟨_,rfl⟩
 rw[k]at hd c;cases b with
 |true=>
  go_enter func195,ntmps195;go_wp2_with (go_at_call 138;refine hd.mono ?_;rintro e w'⟨rfl,rfl⟩)
  go_ret;exact⟨rfl,rfl⟩
 |false=>
  have l:= c.resolve_left (by simp);rw[l]at f;go_enter func195,ntmps195;go_wp2_with (go_at_call 138;refine hd.mono ?_;rintro e w'⟨rfl,rfl⟩)
  go_ret;exact⟨rfl,rfl⟩
theorem Fj{a:Ad}{s:Sv}{o:Nat}(now:Int){w:World}(h:cx w a s)(ho:o<8)(hd0:s.dS=false)(hw0:(s.waits o).length≠0)(hses:∀c,s.iu c<=4611686018427387904){x:Sv×List Int}(hx:Hid (s.Z now (ji s.D o now 4)=x)):
  Calls prog 195 #[tp a.S,iI o,iI now] w λe w'=>∃v,e=.returned v/\dA w' w.heap.size v x.2/\cx w' a x.1/\Fs a w w':=by
 have hd:=pZ h
 rw[hd0]at hd
 let ⟨v,hv,hm⟩:=h.b o ho
 obtain⟨ao,cc,rfl,_,_⟩:=Net.cZ hm
 let ⟨n,hn⟩:∃n,(s.waits o).length=n+1:=⟨(s.waits o).length-1,by omega⟩
 have hlen:=h.B o ho
 rw[hn]at hv hlen
 have hz0:(((n+1:Nat):Int)==0)=false:=by simp;omega
 have ho0:(0:Int)<=(o:Int):=by omega
 have ho8:(o:Int)<8:=by omega
 have c47:=h.A
 have hlt:=h.lt
 have hl:=h.e
 have hhol:=Lease.Ts o now h.p ⟨by omega,by omega⟩
 have hmem:∀c∈ji s.D o now 4,∃n:Nat,n<4/\c=(n:Int):=λc hc=>Fv hc
 have hhl:(ji s.D o now 4).length<=4:=Lease.EZ _ _ _ _
 let ⟨hs,hhs⟩:∃hs,ji s.D o now 4=hs:=⟨_,rfl⟩
 rw[hhs]at hhol hmem hhl hx

 let ⟨i0,hi,hz0',hz1,hz2⟩:=dw Lease.Hd
 go_enter func195,ntmps195
 go_wp2_with fail
 apply hd.mono
 rintro e w'⟨rfl,rfl⟩
 go_wp2_with fail
 apply hhol.mono
 rintro e w1⟨vh,rfl,hH,hb1⟩

 have F1:=h.h hb1
 have hF1:=Fs.H h hb1

 obtain⟨ah,ch,rfl,hcells⟩:=hH.e
 go_wp2_with fail
 go_loopw [7,30] (λv i wr=>∃(k:Nat) (s2:Sv) (l:List Int),k<=hs.length/\i=.int .i64 k/\Aw w' wr a s now hs (.slice ah hs.length ch) k v s2 l) (λ_ i _=>hs.length-(intOf i).toNat)
 case atStart=>exact⟨0,s,[],by omega,rfl,F1,hF1,Lease.dA.j,hH,by simp,λc=>by have:=hses c;omega,rfl,rfl,by simp[Value.ownBlock]⟩
 case round=>
  obtain⟨k,s2,l,hk,rfl,A⟩:=hrel
  by_cases hlt2:k<hs.length
  .obtain⟨g,rfl,_⟩:=hcells (by omega)
   let ⟨n,hn4,hn⟩:=hmem _ (bA hlt2)
   have hc:wr.cell? ⟨g,k,none⟩=some (.int .i64 n):=by
    have:=bJ A.b k (by omega)
    rw[this,di,aB hlt2,hn]
    rfl
   have hdr:hs.drop k=(n:Int)::hs.drop (k+1):=by rw[<-hn];exact VG hlt2
   have e1:=A.p
   have e2:=A.t
   rw[hdr,kG]at e1 e2
   have d47:=A.i.A
   have hle:=Lease.Tt now A.i.p hn4
   have hkI:(k:Int)<(hs.length:Int):=by omega
   by_cases hle2:now<s2.mR n
   .rw[aR hle2]at hle
    rw[az hle2]at e1
    rw[az hle2]at e2
    obtain⟨av,cv,rfl,hcv⟩:=A.h.e
    have HA:Hid (Aw w' wr a s now hs (.slice (some ⟨g,0,none⟩) hs.length ch) k (.slice av l.length cv) s2 l):=A
    have E1:Hid ((s.Z now hs).1=(s2.Z now (hs.drop (k+1))).1):=e1
    have E2:Hid ((s.Z now hs).2=l++(n:Int)::(s2.Z now (hs.drop (k+1))).2):=e2
    have hll:=A.u
    have hwr:=A.o.b

    go_wp2_with fail
    apply hle.mono
    rintro e w2⟨rfl,rfl⟩

    go_wp2_with (at_builtin;refine App.je rfl rfl underlying26 hi hz0' hz1 hz2 rfl (by decide) rfl (Lease.dA.h HA.out.h) ⟨w2.heap.size,0,none⟩ 1 1 [.int .i64 (n:Int)] rfl rfl (Lease.A3 _) (Lease.Dd) ?c3 ?c4 ?c5 ?_)
    case c3=>unfold maxLen;omega
    case c4=>omega
    case c5=>simp;omega
    intro v' w3 hown' hgrow hat
    have A:=HA.out
    let ⟨hF3,F3⟩:=A.o.ag A.i A.h hlt hgrow
    have R:Aw w' w3 a s now hs (.slice (some ⟨g,0,none⟩) hs.length ch) (k+1) v' s2 (l++[(n:Int)]):=by
     refine⟨F3,hF3,?_,?_,by simp;omega,λc=>by have:=A.j c;omega,E1.out,by rw[E2.out];simp,?_⟩
     .unfold Lease.dA
      rw[aM,dQ]
      exact hown'
     .refine bp A.b λb hb=>?_
      have hbl:=(bv A.b b hb).2
      rw[hgrow.block b (by simp;omega) (λq=>A.e b q.symm hb)]
      exact fJ w2 _ b hbl
     .intro b hb hb2
      have hbl:=(bv A.b b hb2).2
      rcases hat b hb with q|q
      .exact A.e b q hb2
      .first|omega|(simp at q;omega)
    have HR:Hid (Aw w' w3 a s now hs (.slice (some ⟨g,0,none⟩) hs.length ch) (k+1) v' s2 (l++[(n:Int)])):=R

    go_wp2_with fail
    go_roundw
    case rel=>exact⟨k+1,s2,l++[(n:Int)],by omega,by go_num,HR.out⟩
    case measure=>simp[intOf];omega
   .rw[aK hle2]at hle
    rw[ax hle2]at e1
    rw[ax hle2]at e2
    have hfl:=Lease.Tp A.i.p hn4 (by have:=A.j n;omega)
    have HA:Hid (Aw w' wr a s now hs (.slice (some ⟨g,0,none⟩) hs.length ch) k u7 s2 l):=A
    have E1:Hid ((s.Z now hs).1=((s2.ap n).Z now (hs.drop (k+1))).1):=e1
    have E2:Hid ((s.Z now hs).2=l++((s2.ap n).Z now (hs.drop (k+1))).2):=e2

    go_wp2_with fail
    apply hle.mono
    rintro e w2⟨rfl,rfl⟩

    go_wp2_with fail
    apply hfl.mono
    rintro e w3⟨rfl,hT3,hO3⟩

    have A:=HA.out
    have R:Aw w' w3 a s now hs (.slice (some ⟨g,0,none⟩) hs.length ch) (k+1) u7 (s2.ap n) l:=by
     have hlw:=A.o.b
     have hk:∀b,w'.heap.size<=b->b<w2.heap.size->w3.heap[b]?=w2.heap[b]?:=λb h1 h2=>hO3.b b h2 (by simp;omega)
     refine⟨A.i.an hT3 hO3,A.o.ob A.i hO3,HasI.ab A.h hk,HasI.ab A.b hk,by have:=A.u;omega,λc=>?_,E1.out,E2.out,A.e⟩
     have h1:=A.j c
     have h2:=A.j n
     show gV s2.iu n (s2.iu n+1) c<=_
     unfold Lease.gV
     split<;>omega
    have HR:Hid (Aw w' w3 a s now hs (.slice (some ⟨g,0,none⟩) hs.length ch) (k+1) u7 (s2.ap n) l):=R

    go_wp2_with fail
    go_roundw
    case rel=>exact⟨k+1,s2.ap n,l,by omega,by go_num,HR.out⟩
    case measure=>simp[intOf];omega
  .obtain rfl:k=hs.length:=by omega
   have e1:=A.p
   have e2:=A.t
   rw[j3 (aa _),pW]at e1 e2
   rw[dP]at e2
   have hx1:Hid (x.1=s2):=by rw[<-hx.out];exact e1
   have hx2:Hid (x.2=l):=by rw[<-hx.out];exact e2
   have HA:Hid (dA wr w'.heap.size u7 l/\cx wr a s2/\Fs a w' wr):=⟨A.h,A.i,A.o⟩

   go_wp2_with fail
   go_ret
   rw[hx1.out,hx2.out]
   exact⟨_,rfl,HA.out⟩
def sO(now:Int)(h:cx w a s)(f:o<8)(b:∀c,s.iu c<=4611686018427387904):
  Calls prog 195 #[tp a.S,iI o,iI now] w λe w'=>∃v,e=.returned v/\dA w' w.heap.size v (s.e o now).2/\cx w' a (s.e o now).1/\Fs a w w':=by
 unfold Sv.e;by_cases d:s.dS=true\/(s.waits o).length=0;rw[az d];apply (Fi now h f d).mono;rintro e w'⟨rfl,rfl⟩;exact⟨_,rfl,Lease.dA.j,h,Fs.j⟩;rw[ax d];exact Fj now h f (by cases hd:s.dS with|false=>rfl|true=>exact absurd (.inl hd) d) (λq=>d (.inr q)) b rfl
def kx(mc mn:Int)(x:M):Bool:=decide (x.c=mc)&&decide (x.n=mn)
def Vh(mc mn:Int)(q:Nat)(x:M)(w:A1)(b:cC w (aA q 1) (iI mc))(g:cC w (aA q 2) (iI mn)):
  Calls prog 259 #[Wire.M.ab x,tp q] w λe w'=>e=.returned (.bool (kx mc mn x))/\Below w.heap.size w w':=by
 have h:q<w.heap.size:=cS _ _ b;have d:q≠w.heap.size:=by omega
 unfold kx Wire.M.ab;by_cases a:x.c=mc
 .have f:(x.c==mc)=true:=by simpa using a
  rw[aR a];go_enter func259,ntmps259;go_wp2;go_ret;exact⟨rfl,(au _ _).alloc (aa _) _⟩
 .have f:(x.c==mc)=false:=by simpa using a
  rw[aK a];go_enter func259,ntmps259;go_wp2;go_ret;exact⟨rfl,(au _ _).alloc (aa _) _⟩
def Uv(mc mn:Int)(l:List M)(i:Int):Prop:=(i = -1/\l.any (kx mc mn)=false)\/(0<=i/\l.any (kx mc mn)=true)
def iy.O{v:Bg}(h:iy w B v l):∃ao c,v=.slice ao l.length c/\(0<l.length->∃g,ao=some (aA g 0)/\B<=g/\g<w.heap.size/\∀i j (e:i<l.length),j<9->w.cell? (aA g (i*9+j))=(f8 l[i])[j]?):=by
 rcases h.2 with⟨a,b⟩|⟨g,d,f,a,b,k,n⟩
 exact⟨none,0,by rw[a,b],λh=>by omega⟩;refine⟨_,d,a,λ_=>⟨g,rfl,b,(am.1 k).1,λi j e m=>?_⟩⟩;subst a;rw[bJ h _ (by omega)];exact Bu l i j e m
theorem Lo{mc mn:Int}{q B:Nat}{v:Value}{l:List M}{w:World}(h:iy w B v l)(hl:l.length<=100)(b1:cC w (aA q 1) (iI mc))(b2:cC w (aA q 2) (iI mn)):
  Calls prog 282 #[v,.func (.func 259) #[] #[tp q]] w λe w'=>∃i,e=.returned (iI i)/\Uv mc mn l i/\Below w.heap.size w w':=by
 have hq:q<w.heap.size:=cS _ _ b1
 obtain⟨ao,c,rfl,hv⟩:=h.O

 go_enter func282,ntmps282
 go_wp2
 go_loopw [8] (λi wr=>∃k:Nat,k<=l.length/\i=iI k/\Hid ((l.take k).any (kx mc mn)=false)/\Below w.heap.size w wr) (λi _=>l.length-(intOf i).toNat)
 case atStart=>exact⟨0,by omega,rfl,(rfl:(l.take 0).any (kx mc mn)=false),au _ _⟩
 case round=>
  obtain⟨k,hk,rfl,hA,hbl⟩:=hrel
  by_cases hlt:k<l.length
  .obtain⟨g,rfl,_,hg,hcell⟩:=hv (by omega)
   have hltz:(k:Int)<(l.length:Int):=by omega
   have hc:∀j,j<9->wr.cell? (aA g (k*9+j))=(f8 l[k])[j]?:=λj hj=>(hbl.cell (p:=(aA g (k*9+j))) hg).trans (hcell k j hlt hj)
   have c0:=hc 0 (by omega)
   have c1:=hc 1 (by omega)
   have c2:=hc 2 (by omega)
   have c3:=hc 3 (by omega)
   have c4:=hc 4 (by omega)
   have c5:=hc 5 (by omega)
   have c6:=hc 6 (by omega)
   have c7:=hc 7 (by omega)
   have c8:=hc 8 (by omega)
   have hcall:=Vh mc mn q l[k] wr ((hbl.cell (p:=(aA q 1)) hq).trans b1) ((hbl.cell (p:=(aA q 2)) hq).trans b2)
   simp only[f8,bm,aY,lL]at c0 c1 c2 c3 c4 c5 c6 c7 c8
   have hT:(l.take (k+1)).any (kx mc mn)=((l.take k).any (kx mc mn)||kx mc mn l[k]):=by rw[bF hlt,List.any_append];simp
   have hU:kx mc mn l[k]=true->l.any (kx mc mn)=true:=λe=>vm.2 ⟨l[k],bA hlt,e⟩
   unfold Wire.M.ab at hcall
   let ⟨y,hy⟩:∃y,l[k]=y:=⟨_,rfl⟩
   rw[hy]at hcall c0 c1 c2 c3 c4 c5 c6 c7 c8 hT hU
   let ⟨p,hp⟩:∃p,kx mc mn y=p:=⟨_,rfl⟩
   rw[hp]at hcall hT hU
   have HT:Hid ((l.take (k+1)).any (kx mc mn)=((l.take k).any (kx mc mn)||p)):=hT
   have HU:Hid (p=true->l.any (kx mc mn)=true):=hU
   have HB:Hid (Below w.heap.size w wr):=hbl
   clear hy hp hbl hc hT hU hcell hv
   cases p with
   |true=>
    go_wp2_with fail
    apply hcall.mono
    rintro e w'⟨rfl,hb'⟩
    clear hcall c0 c1 c2 c3 c4 c5 c6 c7 c8
    go_wp2_with fail
    go_ret
    exact⟨_,rfl,.inr ⟨by omega,HU.out (by first|rfl|trivial)⟩,HB.out.trans (hb'.mono HB.out.size)⟩
   |false=>
    go_wp2_with fail
    apply hcall.mono
    rintro e w'⟨rfl,hb'⟩

    go_wp2_with fail
    go_roundw
    case rel=>exact⟨k+1,by omega,by go_num,(by rw[HT.out,hA.out];rfl:(l.take (k+1)).any (kx mc mn)=false),HB.out.trans (hb'.mono HB.out.size)⟩
    case measure=>simp[intOf];omega
  .obtain rfl:k=l.length:=by omega
   have hltz:¬(l.length:Int)<(l.length:Int):=by omega
   have HK:Hid (Uv mc mn l (-1)):=.inl ⟨rfl,by have:=hA.out;rw[gz]at this;exact this⟩
   go_wp2
   go_ret
   exact⟨_,rfl,HK.out,hbl⟩
def Cf{mc mn:Int}{q:Nat}{v:Bg}(h:iy w B v l)(g:l.length<=100)(j:cC w (aA q 1) (iI mc))(k:cC w (aA q 2) (iI mn)):
  Calls prog 258 #[v,.func (.func 259) #[] #[tp q]] w λe w'=>e=.returned (.bool (l.any (kx mc mn)))/\Below w.heap.size w w':=by
 let ⟨b,d⟩:∃b,l.any (kx mc mn)=b:=⟨_,rfl⟩
 have f :Hid _:= d;rw[d];go_enter func258,ntmps258;go_wp2_with fail
 apply (Lo h g j k).mono;rintro e w'⟨i,rfl,a,c⟩;rcases a with⟨rfl,a⟩|⟨h0,a⟩
 .go_wp2_with fail
  go_ret;exact⟨by rw[<-f.out,a];rfl,c⟩
 .have m:= aR h0;go_wp2_with fail
  go_ret;exact⟨by rw[<-f.out,a];first|rfl|simp[h0],c⟩
end Wld
end Go.Proofs.YtbebfliimjjohabGreatDoor
