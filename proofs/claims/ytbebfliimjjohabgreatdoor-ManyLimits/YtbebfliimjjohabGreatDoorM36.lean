/- Parts of the proof. -/
import Derived.Test.YtbebfliimjjohabGreatDoorM35
set_option maxRecDepth 100000
set_option maxHeartbeats 8000000
set_option linter.all false
open Go.Proofs.Tryz
namespace Go.Proofs.YtbebfliimjjohabGreatDoor open Gen (la on tk)
open Go.RowKit Go.Maps
open Lease (gV de cP ji fV mx kk wP Ob gv cL fg dA bX eE)
open Wal (R jf fo dE bW Oq Fw cY)
open Num (M iC dD gy)
open Cache (E qm lP tp bp bD)
open Net (fm ik cF kF)
open Bare (jC)
namespace Wld
variable{tob tv td:Int}{i G n Q k N C:Nat}{c m:Nat->Nat}{A A':Wa}{w wr w':A1}
def Wd.h(to' tv td:Int)(n:Nat):Wd:=⟨to',tv,td,[],false,0,[],none,0,n,λk=>⟨K.j k (ia td to') (ia td tv),0,0,-1⟩,[],0⟩
variable{s s':Wd}
def isZ:Value->Bool
 |.int .u8 0=>true
 |_=>false
def abf{v:Bg}(h:isZ v=true):v=.int .u8 0:=by
 unfold isZ at h;split at h;rfl;cases h
def YJ:((zeroCells81.toList.drop 3).take 12400).all isZ=true:=by kernel_rfl
def NA:zeroCells81.toList.drop 12403=[.bool false,iI 0,.slice none 0 0,iI 0,.pointer none,iI 0,.slice none 0 0,.slice none 0 0,iI 0]:=by kernel_rfl
def Mc:zeroCells81.toList.length=12412:=by
 have:=bY List.length NA;rw[cK]at this;simp only[bT,xP]at this;omega
def Zw(h:i<12400):zeroCells81[3+i]?=some (.int .u8 0):=by
 have c:=Mc;rw[<-fh];have a:3+i<zeroCells81.toList.length:=by omega
 have b:((zeroCells81.toList.drop 3).take 12400)[i]?=some zeroCells81.toList[3+i]:=by
  rw[eM,az h,mU,aB a]
 rw[aB a,abf (dh.1 YJ _ (bC b))]
def rb(i:Nat):zeroCells81[12403+i]? = [Value.bool false,iI 0,.slice none 0 0,iI 0,.pointer none,iI 0,.slice none 0 0,.slice none 0 0,iI 0][i]?:=by
 rw[<-fh,<-mU,NA]
def jh(z:Array Value)(tob tv td:Int)(G n:Nat):Array Value:=(((z.setIfInBounds 0 (.int .i64 tob)).setIfInBounds 1 (.int .i64 tv)).setIfInBounds 2 (.int .i64 td)).setIfInBounds 12409 (.slice (some ⟨G,0,none⟩) n n)
def wL(h0:3<=i)(a:i≠12409):(jh zeroCells81 tob tv td G n)[i]?=zeroCells81[i]?:=by
 unfold jh;rw[aN (by omega),aN (by omega),aN (by omega),aN (by omega)]
def wM:zeroCells81.size=12412:=by rw[<-dH];exact Mc
def Jg(tob tv td:Int)(G n:Nat):(jh zeroCells81 tob tv td G n)[0]?=some (iI tob):=by
 unfold jh;rw[aN (by omega),aN (by omega),aN (by omega),bi (by rw[wM];omega)]
def Jh(tob tv td:Int)(G n:Nat):(jh zeroCells81 tob tv td G n)[1]?=some (iI tv):=by
 unfold jh;rw[aN (by omega),aN (by omega),bi (by rw[dT,wM];omega)]
def Ji(tob tv td:Int)(G n:Nat):(jh zeroCells81 tob tv td G n)[2]?=some (iI td):=by
 unfold jh;rw[aN (by omega),bi (by rw[dT,dT,wM];omega)]
def BL(tob tv td:Int)(G n:Nat):(jh zeroCells81 tob tv td G n)[12409]?=some (.slice (some (aA G 0)) n n):=by
 unfold jh;rw[bi (by rw[dT,dT,dT,wM];omega)]
structure Nb(w wr:World)(Q G n k:Nat)(tob tv td:Int)(c m:Nat->Nat):Prop where
 b:Below w.heap.size w wr
 q:wr.heap[Q]?=some (.cells (jh zeroCells81 tob tv td G n) 81)
 g:rD wr G 90
 t:∀i,wr.frozen? ⟨G,i,none⟩=false
 p:∀i,i<k->sL wr G i (c i) ⟨K.j i (ia td tob) (ia td tv),0,0,-1⟩
 h:∀i,k<=i->i<n->wr.cell? ⟨G,i*4,none⟩=some (.pointer none)/\wr.cell? ⟨G,i*4+1,none⟩=some (.int .i64 0)/\wr.cell? ⟨G,i*4+2,none⟩=some (.int .i64 0)/\wr.cell? ⟨G,i*4+3,none⟩=some (.int .i64 0)
 o:∀i,i<k->bt wr (c i) (m i) (K.j i (ia td tob) (ia td tv))
 s:∀i,i<k->Q<c i/\Q<m i
 u:∀i j,i<k->j<k->i≠j->c i≠c j/\m i≠m j
def Nb.e(h:Nb w wr Q G n k tob tv td c m)(i:Nat):wr.cell? (aA Q i)=(jh zeroCells81 tob tv td G n)[i]?:=bS _ _ _ _ _ _ h.q
def Nb.j(h:Nb w wr Q G n n tob tv td c m)(d:1<=n)(f:n<=4)(a:Ad):bM wr ⟨Q,G,c,m,a⟩ (Wd.h tob tv td n):=by
 have x:= (am.1 h.q).1;have b:∀i,wr.frozen? (aA Q i)=false:=λi=>by
  simp[World.frozen?,h.q]
 have e:∀i,3<=i->i≠12409->wr.cell? (aA Q i)=zeroCells81[i]?:=λi h0 r=>(h.e i).trans (wL h0 r);refine⟨⟨⟨_,_,h.q⟩,b,(h.e 0).trans (Jg ..),(h.e 1).trans (Jh ..),(h.e 2).trans (Ji ..),(e 12407 (by omega) (by omega)).trans (rb 4),(e 12408 (by omega) (by omega)).trans (rb 5),(h.e 12409).trans (BL ..),(e 12411 (by omega) (by omega)).trans (rb 8)⟩,?_,?_,⟨.slice none 0 0,(e 12410 (by omega) (by omega)).trans (rb 7),?_⟩,h.g,h.t,h.p,h.o,h.u,λv s=>(by cases s),d,f⟩;refine⟨λk l=>(by simp[Wd.h]at l),λk l j y=>⟨by rw[e _ (by omega) (by omega),show 3+k*62+j=3+(k*62+j) by omega,Zw (by omega)];rfl,b _⟩,λk _ l=>?_,(e 12403 (by omega) (by omega)).trans (rb 0),(e 12404 (by omega) (by omega)).trans (rb 1),b,by simp[Wd.h],by simp[Wd.h]⟩;rw[e _ (by omega) (by omega),show 3+k*62+61=3+(k*62+61) by omega,Zw (by omega)];exact⟨⟨.slice none 0 0,(e 12405 (by omega) (by omega)).trans (rb 2),⟨rfl,.inl ⟨rfl,rfl⟩⟩⟩,⟨0,(e 12406 (by omega) (by omega)).trans (rb 3)⟩,b,by show Q<Q+1;omega,by show Q+1<=wr.heap.size;omega,by simp[Wd.h]⟩;exact⟨rfl,.inl ⟨rfl,rfl⟩⟩
def Nb.H{w2:A1}(h:Nb w wr Q G n k tob tv td c m)(D:k<n)(E:G<Q)(V:w.heap.size<=G){x q:Nat}(a:Below wr.heap.size wr w2)(F:bt w2 x q (K.j k (ia td tob) (ia td tv)))(W:wr.heap.size<=x)(X:wr.heap.size<=q):
  Nb w (fe w2 G k x 0) Q G n (k+1) tob tv td (bB c k x) (bB m k q):=by
 have I:= (am.1 h.q).1;obtain⟨Y,J,L,M⟩:=yz w2 G k x 0;have N:=a.size;have o:∀y,y≠G->(fe w2 G k x 0).heap[y]?=w2.heap[y]?:=λy A=>wJ w2 G k x 0 A;have r:=h.h k (by omega) D;have B:= h.g.H;have v:∀i,w2.cell? (aA G i)=wr.cell? (aA G i):=λi=>a.cell (p:=(aA G i)) B;obtain⟨O,P,R⟩:=BF w2 G k x 0 ((v _).trans r.1) ((v _).trans r.2.2.1) ((v _).trans r.2.2.2);have d:∀i,i≠k->∀j,j<4->(fe w2 G k x 0).cell? (aA G (i*4+j))=wr.cell? (aA G (i*4+j)):=λi z j S=>(jS w2 G k x 0 (by omega) (by omega) (by omega)).trans (v _);have T:=h.b.size;refine⟨⟨J.trans (a.os.trans h.b.os),L.trans (a.tape.trans h.b.tape),M.trans (a.output.trans h.b.output),by omega,λy A=>(o y (by omega)).trans ((a.block y (by omega)).trans (h.b.block y A))⟩,(o Q (by omega)).trans ((a.block Q I).trans h.q),?_,λi=>?_,λi z=>?_,λi Z U=>?_,λi z=>?_,λi z=>?_,λi j z S C=>?_⟩;unfold fe;exact Wal.db (Wal.db (Wal.db (h.g.e (a.block G B))));rw[BE,a.frozen (p:=(aA G i)) B];exact h.t i;by_cases e:i=k;subst e;rw[cy];exact⟨O,(jS w2 G i x 0 (i:=i*4+1) (by omega) (by omega) (by omega)).trans ((v _).trans r.2.1),P,R⟩;rw[cU e];have y:=h.p i (by omega);exact⟨(d i e 0 (by omega)).trans y.b,(d i e 1 (by omega)).trans y.h,(d i e 2 (by omega)).trans y.o,(d i e 3 (by omega)).trans y.j⟩;have y:=h.h i (by omega) U;have e:i≠k:=by omega
 exact⟨(d i e 0 (by omega)).trans y.1,(d i e 1 (by omega)).trans y.2.1,(d i e 2 (by omega)).trans y.2.2.1,(d i e 3 (by omega)).trans y.2.2.2⟩;by_cases e:i=k;subst e;rw[cy,cy];exact F.j (o x (by omega)) (o q (by omega));rw[cU e,cU e];have y:=h.o i (by omega);have lo:=h.s i (by omega);have lt:=y.H;exact y.j ((o _ (by omega)).trans (a.block _ lt.1)) ((o _ (by omega)).trans (a.block _ lt.2));by_cases e:i=k;subst e;rw[cy,cy];omega;rw[cU e,cU e];exact h.s i (by omega);unfold bB;by_cases l:i=k;have f:j≠k:=by omega
 have:=(λe=>(h.o j (by omega)).H) f;rw[az l,ax f,az l,ax f];omega;by_cases f:j=k;have:=(λe=>(h.o i (by omega)).H) l;rw[ax l,az f,ax l,az f];omega;rw[ax l,ax f,ax l,ax f];exact h.u i j (by omega) (by omega) C
def f9.a8(m:1<=tv)(o:tv<=tob)(c:tob<=274877906944)(a:0<=td)(b:td<=500):f9 (Wd.h tob tv td n) 0:=by
 have d:=nH a b (t:=tob) (by omega) c;have e:=nH a b (t:=tv) (by omega) (by omega);refine⟨by show 0<=tob;omega,c,by show 0<=tv;omega,by show tv<=_;omega,a,b,cJ 0,by simp[Wd.h,K.j],λi _=>⟨⟨by simp[Wd.h,K.j],by simp[Wd.h,K.j],by simp[Wd.h,K.j],by simp[Wd.h,K.j],by simp[Wd.h,K.j],by simp[Wd.h,K.j],by simp[Wd.h,K.j],d.1,?_,e.1,?_,by simp[Wd.h,K.j],by simp[Wd.h,K.j],by simp[Wd.h,K.j],by simp[Wd.h,K.j],λx f=>(by cases f),by show (⟨#[]⟩:Bh).size<=20;decide⟩,by simp[Wd.h,K.j],by simp[Wd.h,K.j],by simp[Wd.h,K.j],by simp[Wd.h,K.j],by simp[Wd.h,K.j],by show (-1:Int)<_;simp[Wd.h]⟩,by simp[Wd.h,K.j],by simp[Wd.h,K.j],by simp[Wd.h],λp g=>(by simp[Wd.h]at g),by simp[Wd.h],λv k=>(by cases k),λr l=>(by simp[Wd.h]at l),by simp[Wd.h],by simp[Wd.h,K.j],by simp[Wd.h,K.j]⟩;show ia td tob<=_;omega;show ia td tv<=_;omega
def Va(w:A1)(a:1<=tv)(b:tv<=tob)(c:tob<=274877906944)(d:0<=td)(f:td<=500):
  Calls prog 56 #[.agg #[iI tob,iI tv,iI td]] w λe w'=>e=.returned (.bool true)/\Below w.heap.size w w'/\w'.heap.size=w.heap.size+1:=by
 go_enter func56,ntmps56;go_wp2;go_ret;exact⟨by simp,((au _ _).alloc (aa _) _),by simp⟩
def gJ:Nat->List Value
 |0=>[]
 |n+1=>[.pointer none,.int .i64 0,.int .i64 0,.int .i64 0]++gJ n
def D5:∀(n i:Nat),i<n->(gJ n)[i*4]?=some (.pointer none)/\(gJ n)[i*4+1]?=some (iI 0)/\(gJ n)[i*4+2]?=some (iI 0)/\(gJ n)[i*4+3]?=some (iI 0)
 |n+1,0,_=>⟨rfl,rfl,rfl,rfl⟩
 |n+1,i+1,h=>by
  have e:∀j,(gJ (n+1))[(i+1)*4+j]?=(gJ n)[i*4+j]?:=λj=>by
   show ([Value.pointer none,iI 0,iI 0,iI 0]++gJ n)[(i+1)*4+j]?=_;rw[aQ (by simp;omega)];congr 1;simp;omega
  have a:=D5 n i (by omega);exact⟨(e 0).trans a.1,(e 1).trans a.2.1,(e 2).trans a.2.2.1,(e 3).trans a.2.2.2⟩
def Ly(a:1<=n)(b:n<=4)(w:A1):(Instr.makeSlice 79 (iI n) (iI n)).run prog w=.ok (.slice (some (aA w.heap.size 0)) n n) (w.alloc (.cells (gJ n).toArray 90)):=by
 obtain rfl|rfl|rfl|rfl:n=1\/n=2\/n=3\/n=4:=by omega
 all_goals kernel_rfl
def FX(N:Nat)(w:World)(A:Wa)(s:Wd):Prop:=∀k,wfoot w A s k->N<=k
def FX.e(h:FX N w A s)(a:Fz A s w A' s' w')(d:N<=w.heap.size):FX N w' A' s':=λk b=>by
 by_cases c:k<w.heap.size;exact h k (a.j k c b);omega
def Fz.I(a:Fz A s w A' s' w')(h:FX N w A s)(c:A.Q<w.heap.size):Below N w w':=
 ⟨a.t,a.o,a.b,a.i,λk d=>a.p k (by have:=h A.Q (.Q rfl);omega) (λq=>by have:=h k q;omega) (λq=>by have:=h A.Q (.Q rfl);omega)⟩
def Nb.I(h:Nb w wr Q G n n tob tv td c m)(g:w.heap.size<=G)(j:w.heap.size<=Q)(a:Ad):FX w.heap.size wr ⟨Q,G,c,m,a⟩ (Wd.h tob tv td n):=λk l=>by
 rcases l with q|q|⟨v,d,f⟩|⟨i,b,q⟩|⟨i,b,q⟩|⟨q,_⟩
 rw[q];exact j;rw[q];exact g;rw[h.e 12410,wL (by omega) (by omega),rb 7]at d;have e:= (aZ d).symm;rw[e]at f;cases f;have:=h.s i b;rw[q];show w.heap.size<=c i;omega;have:=h.s i b;rw[q];show w.heap.size<=m i;omega;cases q
def UT{z:Array Bg}(a:z.size=12412):Instr.fill (λx=>([(0,3),(3,12402),(12405,2),(12407,1),(12408,1),(12409,1),(12410,1),(12411,1)]:List (Nat×Nat)).toArray[x]?) z [(0,.agg #[iI tob,iI tv,iI td]),(5,.slice (some (aA G 0)) n n)]=some (jh z tob tv td G n):=by
 simp[Instr.fill,Value.cells,a,jh]
def Ig(tob tv td:Int)(G n:Nat):prog.built 81 [(0,.agg #[iI tob,iI tv,iI td]),(5,.slice (some (aA G 0)) n n)]=some (jh zeroCells81 tob tv td G n):=by
 have a:(prog.info? 81).map (·.zero)=some (some (.agg zeroCells81)):=by kernel_rfl
 let ⟨f,b,c⟩:=bV.1 a
 unfold Program.built;rw[b,underlying81];dsimp only;rw[c];generalize d:List.mapM (m:=Option) (β:=Nat×Nat) _ _=r;have e:r=some [(0,3),(3,12402),(12405,2),(12407,1),(12408,1),(12409,1),(12410,1),(12411,1)]:=by rw[<-d];kernel_rfl
 rw[e];exact UT wM
def L3{o:Oper}{a:Act}{K:Act->A1->Prop}{Q:Exit->Act->A1->Prop}(t:Bi)(b:Array (Nat×Operand))(d:o.op=.build t b)(cells:Array Bg)(c:prog.built t (b.map λ(i,x)=>(i,a.eval x)).toList=some cells)(h:K (a.put o.dst (.agg cells)) w):o.wp prog a w K Q:=
 wp_build t b d (by rw[c];rfl) (by rw[c];exact h)
def IV(tob tv td:Int)(n:Nat)(w:A1)(n1:1<=n)(n4:n<=4)(h1:1<=tv)(h2:tv<=tob)(h3:tob<=274877906944)(h4:0<=td)(h5:td<=500):
  Calls prog 22 #[.agg #[iI tob,iI tv,iI td],iI n] w λe w'=>∃A,e=.returned (.tuple #[tp A.Q,.nilIface])/\bM w' A (Wd.h tob tv td n).start/\Below w.heap.size w w'/\FX w.heap.size w' A (Wd.h tob tv td n).start:=by
 go_enter func22,ntmps22;go_upto_region 1 with fail
 generalize E:w.alloc (.cells #[.int .i64 tob,.int .i64 tv,.int .i64 td] 29)=w1;have F:Below w.heap.size w w1:=by rw[<-E];exact(au _ _).alloc (aa _) _
 have ad:w1.heap.size=w.heap.size+1:=by rw[<-E];simp
 have t0:w1.cell? (aA w.heap.size 0)=some (iI tob):=by rw[<-E];exact bS _ _ _ _ _ _ (bw w _)
 have t1:w1.cell? (aA w.heap.size 1)=some (iI tv):=by rw[<-E];exact bS _ _ _ _ _ _ (bw w _)
 have t2:w1.cell? (aA w.heap.size 2)=some (iI td):=by rw[<-E];exact bS _ _ _ _ _ _ (bw w _)
 clear E;have s:=Va w1 h1 h2 h3 h4 h5;have g1:¬(n:Int)<1:=by omega
 have g4:¬(4:Int)<(n:Int):=by omega
 go_wp2_with fail
 refine s.mono ?_;rintro e w2⟨rfl,l,aI⟩;have s0:=(l.cell (p:=(aA w.heap.size 0)) (by dsimp only;omega)).trans t0;have V:=(l.cell (p:=(aA w.heap.size 1)) (by dsimp only;omega)).trans t1;have W:=(l.cell (p:=(aA w.heap.size 2)) (by dsimp only;omega)).trans t2;have J:Hid (w2.heap.size=w.heap.size+2):=(by omega:w2.heap.size=w.heap.size+2);have y:Below w.heap.size w w2:=F.trans (l.mono (by omega));clear s t0 t1 t2 ad aI F l;go_upto_region 3 with fail
 refine Gen.start (S:=λw'=>w'.cell? (aA w.heap.size 0)=some (iI tob)/\w'.cell? (aA w.heap.size 1)=some (iI tv)/\w'.cell? (aA w.heap.size 2)=some (iI td)) (by kernel_rfl) ⟨s0,V,W⟩ (λd=>?_);refine tk 0 3 d ?_;go_frame;refine tk 1 2 d ?_;go_frame;refine on 2 λK o=>?_;have aS:=Ly n1 n4 w2.drew;go_simp;have g:=J.out;have X:∀i,i<3->∀u,w2.cell? (aA w.heap.size i)=some u->(w2.alloc (.cells (gJ n).toArray 90)).drew.cell? (aA w.heap.size i)=some u:=λi _ u hu=>(aH w2 _ (aA w.heap.size i) (by dsimp only;omega)).trans hu;clear g;refine o.out _ _ ⟨X 0 (by omega) _ s0,X 1 (by omega) _ V,X 2 (by omega) _ W⟩ (λd=>?_);clear o K X;try simp only[Act.put,ar,aD,aC]
 refine on 3 λK o=>?_;refine L3 81 #[(0,.tmp 20),(5,.tmp 22)] rfl (jh zeroCells81 tob tv td w2.heap.size n) ?_ ?_;have a0:=Ig tob tv td w2.heap.size n;simpa[Act.eval] using a0;refine o.out _ _ d (λd=>?_);clear o K;try simp only[Act.put,ar,aD,aC]
 refine on 4 λK o=>?_;obtain⟨f,z⟩:∃f,jh zeroCells81 tob tv td w2.heap.size n=f:=⟨_,rfl⟩;have HZ:Hid (jh zeroCells81 tob tv td w2.heap.size n=f):=z;rw[z];clear z;go_simp;obtain⟨G,L⟩:∃G,w2.heap.size=G:=⟨_,rfl⟩;rw[L]at HZ J;rw[L];have g:=J.out;have Y:Hid (Nb w ((w2.alloc (.cells (gJ n).toArray 90)).alloc (.cells f 81)).drew (G+1) G n 0 tob tv td (λ_=>0) (λ_=>0)):=by
  have bl:Below w.heap.size w ((w2.alloc (.cells (gJ n).toArray 90)).alloc (.cells f 81)).drew:=((y.alloc (by omega) _).alloc (by simp;omega) _).drew;have eG:((w2.alloc (.cells (gJ n).toArray 90)).alloc (.cells f 81)).drew.heap[G]?=some (.cells (gJ n).toArray 90):=by
   have ba:=(au (w2.alloc (.cells (gJ n).toArray 90)).heap.size (w2.alloc (.cells (gJ n).toArray 90))).alloc (aa _) (.cells f 81);have M:=ba.block w2.heap.size (by simp);rw[bw]at M;rw[<-L];exact M
  have eQ:((w2.alloc (.cells (gJ n).toArray 90)).alloc (.cells f 81)).drew.heap[G+1]?=some (.cells f 81):=by
   have M:=bw (w2.alloc (.cells (gJ n).toArray 90)) (.cells f 81);rw[show (w2.alloc (.cells (gJ n).toArray 90)).heap.size=G+1 by rw[<-L];simp]at M;exact M
  have Z:∀i,((w2.alloc (.cells (gJ n).toArray 90)).alloc (.cells f 81)).drew.cell? (aA G i)=(gJ n)[i]?:=λi=>by
   rw[bS _ _ _ _ _ _ eG,bo]
  refine⟨bl,by rw[HZ.out];exact eQ,⟨_,_,eG⟩,λi=>by simp[World.frozen?,eG],λi O=>by omega,λi _ O=>?_,λi O=>by omega,λi O=>by omega,λi j O=>by omega⟩;have hz:=D5 n i O;exact⟨(Z _).trans hz.1,(Z _).trans hz.2.1,(Z _).trans hz.2.2.1,(Z _).trans hz.2.2.2⟩
 have HT:Hid (((w2.alloc (.cells (gJ n).toArray 90)).alloc (.cells f 81)).drew.cell? (aA w.heap.size 0)=some (iI tob)/\((w2.alloc (.cells (gJ n).toArray 90)).alloc (.cells f 81)).drew.cell? (aA w.heap.size 1)=some (iI tv)/\((w2.alloc (.cells (gJ n).toArray 90)).alloc (.cells f 81)).drew.cell? (aA w.heap.size 2)=some (iI td)):=by
  have B:Below w2.heap.size w2 ((w2.alloc (.cells (gJ n).toArray 90)).alloc (.cells f 81)).drew:=(((au w2.heap.size w2).alloc (aa _) _).alloc (by simp) _).drew;exact⟨(B.cell (p:=(aA w.heap.size 0)) (by dsimp only;omega)).trans s0,(B.cell (p:=(aA w.heap.size 1)) (by dsimp only;omega)).trans V,(B.cell (p:=(aA w.heap.size 2)) (by dsimp only;omega)).trans W⟩
 generalize ((w2.alloc (.cells (gJ n).toArray 90)).alloc (.cells f 81)).drew=w3 at *;clear L g y s0 V W HZ aS;refine o.out _ _ HT.out (λd=>?_);clear o K HT;try simp only[Act.put,ar,aD,aC]
 refine la 5 λK o=>?_;go_simp;refine o.out _ _ ?_;clear o K d;have P:w3.cell? (aA (G+1) 12409)=some (.slice (some (aA G 0)) n n):=(Y.out.e 12409).trans (BL ..);go_wp2_with fail
 go_loopw [30] (λi wr=>∃(k:Nat) (c m:Nat->Nat),k<=n/\i = iI k/\Nb w wr (G+1) G n k tob tv td c m) (λi _=>n-(intOf i).toNat)
 case atStart=>exact⟨0,_,_,by omega,rfl,Y.out⟩
 case round=>
  obtain⟨k,c,m,hk,rfl,N⟩:=hrel;by_cases C:k<n
  .have r:=N.h k (by omega) C;have g:=J.out;have D:=DL tob tv td 0 wr ((N.e 12409).trans (BL ..)) ((N.e 0).trans (Jg ..)) ((N.e 1).trans (Jh ..)) ((N.e 2).trans (Ji ..)) C n4 r.1 r.2.2.1 r.2.2.2 N.t (by omega) (by omega) (by omega) (by omega) h4 h5 (by omega) (by omega);rw[show (0:Int)*4+(k:Int)=k by omega]at D;have bO:(k:Int)<(n:Int):=by omega
   have bK:(0:Int)<=(k:Int):=by omega
   have R:Hid (∀w2 x q,Below wr.heap.size wr w2->bt w2 x q (K.j k (ia td tob) (ia td tv))->wr.heap.size<=x->wr.heap.size<=q->∃c m,Nb w (fe w2 G k x 0) (G+1) G n (k+1) tob tv td c m):=λw2 x q a1 a2 a3 a4=>⟨_,_,N.H C (by omega) (by omega) a1 a2 a3 a4⟩;clear N r Y P g;go_wp2_with fail
   refine D.mono ?_;rintro e w7⟨rfl,x,q,w6,a1,a2,a3,a4,T⟩;have bc:Hid (∃c m,Nb w w7 (G+1) G n (k+1) tob tv td c m):=by rw[T];exact R.out w6 x q a1 a2 a3 a4
   clear R D a1 a2 T;go_wp2_with fail
   go_roundw
   case rel=>
    obtain⟨c',m',bg⟩:=bc.out;exact⟨k+1,c',m',by omega,by go_num,bg⟩
   case measure=>simp[intOf];omega
  .obtain rfl:k=n:=by omega
   have g:=J.out;have hD:=N.j n1 n4 ⟨0,0,0,0,0⟩;have hL:=N.I (by omega) (by omega) ⟨0,0,0,0,0⟩;have U:=xN (Wd.h tob tv td k) 0 wr hD rfl (f9.a8 h1 h2 h3 h4 h5) (λr hr=>by simp[Wd.h]at hr) (λq=>by simp[Wd.h]at q);have R:Hid (∀(a:Ad) w',bM w' ⟨G+1,G,c,m,a⟩ (Wd.h tob tv td k).start->Fz ⟨G+1,G,c,m,⟨0,0,0,0,0⟩⟩ (Wd.h tob tv td k) wr ⟨G+1,G,c,m,a⟩ (Wd.h tob tv td k).start w'->Below w.heap.size w w'/\FX w.heap.size w' ⟨G+1,G,c,m,a⟩ (Wd.h tob tv td k).start):=λa w' _ b2=>⟨N.b.trans (b2.I hL hD.I),hL.e b2 N.b.size⟩;clear N Y P g hD hL;go_wp2_with fail
   refine U.mono ?_;rintro e w7⟨rfl,a,d1,d2⟩;have HF:=R.out a w7 d1 d2;clear R U d2;go_wp2_with fail
   exact bz (v:=.tuple #[tp (G+1),.nilIface]) (by simp[results,results22,go_sem]) rfl ⟨⟨G+1,G,c,m,a⟩,rfl,d1,HF.1,HF.2⟩
def f9.bk{w:Wd}(h:f9 w C):f9 w.start C:=by
 let ⟨a,c,d,_⟩:=mS.al (to':=w.b) (tv:=w.i) (td:=w.o) (now:=w.cT) h.j h.I
 exact h.ae (a.e (by omega)) c d
def f9.ab{w:Wd}(h:f9 w C):f9 w.e (C+1):=by
 unfold Wd.e;split;exact h.e (by omega);exact h.H.bk
def wH(h:bM w A s)(hs:s.sv.isSome=true):Calls prog 31 #[tp A.Q] w λe w'=>e=.returned (eV 6)/\w'=w:=by
 have a:=oC h;let ⟨v,b⟩:=aV.1 hs
 rw[b]at a;go_enter func31,ntmps31;go_wp2_with fail
 apply a.mono;rintro e w2⟨rfl,rfl⟩;go_wp2_with fail
 go_ret;exact⟨rfl,rfl⟩
def Wd.qqh(h:s.sv.isSome=true):s.e=s:=by
 let ⟨v,a⟩:=aV.1 h
 unfold Wd.e;rw[a]
end Wld
end Go.Proofs.YtbebfliimjjohabGreatDoor
