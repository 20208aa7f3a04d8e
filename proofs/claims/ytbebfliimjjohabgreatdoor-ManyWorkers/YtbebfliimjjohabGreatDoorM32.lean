/- Parts of the proof. -/
import Derived.Test.YtbebfliimjjohabGreatDoorM31
set_option maxRecDepth 100000
set_option maxHeartbeats 8000000
set_option linter.all false
open Go.Proofs.Tryz
namespace Go.Proofs.YtbebfliimjjohabGreatDoor open Gen (la on tz)
open Go.RowKit Go.Maps
open Lease (Ob fN ic cy jm fY eI de bQ dW mx kk)
open Cache (tp aZ bq)
open Wal (R du bM Oq Fw cO jv fH)
open Num (M iH dq fO)
open Net (eD gJ dp)
namespace Wld
variable{m:M}{k B g c o C:Nat}{A:Wa}{w:Ba}
def WQ{s:Wd}(h:bF w A s)(c:k<s.n)(hc:(s.bm k).kH<0):
  Calls prog 73 #[tp A.Q,iI k] w λe a=>e=.returned (.tuple #[])/\bF a A (s.V k)/\Fz A s w A (s.V k) a:=by
 have e:s.V k=s:=aH hc;rw[e];have d:=h.b.h;have c3:=(h.e k c).j;have l:=h.B;have m:= aX hc;have f:(0:Int)<=(k:Int):=ak;have g:(k:Int)<(s.n:Int):=ak;have i :Hid _:= h;go_in;go_wp2;exact bn (v:=.tuple #[]) (by simp[results,results73,go_sem]) rfl ⟨rfl,i.out,Fz.j⟩
def m7(k:K):List Value:=[.int .i64 k.pB,.int .i64 k.kW,.string k.d,.int .i64 k.Sl,.bool k.oE,.bool k.N7]
def JS{k:K}:(m7 k).toArray.all (·.oneCell')=true:=all_oneCell_toArray λv a=>by
 unfold m7 at a;simp at a;rcases a with rfl|rfl|rfl|rfl|rfl|rfl<;>rfl
def OP:(prog.info? 43).map (·.size)=some 6:=bt
def Ua:List Value->Nat->List Value->List Value
 |a,_,[]=>a
 |a,o,v::b=>Ua (a.set o v) (o+1) b
def LG{e:DU}{size n b:Nat}:∀(a:List Dv) (o:Nat) (w:Ba) (c:List Dv),w.ownsRow B e size (.slice (some (aA g 0)) n b) n c->(w.setCells g o a).ownsRow B e size (.slice (some (aA g 0)) n b) n (Ua c o a)/\(w.setCells g o a).heap.size=w.heap.size/\(∀k,k≠g->(w.setCells g o a).heap[k]?=w.heap[k]?)/\(w.setCells g o a).os=w.os/\(w.setCells g o a).tape=w.tape/\(w.setCells g o a).output=w.output
 | [],_,w,c,h=>⟨h,rfl,λ_ _=>rfl,rfl,rfl,rfl⟩
 |v::a,o,w,c,h=>by
  let ⟨f,_⟩:=World.ownsRow.stored h o v
  let ⟨k1,i,j,l,m,p⟩:=LG a (o+1) (w.setCell (aA g o) v) _ f
  rw[World.setCells];exact⟨k1,i.trans aY,λk d=>(j k d).trans (aQ w (aA g o) v k d),l,m,p⟩
def Ev.e(e:Ev)(k:K):Ev:={e with Aa:=k.pB,Js:=k.kW,d:=k.d,N6:=k.Sl,Gj:=k.oE,XA:=k.N7}
def LB:∀(a:List Dv) (o:Nat) (b:List Dv),(Ua b o a).length=b.length
 | [],_,_=>rfl
 |v::a,o,b=>by rw[Ua,LB a,oS]
def ym:∀(a:List Dv) (o:Nat) (b:List Dv) (p:Nat),(p<o\/o+a.length<=p)->(Ua b o a)[p]?=b[p]?
 | [],_,_,_,_=>rfl
 |v::a,o,b,p,h=>by
  simp at h;rw[Ua,ym a (o+1) _ p ak,kj ak]
def Tc:∀(a:List Dv) (o:Nat) (b:List Dv) (j:Nat),j<a.length->o+a.length<=b.length->(Ua b o a)[o+j]?=a[j]?
 | [],_,_,_,h,_=>by simp at h
 |v::a,o,b,0,_,c=>by
  simp at c;rw[Ua,ym a (o+1) _ _ ak,qq,mD ak];rfl
 |v::a,o,b,j+1,h,c=>by
  simp at h c;rw[Ua,show o+(j+1)=o+1+j by omega,Tc a (o+1) _ j ak (by rw[oS];omega)];rfl
def Ta(l:List Ev)(hc:c<l.length)(k:K):Ua (fq l) (c*10+1) (m7 k)=fq (l.set c (l[c].e k)):=by
 have d:=jN l;have f:(m7 k).length=6:=rfl;refine sT hc (by rw[LB,d]) (λj a=>?_) (λp g=>ym _ _ _ _ ak);by_cases b:1<=j/\j<=6;obtain⟨i,rfl⟩:∃i,j=i+1:=⟨j-1,ak⟩;rw[show c*10+(i+1)=c*10+1+i by omega,Tc _ _ _ i ak ak];match i,b with
 |0,_=>rfl
 |1,_=>rfl
 |2,_=>rfl
 |3,_=>rfl
 |4,_=>rfl
 |5,_=>rfl
 |i+6,h=>omega
 rw[ym _ _ _ _ ak,jX l c j hc a];match j,a,b with
 |0,_,_=>rfl
 |7,_,_=>rfl
 |8,_,_=>rfl
 |9,_,_=>rfl
 |1,_,h=>omega
 |2,_,h=>omega
 |3,_,h=>omega
 |4,_,h=>omega
 |5,_,h=>omega
 |6,_,h=>omega
def WI(l:List Ev)(c:Nat)(hc:c<l.length)(x:Int):(fq l).set (c*10+8) (iI x)=fq (l.set c {l[c] with uX:=x}):=by
 have d:=jN l;refine sT hc (by rw[oS,d]) (λj a=>?_) (λp e=>kj ak);by_cases b:j=8;subst b;rw[mD ak];rfl;rw[kj ak,jX l c j hc a];match j,a,b with
 |0,_,_=>rfl
 |1,_,_=>rfl
 |2,_,_=>rfl
 |3,_,_=>rfl
 |4,_,_=>rfl
 |5,_,_=>rfl
 |6,_,_=>rfl
 |7,_,_=>rfl
 |9,_,_=>rfl
 |8,_,h=>omega
def JX(e:Ev)(k:K)(x:Int):e.h k x=if k.oE=true then {e.e k with uX:=x} else e.e k:=by
 unfold Ev.h Ev.e;cases k.oE<;>simp
def OV{l:List Ev}(hc:c<l.length)(k:K)(x:Int):l.modify c (λe=>e.h k x)=if k.oE=true then (l.set c (l[c].e k)).set c {l[c].e k with uX:=x} else l.set c (l[c].e k):=by
 have a:l.modify c (λe=>e.h k x)=l.set c (l[c].h k x):=by
  apply mC;intro i;rw[List.getElem?_modify];by_cases b:c=i;subst b;rw[mD hc,aE hc];simp;rw[kj b];simp[b]
 rw[a,JX];split;rw[List.set_set];rfl
def Tk{s:Wd}(k c:Nat)(h:bF w A s)(Y:k<s.n)(hc:(s.bm k).kH=c)(ad:c<s.bO.length):
  Calls prog 73 #[tp A.Q,iI k] w λe w'=>e=.returned (.tuple #[])/\bF w' A (s.V k)/\Fz A s w A (s.V k) w':=by
 have cs:=h.b.h;have ct:=h.b.j;have c0:=(h.e k Y).b;have c3:=(h.e k Y).j;have n4:=h.B;have dm:(0:Int)<=(k:Int):=ak;have dn:(k:Int)<(s.n:Int):=ak;obtain⟨v,hv,t⟩:=h.x;obtain⟨ao,S,cv,cw,cA⟩:=Net.cP t;subst cv;obtain⟨g,rfl⟩:∃g,ao=some (aA g 0):=by
  rcases t.2 with⟨e,h0⟩|⟨g,dr,ds,e,_⟩
  omega;injection e with e
  exact⟨g,e⟩
 rw[hc]at c3;have dt:decide ((c:Int)<0)=false:=aK ak;have dv:(0:Int)<=(c:Int):=ak;have df:(c:Int)<(s.bO.length:Int):=ak;have z:=λw h=>Sy (c:=A.c k) (m:=A.m k) (k:=(s.bm k).k) (w:=w) h;have aS:=h.o k Y;have HW:Hid (bF w A s):=h;clear h cw cA;go_in;go_wp2_with fail
 go_quiet (fail);go_wp2_with fail
 refine(z _ (aS.e)).mono ?_;rintro e w2⟨rfl,y⟩;have u:FF w w2:=⟨y.os,y.tape,y.output,y.size,y.block⟩;obtain⟨x1,x2⟩:=HW.out.h u;have d:=bq t u;have K:=(aa (a:=(aA A.Q 12410)) (u.block A.Q HW.out.I)).trans hv;have a0:=x1.b.j;have a1:=(x1.e k Y).j;rw[hc]at a1;have bR:=World.ownsRow.frozenAt d;have ci:w2.there g (c*10+1) (m7 (s.bm k).k).toArray.size:=λj hj=>by
  have dy:j<6:=hj;refine⟨?_,bR _⟩;rw[bC d (c*10+1+j) ak,aE (by rw[jN];omega)];rfl
 obtain⟨C,r2,r3,r4,r5,r6⟩:=LG (m7 (s.bm k).k) (c*10+1) w2 _ d;rw[Ta s.bO (c:=c) ad]at C;obtain⟨w3,T⟩:∃w3,w2.setCells g (c*10+1) (m7 (s.bm k).k)=w3:=⟨_,rfl⟩;rw[T]at C r2 r3 r4 r5 r6;obtain⟨L,O⟩:∃L,s.bO.set c (s.bO[c].e (s.bm k).k)=L:=⟨_,rfl⟩;rw[O]at C;have cj:g≠A.Q:=by
  have:=(cT d (g:=g) rfl).1;omega
 have D:L.length=s.bO.length:=by rw[<-O];simp
 have E:=r3 A.Q (eX cj);have q1:∀q,q<w2.heap.size->q≠A.Q->(∀v,w2.cell? (aA A.Q 12410)=some v->v.ownBlock≠some q)->w3.heap[q]?=w2.heap[q]?:=λq U cB W=>r3 q (λe=>W _ K (e▸rfl));have q2:∀i,i≠12410->w3.cell? (aA A.Q i)=w2.cell? (aA A.Q i):=λi _=>aa E;have q3:∀i,w3.frozen? (aA A.Q i)=w2.frozen? (aA A.Q i):=λi=>aG E;have q4:w3.cell? (aA A.Q 12410)=some (.slice (some (aA g 0)) s.bO.length S):=(aa E).trans K;have q5:w3.ownsRow (A.Q+1) 45 10 (.slice (some (aA g 0)) s.bO.length S) L.length (fq L):=D▸C;have q6:∀q,(Value.slice (some (aA g 0)) s.bO.length S).ownBlock=some q->q<w2.heap.size->∃v,w2.cell? (aA A.Q 12410)=some v/\v.ownBlock=some q:=λq U _=>⟨_,K,U⟩;obtain⟨Z1,Z2⟩:=bF.Z x1 r4 r5 r6 ak q1 q2 q3 (x1.b.b.e E) q4 q5 q6;have P:Hid (bF w3 A {s with bO:=L}/\Fz A s w A {s with bO:=L} w3):=⟨Z1,x2.e Z2⟩;have cG :Hid _:= q4;have l :Hid _:= q5;have HL :Hid _:= O;have R :Hid _:= T;clear z aS cs ct c0 c3 hv t y q1 q2 q3 q6 Z1 Z2 C r2 r3 r4 r5 r6 O T E;have f:∀j,j<10->w3.cell? (aA g (c*10+j))=(eE ((s.bO[c]).e (s.bm k).k))[j]?:=λj hj=>by
  have F:=l.out;rw[D]at F;rw[bC F (c*10+j) ak,jX L c j ak hj];have e:L[c]=(s.bO[c]).e (s.bm k).k:=by
   have O:=HL.out;subst O;exact nh _
  rw[e]
 have y5:w3.cell? (aA g (c*10+1+4))=some (.bool (s.bm k).k.oE):=f 5 ak;have y8:w3.cell? (aA g (c*10+8))=some (iI (s.bO[c]).uX):=f 8 ak;have dk:w3.frozen? (aA g (c*10+8))=false:=by
  have F:=l.out;rw[D]at F;exact World.ownsRow.frozenAt F _
 have ck:=P.out.1.b.j;have d3:=(P.out.1.e k Y).j;have fG:=P.out.1.C (k*4+3);dsimp only at ck d3;rw[hc]at d3;have dz:g≠A.G:=λe=>by
  have F:=l.out;exact(cT F (g:=g) rfl).2.j P.out.1.u cn e
 clear f q4 q5 bR a0 a1 d K u x1 x2;rw[show (s.bm k).k.a4=.agg (m7 (s.bm k).k).toArray from rfl];go_upto_region 4 with (refine wpList_store_mid rfl 43 (.tmp 33) (.tmp 31) rfl g (c*10+1) (m7 (s.bm k).k).toArray rfl rfl ci OP (JS) ?_;rw[show (m7 (s.bm k).k).toArray.toList=m7 (s.bm k).k from rfl,R.out])
 have r:Hid (s.V k = {s with bO:=s.bO.modify c λe=>e.h (s.bm k).k s.cm,bm:=cq s.bm k {s.bm k with kH:=if (s.bm k).k.oE=true then -1 else (s.bm k).kH} }):=by
  unfold Hid Wd.V;rw[ay (by rw[hc];omega)];rw[show (s.bm k).kH.toNat=c by rw[hc];rfl]
 have H:Hid (s.bO.modify c (λe=>e.h (s.bm k).k s.cm)=if (s.bm k).k.oE=true then L.set c { (s.bO[c]).e (s.bm k).k with uX:=s.cm} else L):=by
  unfold Hid;rw[OV ad,HL.out]
 clear ci R;cases hov:(s.bm k).k.oE with
 |true=>
  rw[hov]at y5;have F:=l.out;rw[D]at F;obtain⟨C,cW⟩:=World.ownsRow.stored F (c*10+8) (iI s.cm);have cl:L[c]'ak=(s.bO[c]).e (s.bm k).k:=by
   have O:=HL.out;subst O;exact nh _
  rw[WI L c ak,cl]at C;obtain⟨w4,p⟩:∃w4,w3.setCell (aA g (c*10+8)) (iI s.cm)=w4:=⟨_,rfl⟩;rw[p]at C;have b4:∀q,q≠g->w4.heap[q]?=w3.heap[q]?:=λq U=>by rw[<-p];exact aQ w3 (aA g (c*10+8)) _ q U
  have s4:w4.heap.size=w3.heap.size:=by rw[<-p];simp
  have m4:w4.os=w3.os/\w4.tape=w3.tape/\w4.output=w3.output:=by rw[<-p];exact⟨rfl,rfl,rfl⟩
  obtain⟨L2,M⟩:∃L2,L.set c { (s.bO[c]).e (s.bm k).k with uX:=s.cm} = L2:=⟨_,rfl⟩;rw[M]at C;have co:L2.length=s.bO.length:=by rw[<-M];simp[D]
  have X:=P.out.1;have N:w3.cell? (aA A.Q 12410)=some (.slice (some (aA g 0)) s.bO.length S):=by
   exact cG.out
  have J:=b4 A.Q (eX cj);have q1:∀q,q<w3.heap.size->q≠A.Q->(∀v,w3.cell? (aA A.Q 12410)=some v->v.ownBlock≠some q)->w4.heap[q]?=w3.heap[q]?:=λq U cB W=>b4 q (λe=>W _ N (e▸rfl));have q2:∀i,i≠12410->w4.cell? (aA A.Q i)=w3.cell? (aA A.Q i):=λi _=>aa J;have q3:∀i,w4.frozen? (aA A.Q i)=w3.frozen? (aA A.Q i):=λi=>aG J;have q4:w4.cell? (aA A.Q 12410)=some (.slice (some (aA g 0)) s.bO.length S):=(aa J).trans N;have q5:w4.ownsRow (A.Q+1) 45 10 (.slice (some (aA g 0)) s.bO.length S) L2.length (fq L2):=co▸C;have q6:∀q,(Value.slice (some (aA g 0)) s.bO.length S).ownBlock=some q->q<w3.heap.size->∃v,w3.cell? (aA A.Q 12410)=some v/\v.ownBlock=some q:=λq U _=>⟨_,N,U⟩;obtain⟨Z1,Z2⟩:=bF.Z X m4.1 m4.2.1 m4.2.2 ak q1 q2 q3 (X.b.b.e J) q4 q5 q6;obtain⟨Z3,Z4⟩:=Z1.ai Y (-1);have HF:Hid (bF (w4.setCell (aA A.G (k*4+3)) (iI (-1))) A (s.V k)/\Fz A s w A (s.V k) (w4.setCell (aA A.G (k*4+3)) (iI (-1)))):=by
   have e:s.V k = {s with bO:=L2,bm:=cq s.bm k {s.bm k with kH:=-1} }:=by
    rw[r.out,H.out,aH hov,aH hov,M]
   rw[e];exact⟨Z3,(P.out.2.e Z2).e Z4⟩
  have dd:Hid (w3.setCell (aA g (c*10+8)) (iI s.cm)=w4):=p;clear q1 q2 q3 q4 q5 q6 Z1 Z2 Z3 Z4 X N J F C cW cl b4 s4 m4 p M co r H l P HW;go_wp2;go_end0;have p:=dd.out;subst p;exact⟨rfl,HF.out⟩
 |false=>
  rw[hov]at y5;have HF:Hid (bF w3 A (s.V k)/\Fz A s w A (s.V k) w3):=by
   have e:s.V k = {s with bO:=L}:=by
    rw[r.out,H.out,ay (by rw[hov];decide),ay (by rw[hov];decide)];have:cq s.bm k {s.bm k with kH:=(s.bm k).kH} = s.bm:=by
     funext j;unfold cq;split;rename_i e;rw[e];rfl
    rw[this]
   rw[e];exact P.out
  go_wp2;go_end0;exact⟨rfl,HF.out⟩
def Ha{s:Wd}(h:bF w A s)(a:k<s.n)(c:(s.bm k).kH<s.bO.length):
  Calls prog 73 #[tp A.Q,iI k] w λe b=>e=.returned (.tuple #[])/\bF b A (s.V k)/\Fz A s w A (s.V k) b:=by
 by_cases hc:(s.bm k).kH<0;exact WQ h a hc;exact Tk k (s.bm k).kH.toNat h a ak ak
def Lm(A:Wa)(s:Wd)(k C:Nat)(w:Ba)(h:bF w A s)(d:k<s.n)(v:fV s C)(M:C<=100000000000):
  Calls prog 62 #[tp A.Q,iI k] w λe f=>e=.returned (.tuple #[])/\bF f A (s.b5 k)/\Fz A s w A (s.b5 k) f:=by
 have j:=h.b.h;have c0:=(h.e k d).b;have c1:=(h.e k d).h;have N:=h.B;have x:(0:Int)<=(k:Int):=ak;have y:(k:Int)<(s.n:Int):=ak;have a:=v.s k d;have l:=Od (h.o k d).I a.k.h (jd a.k.w) a.b (jd a.e);let ⟨z,D⟩:=a.k.Z a.b a.e
 have m:=Gm a.k (s.bm k).fo;have g:bF w.drew A s/\Fz A s w A s w.drew:=h.h (au _ _).drew

 go_in;go_upto_region 0 with fail
 refine Gen.start (S:=λf=>f.cell? (aA A.Q 12409)=some (.slice (some (aA A.G 0)) s.n s.n)/\cC f (aA A.G (k*4)) (tp (A.c k))/\cC f (aA A.G (k*4+1)) (iI (s.bm k).fo)) bt ⟨j,c0,c1⟩ (λqH=>?_);refine tz ?_;refine on 17 λK p=>?_;go_simp;apply l.mono;rintro e w2⟨E,rfl,q,r,t⟩;let ⟨i,F⟩:=g.1.O d r t
 have d1:=(i.e k d).h;have u:(s.ac k ((s.bm k).k.ah (s.bm k).fo)).bm k = {s.bm k with k:=(s.bm k).k.ah (s.bm k).fo}:=da;rw[u]at d1

 refine p.out _ _ ⟨i.b.h,((i.e k d).b),d1⟩ (λqH=>?_)


 refine la 18 λK p=>?_;go_simp;apply (wM (-1) ((s.bm k).k.ag (s.bm k).fo) _ E w2 i q ak m).mono;rintro e w3⟨rfl,H,J⟩;have L:Hid (bF w3 A (s.b5 k)/\Fz A s w A (s.b5 k) w3):=⟨H,(g.2.e F).e J⟩

 apply p.out _ _;go_wp2;go_end0;exact⟨rfl,L.out⟩
def Af(A:Wa)(s:Wd)(k C:Nat)(w:Ba)(h:bF w A s)(i:k<s.n)(c:fV s C)(v:C<=10000000000):
  Calls prog 25 #[tp A.Q,iI k] w λe f=>e=.returned .nilIface/\bF f A (s.aw k)/\Fz A s w A (s.aw k) f:=by
 have g:=kJ k h;have d:s.ah k=true:=by
  unfold Wd.ah;exact aX ⟨ak,ak⟩
 rw[d]at g;have l:=h.b.j;have m:=h.b.e 12411;let ⟨o,p⟩:=h.j (s.cm+1)
 have a:=Lm A {s with cm:=s.cm+1} k (C+1) _ o i c.I ak;have q:IntKind.i64.wrap (s.cm+1)=s.cm+1:=jA (jd c.O) (jd c.V)

 go_in;go_wp2_with fail
 apply g.mono;rintro e w2⟨rfl,rfl⟩;go_wp2_with fail
 apply a.mono;rintro e w3⟨rfl,r,t⟩;have u:Hid (bF w3 A (s.aw k)/\Fz A s w2 A (s.aw k) w3):=⟨r,p.e t⟩;go_wp2;go_ret;exact⟨rfl,u.out⟩
def pD(l:List M):Prop:=∀m∈l,0<=m.c
def pD.e:pD []:=λm a=>by simp at a
def pD.one(h:0<=m.c):pD [m]:=λx a=>by rw[bA.1 a];exact h
def pD.h{a b:List M}(h:pD a)(k:pD b):pD (a++b):=λm c=>(cI.1 c).elim (h m) (k m)
def pH(now:Int):∀(f:Nat) {s:Sv} {B:Nat},kR s B->pD (s.ag o now f).2
 |0,s,B,_=>pD.e
 |f+1,s,B,h=>by
  unfold Sv.ag;split;exact pD.e;let ⟨a,_⟩:=h.j o now
  split;exact pD.e;split;exact pD.e;rename_i m rest b;have d:=a.i o m (by rw[b];exact dj ..);let ⟨k1,_⟩:=j9 (s.e o now).1 m o
  split;exact pD.e;have g:=(a.Z m o d).an (o:=o) (m:=m) (rest:=rest) (k1▸b);intro x k;rcases bG.1 k with q|q
  rw[q];show 0<=m.c;exact XH d;exact pH now f g x q
def sY(s:Sv){a:Int}{hs:0<=a}(now:Int):∀k,pD (s.j a now k).2
 |0=>pD.e
 |k+1=>by
  apply (sY s (hs:=hs) now k).h;split;exact pD.one hs;exact pD.e
def wF(now:Int):∀(a:List Int) (s:Sv),∀c∈(s.O now a).2,c∈a
 | [],s,c,h=>by simp[oI]at h
 |d::a,s,c,h=>by
  rw[lp]at h;split at h;rcases bG.1 h with q|q
  rw[q];exact dj ..;exact cJ _ (wF now a s c q);exact cJ _ (wF now a _ c h)
def Gu(s:Sv){now:Int}:∀c∈(s.e o now).2,∃n:Nat,n<4/\c=(n:Int):=λc h=>by
 unfold Sv.e at h;split at h;simp at h;exact LA (wF now _ s c h)
def G0{s:Sv}(h:kR s B)(a:ZS m)(now:Int):pD (s.an m now).2:=by
 unfold Sv.an;split;exact pD.e;rename_i g;have hc:0<=m.c:=ak;split;exact pD.one hc;split;unfold Sv.ab;split;exact pD.one hc;split;exact pD.e;split;exact pD.e;have d:=h.ab (m:=m) (o:=m.o.toNat) ⟨ak,a.1,a.2.1,a.2.2,ak⟩;refine pD.h (pH now _ d) λx f=>?_;obtain⟨c,b,rfl⟩:=ed.1 f;obtain⟨n,_,rfl⟩:=Gu _ c b;show (0:Int)<=(n:Int);omega;split;unfold Sv.ah;split;exact sY s (hs:=by omega) now 8;split<;>exact pD.one hc;split;unfold Sv.aq;split;exact pH now _ (h.H);exact pD.e;exact pD.e
def xF{s:Sv}(h:kR s B)(now:Int):∀k,pD (s.ac now k).2
 |0=>pD.e
 |k+1=>(xF h now k).h (pH (o:=k) now _ (kR.I h now k).1)
def bF.an{w':Ba}{s:Wd}{v:Sv}(h:bF w A s)(l:s.sv=some v)(hF:Fs A.a w w'){m:Sv}(r:w.heap.size<=g)(n:¬eM w' A.a g):¬wfoot w' A (s.Z m) g:=λf=>by
 have p:=h.I;have y:=h.u.H;have u:=h.t v l;rcases f with f|f|⟨v,b,c⟩|⟨i,d,f⟩|⟨i,d,f⟩|⟨b,c⟩
 omega;omega;have e:w'.cell? (aA A.Q 12410)=w.cell? (aA A.Q 12410):=by rw[<-u.q];exact hF.s _ ak
 obtain⟨z,j,k⟩:=h.x;rw[e,j]at b;injection b with b
 subst b;have:=(bj k g c).2;omega;have:=(h.o i d).H.1;omega;have:=(h.o i d).H.2;omega;exact n c
def AP{s:Wd}(h:bF w A s)(hB:fV s C)(hC:C<=100000000000)(R:iH m=true):
  Calls prog 65 #[tp A.Q,Wire.M.ab m] w λe q=>e=.returned (.tuple #[])/\bF q A (s.H m)/\Fz A s w A (s.H m) q:=by
 have F:FF w (dL w m.k m.c m.n m.e m.s m.o m.v m.l m.d):=(au _ _).alloc (aj _) _;have T:MB (dL w m.k m.c m.n m.e m.s m.o m.v m.l m.d) w.heap.size m:=gF w;let ⟨E,x2⟩:=h.h F
 unfold dL at *;unfold Wire.M.ab;cases hs:s.sv with
 |none=>
  have U:Hid (s.H m=s):=by unfold Hid Wd.H;rw[hs]
  have r:=pU E;rw[hs]at r;have P:Hid (bF (dL w m.k m.c m.n m.e m.s m.o m.v m.l m.d) A s/\Fz A s w A s (dL w m.k m.c m.n m.e m.s m.o m.v m.l m.d)):=⟨E,x2⟩;unfold dL at P;go_in;go_wp2_with fail
  apply r.mono;rintro e w2⟨rfl,rfl⟩;go_wp2;go_end0;rw[U.out];exact⟨rfl,P.out⟩
 |some v=>
  have V:=(h.t v hs).b.O F (aj _);have W:w.heap.size<(w.alloc (.cells #[iI m.k,iI m.c,iI m.n,iI m.e,iI m.s,iI m.o,iI m.v,.bool m.l,.string m.d] 129)).heap.size:=aY;have U:Hid (s.H m=s.av (v.an m s.dJ)):=by unfold Hid Wd.H;rw[hs]
  go_in;go_upto_region 1 with fail
  generalize w.alloc (.cells #[iI m.k,iI m.c,iI m.n,iI m.e,iI m.s,iI m.o,iI m.v,.bool m.l,.string m.d] 129)=w1 at *;have r:=pU E;rw[hs]at r;have ⟨b0,b1,b2,b3,b4,b5,b6,b7,b8⟩:=T








  have z:=E.b.o;have X:=E.b.p;rw[hs]at z;unfold LI at z;let ⟨Y,z2⟩:=E.h (au w1.heap.size w1).drew
  have u:=Y.t v hs;have G:=OJ u.b (hB.a8 hC hs) (lL R).1;unfold Wire.M.ab at G;have B:=(hB.J v hs).1;have Z:=JO B m s.dJ;have ad:=G0 B (lL R).1 s.dJ;have a0:=(B.ae (lL R).1 s.dJ).2;have I:=ub v m s.dJ;go_wp2_with fail
  apply r.mono;rintro e w2⟨rfl,rfl⟩;go_upto_region 2 with fail
  refine Gen.start (S:=λq=>cC q (FI w 0) (iI m.k)/\cC q (FI w 1) (iI m.c)/\cC q (FI w 2) (iI m.n)/\cC q (FI w 3) (iI m.e)/\cC q (FI w 4) (iI m.s)/\cC q (FI w 5) (iI m.o)/\cC q (FI w 6) (iI m.v)/\cC q (FI w 7) (.bool m.l)/\cC q (FI w 8) (.string m.d)/\cC q (aA A.Q 12407) (tp A.a.S)/\cC q (aA A.Q 12408) (iI s.dJ)) bt ⟨b0,b1,b2,b3,b4,b5,b6,b7,b8,z,X⟩ (λqH=>?_);refine tz ?_;refine on 10 λK hK=>?_;go_simp;apply G.mono;rintro e w3⟨v3,rfl,D⟩;let ⟨y1,y2⟩:=Y.af hs D.h D.e I.1 I.2
  have f:=MB.H (w:=w2.drew) ⟨b0,b1,b2,b3,b4,b5,b6,b7,b8⟩ D.e W V;have L:=y1.b.o;have N:=y1.b.p;have aS:=xz (v.an m s.dJ).1 y1 rfl D.b.b (λg hg=>Y.an hs D.e (bj D.b.b g hg).1 (D.b.e g hg)) ak Z ad

  refine hK.out _ _ ⟨f.y,f.i,f.u,f.j,f.p,f.h,f.t,f.x,f.A,L,N⟩ (λqH=>?_)

  refine la 11 λK hK=>?_;go_simp;apply aS.mono;rintro e w4⟨rfl,q1,q2⟩;have P:Hid (bF w4 A (s.H m)/\Fz A s w A (s.H m) w4):=by
   rw[U.out];exact⟨q1,((x2.e z2).e y2).e q2⟩

  apply hK.out _ _;go_wp2;go_end0;exact⟨rfl,P.out⟩
def TC(t:Int):∀(l:List M) (s:Wd),(s.O t l).n=s.n
 | [],s=>rfl
 |m::l,s=>by
  show ((s.af t m).O t l).n=s.n;rw[TC t l];unfold Wd.af;split<;>rfl
def Bo{s:Wd}{k:Int}(m:M)(h:bF w A s)(g:s.ah k=false):
  Calls prog 66 #[tp A.Q,iI k,Wire.M.ab m] w λe a=>e=.returned (.tuple #[])/\bF a A s/\Fz A s w A s a:=by
 let ⟨b,i⟩:=h.h (show FF w (dL w m.k m.c m.n m.e m.s m.o m.v m.l m.d) from(au _ _).alloc (aj _) _)
 have f:=kJ k b;rw[g]at f;have j:Hid (bF (dL w m.k m.c m.n m.e m.s m.o m.v m.l m.d) A s/\Fz A s w A s (dL w m.k m.c m.n m.e m.s m.o m.v m.l m.d)):=⟨b,i⟩;unfold dL at *;unfold Wire.M.ab;go_in;go_wp2_with fail
 apply f.mono;rintro e w2⟨rfl,rfl⟩;go_wp2;exact bn (v:=.tuple #[]) (by simp[results,results66,go_sem]) rfl ⟨rfl,j.out⟩
def AO{s:Wd}(k:Nat)(h:bF w A s)(g:k<s.n)(R:fV s C)(hC:C<=10000000000)(p:iH m=true):
  Calls prog 66 #[tp A.Q,iI k,Wire.M.ab m] w λe a=>e=.returned (.tuple #[])/\bF a A (s.an k m)/\Fz A s w A (s.an k m) a:=by
 have x:FF w (dL w m.k m.c m.n m.e m.s m.o m.v m.l m.d):=(au _ _).alloc (aj _) _;have y:MB (dL w m.k m.c m.n m.e m.s m.o m.v m.l m.d) w.heap.size m:=gF w;let ⟨u,W⟩:=h.h x
 have X:=(h.o k g).H;have z:w.heap.size<(dL w m.k m.c m.n m.e m.s m.o m.v m.l m.d).heap.size:=aY;have T:=kJ k u;have D:s.ah k=true:=by
  unfold Wd.ah;exact aX ⟨ak,ak⟩
 rw[D]at T;unfold dL at *;unfold Wire.M.ab;have Y:(0:Int)<=(k:Int):=ak;have Z:(k:Int)<(s.n:Int):=ak;have n4:=h.B;have i:=R.s k g;have ad:=(i.k.O m ⟨(lL p).2,(lL p).1.2.2⟩).2;go_in;go_upto_region 1 with fail
 generalize w.alloc (.cells #[iI m.k,iI m.c,iI m.n,iI m.e,iI m.s,iI m.o,iI m.v,.bool m.l,.string m.d] 129)=w1 at *;let ⟨U,z2⟩:=u.h (au w1.heap.size w1).drew
 have q:=SZ m (U.o k g) (i.k.ok ak) (lL p).2;unfold Wire.M.ab at q;have ⟨b0,b1,b2,b3,b4,b5,b6,b7,b8⟩:=y









 go_wp2_with fail
 apply T.mono;rintro e w2⟨rfl,rfl⟩

 go_upto_region 2 with fail
 refine Gen.start (S:=λa=>cC a (FI w 0) (iI m.k)/\cC a (FI w 1) (iI m.c)/\cC a (FI w 2) (iI m.n)/\cC a (FI w 3) (iI m.e)/\cC a (FI w 4) (iI m.s)/\cC a (FI w 5) (iI m.o)/\cC a (FI w 6) (iI m.v)/\cC a (FI w 7) (.bool m.l)/\cC a (FI w 8) (.string m.d)/\a.cell? (aA A.Q 12409)=some (.slice (some (aA A.G 0)) s.n s.n)/\cC a (aA A.G (k*4)) (tp (A.c k))) bt ⟨b0,b1,b2,b3,b4,b5,b6,b7,b8,u.b.h,((u.e k g).b)⟩ (λqH=>?_);refine tz ?_;refine on 10 λK E=>?_;go_simp;apply q.mono;rintro e w3⟨v3,rfl,F,J,r⟩;let ⟨L,y2⟩:=U.O g J r
 have f:∀j,w3.cell? (FI w j)=w2.cell? (FI w j):=λj=>aa (r.b _ z fS);have N:=wM (-1) ((s.bm k).k.I m).2 _ v3 w3 L F ak (G6 (s.bm k).k m);have P:fV ((s.ac k ((s.bm k).k.I m).1).O (-1) ((s.bm k).k.I m).2) (C+1):=fV.af _ ((R.e (cL C)).ao (i.k.O m ⟨(lL p).2,(lL p).1.2.2⟩).1)

 refine E.out _ _ ⟨(f _).trans b0,(f _).trans b1,(f _).trans b2,(f _).trans b3,(f _).trans b4,(f _).trans b5,(f _).trans b6,(f _).trans b7,(f _).trans b8,L.b.h,((L.e k g).b)⟩ (λqH=>?_)


 refine la 11 λK E=>?_;go_simp;apply N.mono;rintro e w4⟨rfl,q1,q2⟩;have t:k<((s.ac k ((s.bm k).k.I m).1).O (-1) ((s.bm k).k.I m).2).n:=by rw[TC];exact g

 apply E.out _ _


 go_wp2_with fail
 apply (Ha q1 t (P.s k t).j).mono;rintro e V⟨rfl,r1,r2⟩;have HF:Hid (bF V A (s.an k m)/\Fz A s w A (s.an k m) V):=⟨r1,(((W.e z2).e y2).e q2).e r2⟩;go_wp2;go_end0;exact⟨rfl,HF.out⟩
def rK(h:iH m=true):fO (dq m.h)=m.h:=Num.tR (Num.tQ h)
def AM(h:iH m=true):(dq m.h).size<=64:=by
 have a:=(Wire.wD h).1;rw[<-(rK h),Num.dB]at a;exact a
def wL:∀(l:List (Int×M)) (k:Nat),(l.map sE).eraseIdx k=(l.eraseIdx k).map sE
 | [],_=>rfl
 |_::_,0=>rfl
 |a::l,k+1=>by
  rw[bT,W7,W7,bT,wL l k]
def xA{s:Wd}(h:bF w A s)(Z:k<s.dP.length)(W:fV s C)(hC:C<=1000000000):
  Calls prog 26 #[tp A.Q,iI k] w λe w'=>e=.returned .nilIface/\bF w' A (s.j k)/\Fz A s w A (s.j k) w':=by
 let ⟨p,hp⟩:∃p,s.dP[k]=p:=⟨_,rfl⟩
 have G:iH p.2=true:=by rw[<-hp];exact W.t _ (bp Z)
 have ad:k<(s.dP.map sE).length:=by rw[bz];exact Z
 have J:(s.dP.map sE)[k]=(p.1,dq p.2.h):=by rw[Hy,hp];rfl
 have g:=Net.FS h.p ad (by rw[J];have:=AM G;dsimp only;omega);rw[J,wL]at g;dsimp only at g;rw[rK G]at g;have HE:Hid (s.j k=({s with dP:=s.dP.eraseIdx k,cm:=s.cm+1}:Wd).b1 p.1 p.2):=by
  unfold Hid Wd.j;rw[aE Z,hp]
 have cl:IntKind.i64.wrap (s.cm+1)=s.cm+1:=jA (jd W.O) (jd W.V);have K:fV ({s with dP:=s.dP.eraseIdx k,cm:=s.cm+1}:Wd) (C+1):=(W.a9 k).I;let ⟨t,m⟩:=p
 dsimp only at G g HE

 go_in;go_wp2_with fail
 apply g.mono;rintro e w2⟨X,rfl,u,aS,a0⟩;let ⟨x1,x2⟩:=h.V aS a0
 let ⟨ao,cc,L,_⟩:=id u

 subst L;go_upto_region 4 with fail
 generalize L:Value.slice ao m.h.length cc=X at *;generalize z:w2.alloc (.cells #[.int .i64 t,X] 125)=w3;have N:FF w2 w3:=by rw[<-z];exact(au _ _).alloc (aj _) _
 have bm:w3.heap.size=w2.heap.size+1:=by rw[<-z];simp
 have g0:w3.cell? (FI w2 0)=some (iI t):=by rw[<-z];exact bN _ _ _ _ _ _ (bo w2 _)
 have g1:w3.cell? (FI w2 1)=some X:=by rw[<-z];exact bN _ _ _ _ _ _ (bo w2 _)

 let ⟨Y,y2⟩:=x1.h N
 have bO:=Y.b.j;have co:=Y.b.e 12411;dsimp only at bO;let ⟨z1,z2⟩:=Y.j (s.cm+1)
 have bR:A.Q≠w2.heap.size:=by have:=x1.I;omega
 have ci:Hid (Wire.ru (w3.setCell (aA A.Q 12411) (iI (s.cm+1))) w2.heap.size X m.h):=by
  let ⟨cj,c',e1,e2,e3,e4,e5⟩:=u
  refine⟨cj,c',e1,e2,e3,e4,λh0=>?_⟩;let ⟨b,B,f1,f2,f3⟩:=e5 h0
  refine⟨b,B,f1,f2,λj hj=>?_⟩;have P:w3.cell? (aA b (B+j))=some (.int .u8 (m.h.getD j 0)):=(N.cell (p:=(aA b (B+j))) f2).trans (f3 j hj);rw[am _ _ _ _ (by
   intro q;injection q with D E
   subst D;have H:=Y.b.j;rw[E,P]at H;injection H with H
   injection H with H _
   cases H)]
  exact P
 have R:(w3.setCell (aA A.Q 12411) (iI (s.cm+1))).heap[w2.heap.size]?=w3.heap[w2.heap.size]?:=aQ w3 (aA A.Q 12411) _ w2.heap.size (eX bR);have k0:=(aa (a:=(FI w2 0)) R).trans g0;have k1:=(aa (a:=(FI w2 1)) R).trans g1;have cp:(w3.setCell (aA A.Q 12411) (iI (s.cm+1))).heap.size=w2.heap.size+1:=dD bm;have HZ:Hid (bF (w3.setCell (aA A.Q 12411) (iI (s.cm+1))) A {s with dP:=s.dP.eraseIdx k,cm:=s.cm+1}/\Fz A s w A {s with dP:=s.dP.eraseIdx k,cm:=s.cm+1} (w3.setCell (aA A.Q 12411) (iI (s.cm+1)))):=⟨z1,(x2.e y2).e z2⟩;go_upto_region 5 with fail
 generalize w3.setCell ⟨A.Q,12411,none⟩ (.int .i64 (s.cm+1))=w4 at *;have x:=Wire.R8 G ci.out ak;unfold Wire.M.ab at x;go_wp2_with fail
 apply x.mono;rintro e S⟨rfl,F⟩;have cs:=F.size;have l0:=(F.cell (p:=(FI w2 0)) jB).trans k0;let ⟨a1,a2⟩:=HZ.out.1.h F
 have a3:=HZ.out.2.e a2;go_upto_region 8 with fail
 generalize z:S.alloc (.cells #[.int .i64 m.k,.int .i64 m.c,.int .i64 m.n,.int .i64 m.e,.int .i64 m.s,.int .i64 m.o,.int .i64 m.v,.bool m.l,.string m.d] 129)=w6;have T:FF S w6:=by rw[<-z];exact(au _ _).alloc (aj _) _
 have ck:MB w6 S.heap.size m:=by rw[<-z];exact gF S
 have l1:=(T.cell (p:=(FI w2 0)) jB).trans l0;let ⟨d1,d2⟩:=a1.h T
 have d3:=a3.e d2;have ⟨b0,b1,b2,b3,b4,b5,b6,b7,b8⟩:=ck








 by_cases ht:t = -1
 .subst ht;have r :Hid _:= HE.out.trans (aH rfl);have f:=AP d1 K ak G;unfold Wire.M.ab at f;go_wp2_with fail
  apply f.mono;rintro e y⟨rfl,D,E⟩;have U:Hid (bF y A (s.j k)/\Fz A s w A (s.j k) y):=by
   rw[r.out];exact⟨D,d3.e E⟩
  go_wp2;go_ret;exact⟨rfl,U.out⟩
 .have gt:(t == -1)=false:=dD ht;have r :Hid _:= HE.out.trans (ay ht);cases hh:({s with dP:=s.dP.eraseIdx k,cm:=s.cm+1}:Wd).ah t with
  |false=>
   have f:=Bo m d1 hh;unfold Wire.M.ab at f;go_wp2_with fail
   apply f.mono;rintro e y⟨rfl,D,E⟩;have U:Hid (bF y A (s.j k)/\Fz A s w A (s.j k) y):=by
    rw[r.out,hh,ay cn];exact⟨D,d3.e E⟩
   go_wp2;go_ret;exact⟨rfl,U.out⟩
  |true=>
   have ct:0<=t/\t<(s.n:Int):=by
    unfold Wd.ah at hh;simpa using hh
   obtain⟨i,rfl⟩:∃i:Nat,t=i:=⟨t.toNat,ak⟩;have f:=AO i d1 (by show i<s.n;omega) K ak G;unfold Wire.M.ab at f;go_wp2_with fail
   apply f.mono;rintro e y⟨rfl,D,E⟩;have U:Hid (bF y A (s.j k)/\Fz A s w A (s.j k) y):=by
    rw[r.out,hh,aH rfl];exact⟨D,d3.e E⟩
   go_wp2;go_ret;exact⟨rfl,U.out⟩
def Te{s:Wd}(h:bF w A s)(l:k<s.dP.length)(q:fV s C):
  Calls prog 27 #[tp A.Q,iI k] w λe n=>e=.returned .nilIface/\bF n A (s.ca k)/\Fz A s w A (s.ca k) n:=by
 have d:iH s.dP[k].2=true:=q.t _ (bp l);have f:k<(s.dP.map sE).length:=by rw[bz];exact l
 have b:(s.dP.map sE)[k]=(s.dP[k].1,dq s.dP[k].2.h):=by rw[Hy];rfl
 have a:=Net.FS h.p f (by rw[b];have:=AM d;dsimp only;omega);rw[b,wL]at a;dsimp only at a;rw[rK d]at a;generalize s.dP[k]=p at *;obtain⟨t,m⟩:=p;dsimp only at d a;go_in;go_wp2_with fail
 refine a.mono ?_;rintro e w2⟨z,rfl,c,g,i⟩;obtain⟨r,u⟩:=h.V g i;obtain⟨ao,cc,j,_⟩:=id c;have v:Hid (∀o,bF (w2.alloc o) A (s.ca k)/\Fz A s w A (s.ca k) (w2.alloc o)):=λo=>by
  obtain⟨x,y⟩:=r.h ((au w2.heap.size w2).alloc (aj _) o);exact⟨x,u.e y⟩
 subst j;go_wp2;go_ret;exact⟨rfl,v.out _⟩
def Pi{s:Wd}(h:bF w A s)(c:k<s.dP.length):
  Calls prog 28 #[tp A.Q,iI k] w λe j=>e=.returned .nilIface/\bF j A (s.ao k)/\Fz A s w A (s.ao k) j:=by
 have d:k<(s.dP.map sE).length:=by rw[bz];exact c
 have a:=Net.Nz h.p d;have b:Net.RE (s.dP.map sE) (s.dP.map sE)[k]=(s.ao k).dP.map sE:=by
  unfold Net.RE Wd.ao;rw[bz,aE c,(Hy ..)];dsimp only;split;rw[dE];rfl;rfl
 rw[b]at a;have f:({s with dP:=(s.ao k).dP}:Wd)=s.ao k:=by
  unfold Wd.ao;rw[aE c];dsimp only;split<;>rfl
 go_in;go_wp2_with fail
 refine a.mono ?_;rintro e w2⟨rfl,g,i⟩;obtain⟨l,m⟩:=h.V g i;have n:Hid (bF w2 A (s.ao k)/\Fz A s w A (s.ao k) w2):=by rw[<-f];exact⟨l,m⟩
 go_wp2;go_ret;exact⟨rfl,n.out⟩
def wt(m:M):Nat:=if m.k=3 then 17 else if m.k=2 then 12 else if m.k=1\/m.k=9 then 2 else 1
def Ks(m:M):1<=wt m:=by unfold wt;split<;>(try split)<;>(try split)<;>omega
def abj(m:M):wt m<=17:=by unfold wt;split<;>(try split)<;>(try split)<;>omega
def xG(l:List M):Nat:=(l.map wt).sum
theorem gv:xG []=0:=rfl
def ik(m:M)(l:List M):xG (m::l)=wt m+xG l:=by simp[xG]
def Eo(a b:List M):xG (a++b)=xG a+xG b:=by simp[xG]
def kg(l:List (Int×M)):Nat:=xG (l.map (·.2))
def TN(a b:List (Int×M)):kg (a++b)=kg a+kg b:=by simp[kg,Eo]
def mf(f:Nat->List M):Nat:=(f 0).length+(f 1).length+(f 2).length+(f 3).length+(f 4).length+(f 5).length+(f 6).length+(f 7).length
def CR(f:Nat->List M)(a:o<8)(l:List M):mf (cq f o l)+(f o).length=mf f+l.length:=by
 unfold mf cq;match o,a with
 |0,_=>simp;omega
 |1,_=>simp;omega
 |2,_=>simp;omega
 |3,_=>simp;omega
 |4,_=>simp;omega
 |5,_=>simp;omega
 |6,_=>simp;omega
 |7,_=>simp;omega
def Wd.mu(w:Wd):Nat:=kg w.dP+2*(match w.sv with
 |none=>0
 |some v=>mf v.waits)
def Cu(o:Nat)(now:Int):∀(f:Nat) (s:Sv) (x:Nat),x≠o->(s.ag o now f).1.waits x=s.waits x
 |0,s,x,_=>rfl
 |f+1,s,x,b=>by
  unfold Sv.ag;let ⟨a,_⟩:=jM s o now
  split;rfl;split;rw[a];split;rw[a];rename_i m rest _;let ⟨k1,_⟩:=j9 (s.e o now).1 m o
  split;rw[k1,a];rw[Cu o now f _ x b];show cq _ o rest x=_;rw[dM b,k1,a]
def Ll(o:Nat)(now:Int):∀(f:Nat) (s:Sv),xG (s.ag o now f).2=(s.ag o now f).2.length
 |0,s=>rfl
 |f+1,s=>by
  unfold Sv.ag;split;rfl;split;rfl;split;rfl;split;rfl;dsimp only;rw[ik,Ll o now f,bJ];show wt _+_=_;rw[show wt (Sv.av _ _ _)=1 from rfl];omega
def Ae{s:Sv}(h:kR s B)(a:o<8)(now:Int):xG (s.H o now).2+2*mf (s.H o now).1.waits<=2*mf s.waits:=by
 have c:=Ll o now ((s.waits o).length+1) s;have d:=(kR.ah o now ((s.waits o).length+1) h).2;have e:(s.H o now).1.waits=cq s.waits o ((s.H o now).1.waits o):=by
  funext x;unfold cq;split;rename_i q;rw[q];rename_i q;exact Cu o now _ s x q
 have b:=CR s.waits a ((s.H o now).1.waits o);rw[<-e]at b;unfold Sv.H at *;omega
def AH(s:Sv)(a now:Int):∀k,xG (s.j a now k).2<=2*k/\(s.j a now k).1.waits=s.waits
 |0=>⟨by simp[Sv.j,gv],rfl⟩
 |k+1=>by
  obtain⟨c,b⟩:=AH s a now k;refine⟨?_,?_⟩;show xG ((s.j a now k).2++_)<=_;rw[Eo];split;rw[ik,gv];show xG _+(2+0)<=_;omega;rw[gv];omega;show ((s.j a now k).1.e k now).1.waits=_;rw[(jM _ k now).1,b]
def WF{s:Sv}(h:kR s B)(f:ZS m)(now:Int):xG (s.an m now).2+2*mf (s.an m now).1.waits+1<=wt m+2*mf s.waits:=by
 have q:=Ks m;unfold Sv.an;split;rw[gv];dsimp only;omega;rename_i r;have g:m.o.toNat<8:=ak;split;rename_i b;have a:wt m=2:=by unfold wt;rw[b];rfl
 unfold Sv.aw Sv.a5

 rw[ik,gv,a];show (1:Nat)+0+_+1<=_;split<;>(try dsimp only)<;>omega;split;rename_i b;have a:wt m=12:=by unfold wt;rw[b];rfl
 rw[a];unfold Sv.ab;split;rw[ik,gv];show (1:Nat)+0+_+1<=_;dsimp only;omega;split;rw[gv];dsimp only;omega;have i:=h.ab (m:=m) (o:=m.o.toNat) ⟨ak,f.1,f.2.1,f.2.2,ak⟩;have t:mf (s.aU m m.o.toNat).1.waits<=mf s.waits+1:=by
  unfold Sv.aU;split;dsimp only;omega;split;dsimp only;omega;have:=CR s.waits g (s.waits m.o.toNat++[m]);simp at this;show mf (cq s.waits m.o.toNat (s.waits m.o.toNat++[m]))<=_;omega
 split;rw[gv];dsimp only;omega;have k:=Ae i g now;have d:=(i.h m.o.toNat now).1;have u:=(d.j m.o.toNat now).2;unfold Sv.a2

 rw[Eo,((jM ((s.aU m m.o.toNat).1.H m.o.toNat now).1 m.o.toNat now).1)];have n:∀(l:List Int) (x:Sv),xG (l.map λc=>x.Z c m.o.toNat)=2*l.length:=by
  intro l x;induction l with
  |nil=>rfl
  |cons c l p=>
   rw[bT,ik,p,bJ];show 2+_=_;omega
 rw[n];omega;split;rename_i b;have a:wt m=17:=by unfold wt;rw[b];rfl
 let ⟨k,d⟩:=AH s (bK m.c:Nat) now 8
 unfold Sv.ah;split;rw[d,a];omega;split;rw[ik,gv,a];show (1:Nat)+0+_+1<=_;rw[d];omega;rw[ik,gv,a];show (1:Nat)+0+2*mf (s.j (bK m.c:Nat) now 8).1.waits+1<=_;rw[d];omega;split;unfold Sv.aq;split;have:=Ae (h.H (c:=bK m.c) (o:=m.o.toNat)) g now;show _+_+1<=_+2*mf s.waits;have e:(s.a3 (bK m.c) m.o.toNat).waits=s.waits:=rfl;rw[e]at this;omega;rw[gv];dsimp only;omega;rw[gv];dsimp only;omega
def LF(w:Wd)(t:Int)(m:M):kg (w.af t m).dP<=kg w.dP+wt m/\(w.af t m).sv=w.sv:=by
 unfold Wd.af;split;refine⟨?_,rfl⟩;show kg (w.dP++[(t,m)])<=_;rw[TN];simp[kg,xG];exact⟨ak,rfl⟩
def Hi(t:Int):∀(l:List M) (w:Wd),kg (w.O t l).dP<=kg w.dP+xG l/\(w.O t l).sv=w.sv
 | [],w=>⟨by rw[gv];exact aj _,rfl⟩
 |m::l,w=>by
  let ⟨c,a⟩:=LF w t m
  let ⟨d,b⟩:=Hi t l (w.af t m)
  rw[ik];exact⟨by show kg ((w.af t m).O t l).dP<=_;omega,b.trans a⟩
def CQ:∀(l:List M) (w:Wd),kg (w.I l).dP<=kg w.dP+xG l/\(w.I l).sv=w.sv
 | [],w=>⟨by rw[gv];exact aj _,rfl⟩
 |m::l,w=>by
  let ⟨d,a⟩:=LF w (bK m.c:Nat) m
  let ⟨e,b⟩:=CQ l (w.af (bK m.c:Nat) m)
  rw[ik];exact⟨by show kg ((w.af (bK m.c:Nat) m).I l).dP<=_;omega,b.trans a⟩
def Og(w:Wd)(r:Sv×List M):(w.av r).mu<=kg w.dP+xG r.2+2*mf r.1.waits:=by
 let ⟨b,c⟩:=CQ r.2 (w.Z r.1)
 have e:(w.Z r.1).dP=w.dP:=rfl;rw[e]at b;have a:((w.Z r.1).I r.2).sv=some r.1:=c;unfold Wd.av Wd.ae;rw[a];dsimp only;split;unfold Wd.mu;dsimp only;omega;unfold Wd.mu;rw[a];dsimp only;omega
def CF:∀(l:List (Int×M)) (k:Nat) (h:k<l.length),kg (l.eraseIdx k)+wt l[k].2=kg l
 |p::l,0,_=>by
  show kg l+wt p.2=xG (p.2::l.map (·.2));rw[ik];show kg l+_=_+kg l;omega
 |p::l,k+1,h=>by
  have a:k<l.length:=dD h;have b:=CF l k a;show xG (p.2::(l.eraseIdx k).map (·.2))+wt l[k].2=xG (p.2::l.map (·.2));rw[ik,ik];show wt p.2+kg (l.eraseIdx k)+_=_+kg l;omega
def OQ(k:K)(m:M):xG (k.I m).2+1<=wt m:=by
 have b:=Ks m;unfold K.I;split;rename_i h;have a:wt m=2:=by unfold wt;rw[h];rfl
 rw[ik,gv,a];show 1+0+1<=2;omega;split;rw[gv];omega;split;rw[gv];omega;split;rw[gv];omega;split;rw[gv];omega;split<;>(rw[gv];omega)
def WO(w:Wd)(k:Nat):(w.V k).mu=w.mu:=by
 unfold Wd.V;split<;>rfl
def JD{w:Wd}(h:fV w C)(b:k<w.dP.length):(w.j k).mu<w.mu:=by
 have o:=CF w.dP k b;have i:=h.t _ (bp b);have p:=Ks w.dP[k].2;unfold Wd.j;rw[aE b];dsimp only;unfold Wd.b1;split;unfold Wd.H;split;rename_i c;have a:= c;unfold Wd.mu;rw[a];dsimp only;omega;rename_i v c;have a:= c;have d:=Og {w with dP:=w.dP.eraseIdx k,cm:=w.cm+1} (v.an w.dP[k].2 w.dJ);have l:=WF (h.J v a).1 (lL i).1 w.dJ;have e:w.mu=kg w.dP+2*mf v.waits:=by unfold Wd.mu;rw[a]
 have f:({w with dP:=w.dP.eraseIdx k,cm:=w.cm+1}:Wd).dP=w.dP.eraseIdx k:=rfl;rw[f]at d;show (Wd.av _ (v.an w.dP[k].2 w.dJ)).mu<_;omega;split;unfold Wd.an;rw[WO];have d:=Hi (-1) ((w.bm w.dP[k].1.toNat).k.I w.dP[k].2).2 (({w with dP:=w.dP.eraseIdx k,cm:=w.cm+1}:Wd).ac w.dP[k].1.toNat ((w.bm w.dP[k].1.toNat).k.I w.dP[k].2).1);have l:=OQ (w.bm w.dP[k].1.toNat).k w.dP[k].2;obtain⟨m,g⟩:=d;have f:(({w with dP:=w.dP.eraseIdx k,cm:=w.cm+1}:Wd).ac w.dP[k].1.toNat ((w.bm w.dP[k].1.toNat).k.I w.dP[k].2).1).dP=w.dP.eraseIdx k:=rfl;have n:(({w with dP:=w.dP.eraseIdx k,cm:=w.cm+1}:Wd).ac w.dP[k].1.toNat ((w.bm w.dP[k].1.toNat).k.I w.dP[k].2).1).sv=w.sv:=rfl;rw[f]at m;rw[n]at g;show Wd.mu _<_;unfold Wd.mu;rw[g];show kg (Wd.O (({w with dP:=w.dP.eraseIdx k,cm:=w.cm+1}:Wd).ac w.dP[k].1.toNat ((w.bm w.dP[k].1.toNat).k.I w.dP[k].2).1) (-1) ((w.bm w.dP[k].1.toNat).k.I w.dP[k].2).2).dP+_<_;omega;have e:∀x:Nat,kg (w.dP.eraseIdx k)+x<kg w.dP+x:=λx=>ak;exact e _
def LK:∀(l:List (Int×M)),kg l<=17*l.length
 | []=>by simp[kg,xG]
 |p::l=>by
  have a:=abj p.2;have b:=LK l;show xG (p.2::l.map (·.2))<=_;rw[ik,bJ];show wt p.2+kg l<=_;omega
def fV.aU{w:Wd}(h:fV w C):w.mu<=3560:=by
 have b:=LK w.dP;have c:=h.j;unfold Wd.mu;split;omega;rename_i v a;have q:=(h.J v a).1.b;have:=q 0;have:=q 1;have:=q 2;have:=q 3;have:=q 4;have:=q 5;have:=q 6;have:=q 7;unfold mf;omega
def Wd.ag(w:Wd):Wd:=w.a2 w.mu
variable{s:Wd}
def GK(w:Wd)(h:w.dP.length=0):∀f,w.a2 f=w
 |0=>rfl
 |_+1=>aH h
def JE(w:Wd)(h:w.dP.length≠0)(f:Nat):w.a2 (f+1)=(w.j 0).a2 f:=ay h
def fV.aw:∀(f:Nat) {w:Wd} {C:Nat},fV w C->fV (w.a2 f) (C+f)
 |0,_,_,h=>h
 |f+1,w,C,h=>by
  unfold Wd.a2;split;exact h.e ak;exact(fV.aw f (h.ab 0)).e ak
def fV.ah{w:Wd}(h:fV w C):fV w.ag (C+3560):=(fV.aw w.mu h).e (jd h.aU)
structure Da(w wr:World)(A:Wa)(s:Wd)(C:Nat)(g:Nat)(t:Wd):Prop where
 e:bF wr A t
 i:Fz A s w A t wr
 b:fV t (C+(s.mu-g))
 o:t.mu<=g
 j:g<=s.mu
 h:s.ag=t.a2 g
def rG(A:Wa)(s:Wd)(C:Nat)(w:Ba)(h:bF w A s)(hB:fV s C)(hC:C<=900000000):
  Calls prog 36 #[tp A.Q] w λe w'=>e=.returned (.tuple #[])/\bF w' A s.ag/\Fz A s w A s.ag w':=by
 have hmu:=hB.aU;have HD0:Hid (Da w w A s C s.mu s):=⟨h,Fz.j,hB.e ak,aj _,aj _,rfl⟩;go_in;go_wp2;go_loopg [] s.mu (λg wr=>∃t,Da w wr A s C g t)
 case atStart=>exact⟨s,HD0.out⟩
 case round=>
  let ⟨t,D⟩:=hrel
  have hmn:=CL D.e;have hnl:=D.b.j;by_cases hz:t.dP.length=0
  .rw[hz]at hmn;have HF:Hid (bF wr A s.ag/\Fz A s w A s.ag wr):=by
    rw[D.h,GK t hz];exact⟨D.e,D.i⟩
   go_wp2_with fail
   apply hmn.mono;rintro e w2⟨rfl,rfl⟩;go_wp2;go_end0;exact⟨rfl,HF.out⟩
  .let ⟨n,hn⟩:∃n,t.dP.length=n+1:=⟨t.dP.length-1,ak⟩
   rw[hn]at hmn;have hgt:= aX ak;have hde:=xA (k:=0) D.e ak D.b (jd D.j);have hlt:=JD D.b (k:=0) ak;have ⟨_,_,_,hmu2,hle,_⟩:=D

   have HD:Hid (∀w3,bF w3 A (t.j 0)->Fz A t wr A (t.j 0) w3->Da w w3 A s C (gk-1) (t.j 0)):=λw3 h1 h2=>by
    refine⟨h1,D.i.e h2,(D.b.ab 0).e ak,ak,ak,?_⟩;rw[D.h];let ⟨f,hf⟩:∃f,gk=f+1:=⟨gk-1,ak⟩
    rw[hf,JE t hz];rfl
   have hg0:0<gk:=ak;go_wp2_with fail
   apply hmn.mono;rintro e w2⟨rfl,rfl⟩;go_wp2_with fail
   apply hde.mono;rintro e w3⟨rfl,q1,q2⟩;go_wp2_with fail
   go_roundg (gk-1)
   case measure=>omega
   case rel=>exact⟨_,(HD.out w3 q1 q2)⟩
end Wld
end Go.Proofs.YtbebfliimjjohabGreatDoor
