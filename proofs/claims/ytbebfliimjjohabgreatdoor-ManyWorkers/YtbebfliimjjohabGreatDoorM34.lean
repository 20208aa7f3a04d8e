/- Parts of the proof. -/
import Derived.Test.YtbebfliimjjohabGreatDoorM33
import Derived.Laws.CopyOwn
set_option maxRecDepth 100000
set_option maxHeartbeats 8000000
set_option linter.all false
open Go.Proofs.Tryz
namespace Go.Proofs.YtbebfliimjjohabGreatDoor open Gen (la on tk tz)
open Go.RowKit Go.Maps
open Lease (Ob fN ic cy jm fY eI de bQ dW mx)
open Cache (tp aZ bq)
open Num (M iH dq fO)
open Wal (R du bM Oq Fw cO)
open Net (eD gJ dp jW)
open Bare (iZ)
namespace Wld
variable{b tob tv td:Int}{l:List Int}{B C k i G n Q N:Nat}{f:Nat->Int}{m c:Nat->Nat}{A A':Wa}{w w' wr:Ba}
def OG(n:Int)(w:Ba)(h0:0<=n)(a:n<=137438953472):Calls prog 70 #[iI n] w λe w'=>e=.returned (.bool false)/\w'=w:=by
 have b:decide (n<0)=false:=aK ak;have c:decide ((137438953472:Int)<n)=false:=aK ak;go_in;go_wp2;go_ret;exact⟨rfl,rfl⟩
def JP{v:Dv}(h:de w B v l)(r:l.length<=100)(j:∀x∈l,0<=x/\x<=137438953472):
  Calls prog 136 #[v,.func (.func 70) #[] #[]] w λe w'=>e=.returned (iI (-1))/\w'=w:=by
 obtain⟨ao,c,rfl,n⟩:=h.e;go_in;go_wp2;go_loopw [8] (λi wr=>∃k:Nat,k<=l.length/\i=iI k/\wr=w) (λi _=>l.length-(intOf i).toNat)
 case atStart=>exact⟨0,ak,rfl,rfl⟩
 case round=>
  obtain⟨k,s,rfl,rfl⟩:=hrel;by_cases d:k<l.length
  .obtain⟨g,rfl,b⟩:=n ak;have f:(k:Int)<(l.length:Int):=ak;have hc:=b k d;let ⟨o,p⟩:=j l[k] (bp d)
   have a:=λw=>OG l[k] w o p;let ⟨y,q⟩:∃y,l[k]=y:=⟨_,rfl⟩
   rw[q]at hc a;go_wp2_with fail
   apply (a _).mono;rintro e w'⟨rfl,m⟩;rw[m];go_wp2;go_roundw
   case rel=>exact⟨k+1,ak,by go_num,by first|trivial|rfl⟩
   case measure=>simp[intOf];omega
  .obtain rfl:k=l.length:=ak;have f:¬(l.length:Int)<(l.length:Int):=ak;go_wp2;go_ret;exact⟨rfl,rfl⟩
def Bf{v:Dv}(h:de w B v l)(b:l.length<=100)(a:∀x∈l,0<=x/\x<=137438953472):
  Calls prog 69 #[v,.func (.func 70) #[] #[]] w λe w'=>e=.returned (.bool false)/\w'=w:=by
 go_in;go_wp2_with fail
 apply (JP h b a).mono;rintro e w'⟨rfl,rfl⟩;go_wp2;go_ret;exact⟨rfl,rfl⟩
def Wd.a5(s:Wd)(b:Int)(f:Nat->Int)(j:Nat):Wd:={s with cm:=s.cm+1,dJ:=pT (s.dJ+b),bm:=λk=>if k<j then {s.bm k with fo:=pT ((s.bm k).fo+f k)} else s.bm k}
def Ar(s:Wd)(b:Int)(f:Nat->Int):s.a5 b f 0 = {s with cm:=s.cm+1,dJ:=pT (s.dJ+b)}:=by
 unfold Wd.a5;simp
def JM(s:Wd)(b:Int)(f:Nat->Int)(j:Nat):s.a5 b f (j+1) = {s.a5 b f j with bm:=cq (s.a5 b f j).bm j { (s.a5 b f j).bm j with fo:=pT ((s.bm j).fo+f j)} }:=by
 unfold Wd.a5;congr 1
 funext k;unfold cq;dsimp only;by_cases h:k=j;subst h;simp;by_cases a:k<j;rw[aH ak,ay h,aH a];rw[ay ak,ay h,ay a]
structure Gn(w wr:World)(A:Wa)(s:Wd)(l:List Int)(B:Nat)(v:Value)(b:Int)(f:Nat->Int)(j:Nat):Prop where
 e:bF wr A (s.a5 b f j)
 i:Fz A s w A (s.a5 b f j) wr
 h:de wr B v l
def yl{s s':Wd}{v:Dv}(h:bF w A s)(p:de w B v l)(r:Fz A s w A' s' w'):de w' B v l:=by
 refine aZ p λg y=>?_;let ⟨_,a⟩:=cT p y
 refine r.H a.H (λf=>?_) (λe=>a.j e cn rfl);rcases f with f|f|⟨v,c,d⟩|⟨i,k,f⟩|⟨i,k,f⟩|⟨c,d⟩
 exact a.j h.b.b cn f;exact a.j h.u cn f;let ⟨C,m,n⟩:=h.x
 rw[m]at c;injection c with c
 subst c;exact a.j (cT n d).2 cn rfl;exact a.j (h.o i k).ac cn f;exact(h.o i k).af.e a f.symm;let ⟨v,z⟩:=aP.1 c
 have u:=h.t v z;exact u.b.ag a (by rw[u.q];exact a.j h.b.b cn) cn d
def Hk(x:Int):(if 549755813888<x then 549755813888 else x)=pT x:=by
 unfold pT;split<;>split<;>omega
def bF.av{s:Wd}(h:bF w A s)(f:Nat->St)(d:∀i,i<s.n->f i=s.bm i):bF w A {s with bm:=f}:=by
 have c:=h.b;exact⟨⟨c.b,c.e,c.t,c.u,c.x,c.o,c.p,c.h,c.j⟩,h.y,h.p,h.x,h.u,h.C,λi a=>by show rA w A.G i (A.c i) (f i);rw[d i a];exact h.e i a,λi a=>by show bi w (A.c i) (A.m i) (f i).k;rw[d i a];exact h.o i a,h.J,λv g=>by have u:=h.t v g;exact⟨u.b,u.q,u.j,u.e,u.h,u.o,u.p,u.t⟩,h.F,h.B⟩
def Fz.V{s s' s'':Wd}(h:Fz A s w A' s' w')(g:s''.n=s'.n)(j:s''.sv=s'.sv):Fz A s w A' s'' w':=
 ⟨h.t,h.o,h.b,h.h,h.p,λk l f=>h.i k l (by
  rcases f with f|f|⟨v,a,d⟩|⟨i,e,f⟩|⟨i,e,f⟩|⟨a,d⟩
  exact .Q f;exact .G f;exact .ev v a d;exact .c i (g▸e) f;exact .m i (g▸e) f;exact .sv (j▸a) d),h.Q⟩
def fV.bf{w:Wd}(h:fV w C)(g:0<=b)(d:∀i,i<w.n->0<=f i):fV (w.b3 b f) (C+1):=by
 have a:=h.e (cL C);refine⟨a.F,a.x,a.y,a.u,a.A,a.B,yn (jd h.W),yo,λj c=>?_,by have:=h.O;show 0<=w.cm+1;omega,by have:=h.V;show w.cm+1<=_;omega,a.Z,a.t,a.j,a.J,a.o,a.H,a.b,a.h⟩;have q:=a.s j c;exact⟨q.k,yn (Pz q.b (d j c)),yo,q.h,q.i,q.o,q.j⟩
def OI{s:Wd}(h:bF w A (s.a5 b f s.n)):bF w A (s.b3 b f):=
 h.av (λk=>{s.bm k with fo:=pT ((s.bm k).fo+f k)}) λi a=>by
  exact(aH (show i<s.n from a)).symm
def CG(A:Wa)(s:Wd)(C B:Nat)(v:Dv)(l:List Int)(w:Ba)(h:bF w A s)(hB:fV s C)(hC:C<=10000000000)(hl:de w B v l)(P:l.length=1+s.n)(z:∀x∈l,0<=x/\x<=137438953472)(b0:Int)(Y:l.getD 0 0=b0)(f:Nat->Int)(hf:∀k,l.getD (1+k) 0=f k):
  Calls prog 37 #[tp A.Q,v] w λe w'=>e=.returned .nilIface/\bF w' A (s.aq b0 f)/\Fz A s w A (s.aq b0 f) w':=by
 have n4:=h.B;have n1:=h.F;have cl:=h.b.h;have dv:=h.b.j;have dy:=h.b.e 12411;have Z:=Bf hl ak z;obtain⟨ao,cc,cW,y⟩:=hl.e;obtain⟨g,hg,ad⟩:=y ak;subst hg;subst cW;have dz:IntKind.i64.wrap (s.cm+1)=s.cm+1:=jA (jd hB.O) (jd hB.V);have dN:IntKind.i64.wrap (1+(s.n:Int))=1+(s.n:Int):=jA ak ak;have R:l.length=s.n+1:=ak;have dP:(((s.n+1:Nat):Int) != 1+(s.n:Int))=false:=fS;have dr:((s.n:Int)+1 != 1+(s.n:Int))=false:=fS;obtain⟨x1,x2⟩:=h.j (s.cm+1);have m:=yl h hl x2;have HB:Hid (fV s C):=hB;have HF:Hid (∀k,l.getD (1+k) 0=f k):=hf;clear hf;have HL:Hid (l.length=1+s.n):=P;rw[R]at Z⊢;have HM:Hid (l.length=s.n+1):=R;clear y ad h hB P R;go_in;go_wp2_with fail
 refine Z.mono ?_;rintro e w2⟨rfl,co⟩;rw[co];clear co Z;go_upto_region 4 with fail
 generalize w.setCell ⟨A.Q,12411,none⟩ (.int .i64 (s.cm+1))=w3 at *;have aS:w3.cell? (aA g 0)=some (iI (l.getD 0 0)):=by
  have R:=HM.out;have:=bC m 0 ak;rw[this,cU,aD,aE ak];rfl
 have E:=x1.b.p;have dd:=x1.b.e 12408;dsimp only at E;have d:fN (s.dJ+l.getD 0 0):=by
  have h1:=HB.out.W;have h2:=HB.out.c1;have R:=HM.out;have h3:=z (l.getD 0 0) (by rw[aD,aE ak];exact bp _);exact⟨ak,ak⟩
 have cp:IntKind.i64.wrap (s.dJ+l.getD 0 0)=s.dJ+l.getD 0 0:=jA d.1 d.2;rw[Y]at aS cp d;have df:Hid (l.getD 0 0=b0):=Y;clear Y;refine Gen.start (S:=λw'=>w'.cell? (aA A.Q 12408)=some (iI s.dJ)/\w'.cell? (aA g 0)=some (iI b0)) bt ⟨E,aS⟩ (λqH=>?_);refine tk 0 10 qH ?_;go_frame;refine tk 1 2 qH ?_;go_frame;refine tk 2 3 qH ?_;go_frame;refine tk 3 4 qH ?_;go_frame;refine tk 4 8 qH ?_;go_frame;refine tk 5 6 qH ?_;go_frame;refine tk 6 7 qH ?_;go_frame;refine tk 7 8 qH ?_;go_frame;refine tk 8 9 qH ?_;go_frame;refine tk 9 10 qH ?_;go_frame;refine tk 10 11 qH ?_;go_frame;refine tk 11 12 qH ?_;go_frame;refine la 12 λK H=>?_;go_simp;rw[Hk];refine H.out _ _ ?_;clear H K qH;obtain⟨y1,y2⟩:=x1.ao (pT (s.dJ+b0));obtain⟨y3,y4⟩:=y1.h (au _ _).drew;have L:=yl x1 m (y2.e y4);have cs:Hid (Gn w (w3.setCell (aA A.Q 12408) (iI (pT (s.dJ+b0)))).drew A s l B (.slice (some (aA g 0)) l.length cc) b0 f 0):=by
  refine⟨?_,?_,L⟩;rw[Ar];exact y3;rw[Ar];exact x2.e (y2.e y4)
 have cl:=y3.b.h;generalize (w3.setCell ⟨A.Q,12408,none⟩ (.int .i64 (pT (s.dJ+b0)))).drew=w4 at *;clear x1 x2 y1 y2 y3 y4 m L E dd d cp aS;go_wp2;go_loopw [44] (λi wr=>∃k:Nat,k<=s.n/\i = iI k/\Gn w wr A s l B (.slice (some (aA g 0)) l.length cc) b0 f k) (λi _=>s.n-(intOf i).toNat)
 case atStart=>exact⟨0,ak,rfl,cs.out⟩
 case round=>
  obtain⟨k,hk,rfl,D⟩:=hrel;by_cases a0:k<s.n
  .have dT:(k:Int)<(s.n:Int):=ak;have ds:(0:Int)<=(k:Int):=ak;have d0:IntKind.i64.wrap (1+(k:Int))=1+(k:Int):=jA ak ak;have d6:(1+(k:Int))<(s.n:Int)+1:=ak;have dt:(0:Int)<=1+(k:Int):=ak;have d7:(1+(k:Int)).toNat=1+k:=ak;have U:=D.e.b.h;have c:=(D.e.e k a0).h;have a1:wr.cell? (aA g (1+k))=some (iI (f k)):=by
    have R:=HM.out;have:=bC D.h (1+k) ak;rw[<-HF.out k];rw[this,cU,aD,aE ak];rfl
   have ct:(((s.a5 b0 f k).bm k)).fo=(s.bm k).fo:=by
    unfold Wd.a5;simp
   rw[ct]at c;have M:0<=f k/\f k<=137438953472:=by
    have R:=HM.out;rw[<-HF.out k];exact z _ (by rw[aD,aE ak];exact bp _)
   have cv:IntKind.i64.wrap ((s.bm k).fo+f k)=(s.bm k).fo+f k:=by
    have q:=HB.out.s k a0;have q0:=q.b;have q1:=q.e;exact jA ak ak
   have dk:=D.e.C (k*4+1);have HD:Hid (Gn w wr A s l B (.slice (some (aA g 0)) l.length cc) b0 f k):=D;clear D ct M;obtain⟨ck,d⟩:∃ck,(s.bm k).fo=ck:=⟨_,rfl⟩;obtain⟨fk,M⟩:∃fk,f k=fk:=⟨_,rfl⟩;rw[d]at c cv;rw[M]at a1 cv;have dm:Hid ((s.bm k).fo=ck):=d;have dn:Hid (f k=fk):=M;clear d M;go_upto_region 8 with fail
   refine Gen.start (S:=λw'=>w'.cell? (aA A.Q 12409)=some (.slice (some (aA A.G 0)) s.n s.n)/\w'.cell? (aA A.G (k*4+1))=some (iI ck)/\w'.cell? (aA g (1+k))=some (iI fk)) bt ⟨U,c,a1⟩ (λqH=>?_);refine tk 0 1 qH ?_;go_frame;refine tk 1 2 qH ?_;go_frame;refine tk 2 3 qH ?_;go_frame;refine tk 3 20 qH ?_;go_frame;refine tk 4 20 qH ?_;go_frame;refine tk 5 6 qH ?_;go_frame;refine tk 6 7 qH ?_;go_frame;refine tk 7 8 qH ?_;go_frame;refine tk 8 10 qH ?_;go_frame;refine tk 9 10 qH ?_;go_frame;refine tk 10 11 qH ?_;go_frame;refine tk 11 12 qH ?_;go_frame;refine tk 12 18 qH ?_;go_frame;refine tk 13 16 qH ?_;go_frame;refine tk 14 15 qH ?_;go_frame;refine tk 15 16 qH ?_;go_frame;refine tk 16 17 qH ?_;go_frame;refine tk 17 18 qH ?_;go_frame;refine tk 18 19 qH ?_;go_frame;refine tk 19 20 qH ?_;go_frame;refine tk 20 21 qH ?_;go_frame;refine tk 21 22 qH ?_;go_frame;refine la 22 λK H=>?_;go_simp;rw[Hk];have HN:Hid (Gn w (wr.setCell (aA A.G (k*4+1)) (iI (pT (ck+fk)))).drew A s l B (.slice (some (aA g 0)) l.length cc) b0 f (k+1)):=by
    have D:=HD.out;obtain⟨p1,p2⟩:=D.e.ag a0 (pT (ck+fk));obtain⟨p3,p4⟩:=p1.h (au _ _).drew;have e:=JM s b0 f k;rw[dm.out,dn.out]at e;refine⟨?_,?_,yl D.e D.h (p2.e p4)⟩;rw[e];exact p3;rw[e];exact D.i.e (p2.e p4)
   refine H.out _ _ ?_;clear H K qH;generalize (wr.setCell ⟨A.G,k*4+1,none⟩ (.int .i64 (pT (ck+fk)))).drew=w5 at *;clear U c a1 dk;go_wp2;go_roundw
   case rel=>exact⟨k+1,ak,by go_num,HN.out⟩
   case measure=>simp[intOf];omega
  .obtain rfl:k=s.n:=ak;have X:=OI D.e;have fz:=D.i.V (s'':=s.b3 b0 f) rfl rfl;have T:=HB.out.bf (b:=b0) (f:=f) (by
    rw[<-df.out];have R:=HM.out;exact(z _ (by rw[aD,aE ak];exact bp _)).1) (λi hi=>by
    have R:=HM.out;rw[<-HF.out i];exact(z _ (by rw[aD,aE ak];exact bp _)).1)
   have HG:Hid (s.aq b0 f=(s.b3 b0 f).a3):=rfl;obtain⟨t,ht⟩:∃t,s.b3 b0 f=t:=⟨_,rfl⟩;rw[ht]at X fz T HG;have N:=pU X;clear D cs ht cl HB HF HM;cases hs:t.sv with
   |none=>
    rw[hs]at N;have HR:Hid (bF wr A (s.aq b0 f)/\Fz A s w A (s.aq b0 f) wr):=by
     rw[HG.out];have e:t.a3=t:=by unfold Wd.a3;rw[hs]
     rw[e];exact⟨X,fz⟩
    clear X fz T;go_wp2_with fail
    refine N.mono ?_;rintro e w2⟨rfl,rfl⟩;go_wp2;go_ret;exact⟨rfl,HR.out⟩
   |some v=>
    rw[hs]at N;have HE:Hid (s.aq b0 f=t.av (v.ac t.dJ 8)):=by
     have e:t.a3=t.av (v.ac t.dJ 8):=by unfold Wd.a3;rw[hs]
     exact HG.out.trans e
    have bO:=X.b.o;have E:=X.b.p;rw[hs]at bO;unfold LI at bO;obtain⟨z1,z2⟩:=X.h (au wr.heap.size wr).drew;have u:=z1.t v hs;have bR:=(T.J v hs).1;have ci:=TJ t.dJ u.b bR ak;have cw:=AN v t.dJ 8;have cA:=xF bR t.dJ 8;have P:=(kR.I bR t.dJ 8).2;have cj:=ug v t.dJ 8;obtain⟨r,hr⟩:∃r,v.ac t.dJ 8=r:=⟨_,rfl⟩;rw[hr]at HE ci cw cA P cj;clear hr;clear T HG;go_wp2_with fail
    refine N.mono ?_;rintro e w2⟨rfl,rfl⟩;clear N;go_upto_region 11 with fail
    refine Gen.start (S:=λw'=>w'.cell? (aA A.Q 12407)=some (.pointer (some (aA A.a.S 0)))/\w'.cell? (aA A.Q 12408)=some (iI t.dJ)) bt ⟨bO,E⟩ (λqH=>?_);refine tk 0 10 qH ?_;go_frame;refine tk 1 2 qH ?_;go_frame;refine tk 2 3 qH ?_;go_frame;refine tk 3 4 qH ?_;go_frame;refine tk 4 9 qH ?_;go_frame;refine tk 5 6 qH ?_;go_frame;refine tk 6 7 qH ?_;go_frame;refine tk 7 8 qH ?_;go_frame;refine tk 8 9 qH ?_;go_frame;refine on 9 λK H=>?_;go_simp;refine ci.mono ?_;rintro e w3⟨v3,rfl,T3⟩;obtain⟨y1,y2⟩:=z1.af hs T3.h T3.e cj.1 cj.2;have cB:w3.cell? (aA A.Q 12407)=some (.pointer (some (aA A.a.S 0))):=y1.b.o;have c:w3.cell? (aA A.Q 12408)=some (iI t.dJ):=y1.b.p;have cG:=xz r.1 y1 rfl T3.b.b (λg hg=>z1.an hs T3.e (bj T3.b.b g hg).1 (T3.b.e g hg)) ak cw cA;dsimp only;refine H.out _ _ ⟨cB,c⟩ (λqH=>?_);clear H K;try simp only[Act.put,ax,aJ,aI]
    refine la 10 λK H=>?_;go_simp;refine cG.mono ?_;rintro e w4⟨rfl,q1,q2⟩;have HR:Hid (bF w4 A (s.aq b0 f)/\Fz A s w A (s.aq b0 f) w4):=by
     rw[HE.out];exact⟨q1,((fz.e z2).e y2).e q2⟩
    dsimp only;refine H.out _ _ ?_;clear H K qH;clear q1 q2 y1 y2 z1 z2 X fz cG ci T3 u;go_wp2;go_ret;exact⟨rfl,HR.out⟩
def XJ(s:Wd)(t:Int)(m:M):(s.af t m).n=s.n:=by
 unfold Wd.af;split<;>rfl
theorem Kc{t:Int}:∀(l:List M) (s:Wd),(s.O t l).n=s.n
 | [],_=>rfl
 |m::l,s=>(Kc (t:=t) l (s.af t m)).trans (XJ s t m)
def LJ:∀(l:List M) (s:Wd),(s.I l).n=s.n
 | [],_=>rfl
 |m::l,s=>(LJ l (s.af (bK m.c:Nat) m)).trans (XJ s _ m)
def SP(s:Wd):s.ae.n=s.n:=by
 unfold Wd.ae;split;rfl;split<;>rfl
def Gr(s:Wd){r:Sv×List M}:(s.av r).n=s.n:=(SP _).trans (LJ r.2 _)
def En(s:Wd){m:M}:(s.H m).n=s.n:=by
 unfold Wd.H;split;rfl;exact Gr _
def Zn(s:Wd)(k:Nat):(s.V k).n=s.n:=by
 unfold Wd.V;split<;>rfl
def El(s:Wd){m:M}:(s.an k m).n=s.n:=(Zn _ k).trans (Kc _ _)
def Zq(s:Wd){t:Int}{m:M}:(s.b1 t m).n=s.n:=by
 unfold Wd.b1;split;exact En _;split;exact El _;rfl
def Ou(s:Wd)(k:Nat):(s.j k).n=s.n:=by
 unfold Wd.j;split;rfl;exact Zq _
def Lu:∀(f:Nat) (s:Wd),(s.a2 f).n=s.n
 |0,_=>rfl
 |f+1,s=>by
  unfold Wd.a2;split;rfl;exact(Lu f _).trans (Ou s 0)
def CB(s:Wd):s.ag.n=s.n:=Lu _ s
def aa7(s:Wd)(k:Nat):(s.b5 k).n=s.n:=Kc _ _
def Wu(s:Wd)(k:Nat):(s.aw k).n=s.n:=aa7 _ k
def Zk(s:Wd):(s.aq b f).n=s.n:=by
 unfold Wd.aq Wd.a3;split;rfl;exact Gr _
def oM(s:Wd):s.e.n=s.n:=by
 unfold Wd.e;split<;>rfl
def Wd.ap(s:Wd):Nat->Wd
 |0=>s
 |k+1=>((s.ap k).aw k).ag
def uZ(s:Wd):∀k,(s.ap k).n=s.n
 |0=>rfl
 |k+1=>((CB _).trans (Wu _ k)).trans (uZ s k)
def Wd.b2(s:Wd):Wd:=((s.e.ap s.n).aq 1 λk=>if k<s.n then 1 else 0).ag
def Wv(s:Wd):s.b2.n=s.n:=(((CB _).trans (Zk _)).trans (uZ _ _)).trans (oM s)
def Wd.a4(s:Wd):Nat->Wd
 |0=>s
 |r+1=>(s.a4 r).b2
variable{s s':Wd}
def D6(s:Wd):∀r,(s.a4 r).n=s.n
 |0=>rfl
 |r+1=>(Wv _).trans (D6 s r)
def fV.al(h:fV s C):∀k,k<=s.n->fV (s.ap k) (C+3562*k)
 |0,_=>h
 |k+1,a=>(((fV.al h k ak).ai (by rw[uZ];omega)).ah).e ak
def OU{c:Int}(hc:c=2\/c=3\/c=4\/c=5)(w:Ba):
  Calls prog 135 #[.int .u64 1,.int .u64 c] w λe w'=>e=.returned (.tuple #[.int .u64 0,.int .u64 c])/\w'=w:=by
 rcases hc with rfl|rfl|rfl|rfl
 all_goals
  go_in;go_wp2;exact bn (v:=.tuple #[_,_]) (by simp[results,results135,go_sem];kernel_rfl) rfl ⟨rfl,rfl⟩
def WM(c:Int)(hc:c=2\/c=3\/c=4\/c=5)(w:Ba):
  Calls prog 68 #[.int .u64 1,.int .u64 c] w λe w'=>e=.returned (.tuple #[.int .u64 0,.int .u64 c])/\w'=w:=by
 have a:IntKind.u64.wrap c=c:=by rcases hc with rfl|rfl|rfl|rfl<;>rfl
 go_in;go_wp2_with fail
 apply (OU hc w).mono;rintro e w2⟨rfl,rfl⟩;go_wp2;exact bn (v:=.tuple #[_,_]) (by simp[results,results68,go_sem]) rfl ⟨rfl,rfl⟩
def CH:(prog.info? 3).map (·.size)=some 1:=bt
def ma(c k:Nat):List Value:=List.replicate k (.int .i64 1)++List.replicate (c-k) (.int .i64 0)
structure Rp(w wr:World)(c k:Nat):Prop where
 e:wr.heap[w.heap.size]?=some (.cells (ma c k).toArray 3 (0,0))
 b:FF w wr
def Rp.h{c:Nat}(h:Rp w wr c k)(i:k<=c):
  (Builtin.copy_ #[26,26] 3 #[.slice (some (FI w k)) (c-k) (c-k),.slice (some (FI w 0)) k c]).run prog wr=.ok (iI (min k (c-k):Nat)) (wr.setRow w.heap.size (ma c (k+min k (c-k))).toArray)/\Rp w (wr.setRow w.heap.size (ma c (k+min k (c-k))).toArray) c (k+min k (c-k)):=by
 refine⟨?_,⟨setRow_heap _ _ _ _ _ _ h.e,below_setRow h.b (aj _) _⟩⟩;have a:∀j v,(List.replicate (min k (c-k)) (Value.int .i64 1))[j]?=some v->wr.cell? (((FI w 0):Addr).add j)=some v:=by
  intro j v d;rw[eP]at d;split at d;cases d;have:(ma c k)[j]?=some (iI 1):=by
   unfold ma;rw[bE fS,eP,aH ak]
  have q:((FI w 0):Addr).add j=(FI w j):=by
   simp only[Addr.add];split<;>simp_all
  rw[q];simp[World.cell?,h.e,this];cases d
 have e:=run_copy_row prog wr 26 26 3 3 w.heap.size k (c-k) (c-k) (FI w 0) k c (ma c k).toArray 3 (List.replicate (min k (c-k)) (iI 1)) underlying26 CH h.e (by simp[Nat.min_def]) a (by simp[ma];omega) (by intro v f;rw[(List.mem_replicate.1 f).2];rfl);have g:(ma c k).toArray.toList.take k++List.replicate (min k (c-k)) (iI 1)++(ma c k).toArray.toList.drop (k+(List.replicate (min k (c-k)) (Value.int .i64 1)).length)=ma c (k+min k (c-k)):=by
  unfold ma;rw[ni,Kv aY,jC aY,List.replicate_append_replicate,List.drop_append,XP aY,List.drop_replicate];simp;omega
 rw[g]at e;rw[e];simp[goInt]
theorem Kb(g c:Nat)(hc:c=2\/c=3\/c=4\/c=5)(h0:cC w (aA g 0) (iI 1))(hg:g<w.heap.size):
  Calls prog 35 #[.slice (some (aA g 0)) 1 1,iI c] w λe w'=>∃v,e=.returned v/\de w' w.heap.size v (List.replicate c 1)/\FF w w':=by
 let ⟨Z,hZ⟩:∃Z,List.replicate c (Value.int .i64 0)=Z:=⟨_,rfl⟩
 have hZl:Z.length=c:=by rw[<-hZ];simp
 have hmk:∀w,(Instr.makeSlice 26 (iI c) (iI c)).run prog w=.ok (.slice (some (aA w.heap.size 0)) c c) (w.alloc (.cells Z.toArray 3)):=λ_=>by rw[<-hZ];rcases hc with rfl|rfl|rfl|rfl<;>kernel_rfl
 have hrw:(w.alloc (.cells Z.toArray 3)).heap[w.heap.size]?=some (.cells Z.toArray 3 (0,0)):=by show (w.heap.push _)[w.heap.size]?=_;exact Array.getElem?_push_size ..
 have hcp:=run_copy_row prog (w.alloc (.cells Z.toArray 3)) 26 26 3 3 w.heap.size 0 c c (aA g 0) 1 1 Z.toArray 3 [iI 1] underlying26 CH hrw (by simp[Nat.min_def];omega) (by
  intro j v hj
  match j,hj with
  |0,hj=>
   cases hj
   exact(aC _ _ _ hg).trans h0) fS (by intro v hv;rw[bA.1 hv];rfl)
 have hS:Rp w ((w.alloc (.cells Z.toArray 3)).setRow w.heap.size (Z.toArray.toList.take 0++[Value.int .i64 1]++Z.toArray.toList.drop (0+[Value.int .i64 1].length)).toArray) c 1:=by
  refine⟨?_,below_setRow ((au _ _).alloc (aj _) _) (aj _) _⟩
  rw[setRow_heap _ _ Z.toArray _ 3 (0,0) hrw,<-hZ]
  simp[ma]
 generalize (w.alloc (.cells Z.toArray 3)).setRow w.heap.size (Z.toArray.toList.take 0++[Value.int .i64 1]++Z.toArray.toList.drop (0+[Value.int .i64 1].length)).toArray=w1 at hcp hS
 have HS0:Hid (Rp w w1 c 1):=hS
 have hcp2:(Builtin.copy_ #[26,26] 3 #[.slice (some (aA w.heap.size 0)) c c,.slice (some (aA g 0)) 1 1]).run prog (w.alloc (.cells Z.toArray 3))=.ok (iI 1) w1:=hcp

 have hm:=WM c ak w
 have hw1:IntKind.u64.wrap (c:Int)=c:=by rcases hc with rfl|rfl|rfl|rfl<;>rfl
 have hw2:IntKind.i64.wrap (c:Int)=c:=jA ak ak
 have hc0:decide ((c:Int)<0)=false:=aK ak
 have hc1:decide ((9223372036854775807:Int)<(c:Int))=false:=aK ak
 go_in
 go_wp2_with fail
 apply hm.mono
 rintro e w2⟨rfl,rfl⟩
 go_wp2
 go_loopw [8] (λi wr=>∃k:Nat,1<=k/\k<=c/\i=iI k/\Rp w2 wr c k) (λi _=>c-(intOf i).toNat)
 case atStart=>exact⟨1,ak,ak,rfl,HS0.out⟩
 case round=>
  obtain⟨k,hk1,hk,rfl,D⟩:=hrel
  by_cases hlt:k<c
  .have hkI:(k:Int)<(c:Int):=ak
   have hkI0:(0:Int)<=(k:Int):=ak
   have hkI1:(k:Int)<=(c:Int):=ak
   have hck:¬c=k:=ak
   have hkw:IntKind.i64.wrap ((k:Int)+((min k (c-k):Nat):Int))=(k:Int)+((min k (c-k):Nat):Int):=jA ak ak
   go_upto_region 9 with fail
   have RC:=Rp.h (wr:=wr.drew) ⟨D.e,D.b.drew⟩ hk
   refine Gen.start (S:=λ_=>True) bt aB (λqH=>?_)
   refine tz ?_
   refine on 7 λK hK=>?_
   go_simp
   refine hK.out _ _ aB (λqH=>?_)

   have HN :Hid _:= RC.2
   have hpos:0<min k (c-k):=ak
   have hle:k+min k (c-k)<=c:=ak
   generalize wr.drew.setRow w2.heap.size (ma c (k+min k (c-k))).toArray=w5 at *
   generalize min k (c-k)=j at *
   apply tk 8 9 qH

   refine la 9 λK hK=>?_
   go_simp
   apply hK.out _ _
   go_wp2
   go_roundw
   case rel=>exact⟨k+j,ak,ak,by go_num,HN.out⟩
   case measure=>simp[intOf];omega
  .obtain rfl:k=c:=ak
   have HD:Hid (de wr w2.heap.size (.slice (some (aA w2.heap.size 0)) k k) (List.replicate k 1)/\FF w2 wr):=by
    refine⟨?_,D.b⟩
    unfold Lease.de
    rw[ni,List.map_replicate]
    exact⟨aY,.inr ⟨w2.heap.size,k,(ma k k).toArray,rfl,aj _,D.e,aj _,by unfold maxLen;omega,by simp[ma],by simp[ma]⟩⟩
   go_wp2
   go_ret
   exact⟨_,rfl,HD.out⟩
def fV.a6(h:fV s C)(c:s.n<=4):fV s.b2 (C+18000):=by
 have a:=h.ac.al s.n (by rw[oM];exact aj _);exact(a.aq (b:=1) (f:=λk=>if k<s.n then 1 else 0) ak (λi _=>by split<;>omega)).ah.e ak
def fV.ap(h:fV s C)(a:s.n<=4):∀r,fV (s.a4 r) (C+18000*r)
 |0=>h
 |r+1=>((fV.ap h a r).a6 (by rw[D6];exact a)).e (by omega)
structure Ca(w wr:World)(A:Wa)(s t:Wd)(B:Nat)(v:Value)(a:Ad):Prop where
 b:bF wr {A with a:=a} t
 i:Fz A s w {A with a:=a} t wr
 h:de wr B v (List.replicate (s.n+1) 1)
def Ca.e{t c:Wd}{v:Dv}{a a':Ad}(h:Ca w wr A s t B v a)(f:bF w' {A with a:=a'} c)(d:Fz {A with a:=a} t wr {A with a:=a'} c w'):Ca w w' A s c B v a':=
 ⟨f,h.i.e d,yl h.b h.h d⟩
def isZ:Value->Bool
 |.int .u8 0=>true
 |_=>false
def Zm{v:Dv}(h:isZ v=true):v=.int .u8 0:=by
 unfold isZ at h;split at h;rfl;cases h
def WZ:((zeroCells81.toList.drop 3).take 12400).all isZ=true:=bt
def LL:zeroCells81.toList.drop 12403=[.bool false,iI 0,.slice none 0 0,iI 0,.pointer none,iI 0,.slice none 0 0,.slice none 0 0,iI 0]:=bt
def Kt:zeroCells81.toList.length=12412:=by
 have:=cr List.length LL;rw[cN]at this;simp only[bJ,wO]at this;omega
def XN(h:i<12400):zeroCells81[3+i]?=some (.int .u8 0):=by
 have c:=Kt;rw[<-gz];have a:3+i<zeroCells81.toList.length:=ak;have b:((zeroCells81.toList.drop 3).take 12400)[i]?=some zeroCells81.toList[3+i]:=by
  rw[gC,aH h,qI,aE a]
 rw[aE a,Zm (cM.1 WZ _ (fg b))]
def pW(i:Nat):zeroCells81[12403+i]? = [Value.bool false,iI 0,.slice none 0 0,iI 0,.pointer none,iI 0,.slice none 0 0,.slice none 0 0,iI 0][i]?:=by
 rw[<-gz,<-qI,LL]
def iF(z:Array Value)(tob tv td:Int)(G n:Nat):Array Value:=(((z.setIfInBounds 0 (.int .i64 tob)).setIfInBounds 1 (.int .i64 tv)).setIfInBounds 2 (.int .i64 td)).setIfInBounds 12409 (.slice (some ⟨G,0,none⟩) n n)
def vC(h0:3<=i)(a:i≠12409):(iF zeroCells81 tob tv td G n)[i]?=zeroCells81[i]?:=by
 unfold iF;rw[aM ak,aM ak,aM ak,aM ak]
def vD:zeroCells81.size=12412:=dw▸Kt
def Hn(tob tv td:Int)(G n:Nat):(iF zeroCells81 tob tv td G n)[0]?=some (iI tob):=by
 unfold iF;rw[aM ak,aM ak,aM ak,aV (by rw[vD];omega)]
def Ho(tob tv td:Int)(G n:Nat):(iF zeroCells81 tob tv td G n)[1]?=some (iI tv):=by
 unfold iF;rw[aM ak,aM ak,aV (by rw[dI,vD];omega)]
def Hp(tob tv td:Int)(G n:Nat):(iF zeroCells81 tob tv td G n)[2]?=some (iI td):=by
 unfold iF;rw[aM ak,aV (by rw[dI,dI,vD];omega)]
def AQ(tob tv td:Int)(G n:Nat):(iF zeroCells81 tob tv td G n)[12409]?=some (.slice (some (aA G 0)) n n):=by
 unfold iF;rw[aV (by rw[dI,dI,dI,vD];omega)]
structure Nb(w wr:World)(Q G n k:Nat)(tob tv td:Int)(c m:Nat->Nat):Prop where
 b:FF w wr
 q:wr.heap[Q]?=some (.cells (iF zeroCells81 tob tv td G n) 81)
 g:qA wr G 90
 t:∀i,wr.frozen? ⟨G,i,none⟩=false
 p:∀i,i<k->rA wr G i (c i) ⟨K.j i (ij td tob) (ij td tv),0,0,-1⟩
 h:∀i,k<=i->i<n->wr.cell? ⟨G,i*4,none⟩=some (.pointer none)/\wr.cell? ⟨G,i*4+1,none⟩=some (.int .i64 0)/\wr.cell? ⟨G,i*4+2,none⟩=some (.int .i64 0)/\wr.cell? ⟨G,i*4+3,none⟩=some (.int .i64 0)
 o:∀i,i<k->bi wr (c i) (m i) (K.j i (ij td tob) (ij td tv))
 s:∀i,i<k->Q<c i/\Q<m i
 u:∀i j,i<k->j<k->i≠j->c i≠c j/\m i≠m j
def Nb.e(h:Nb w wr Q G n k tob tv td c m)(i:Nat):wr.cell? (aA Q i)=(iF zeroCells81 tob tv td G n)[i]?:=bN _ _ _ _ _ _ h.q
def Nb.j(h:Nb w wr Q G n n tob tv td c m)(d:1<=n)(f:n<=4)(a:Ad):bF wr ⟨Q,G,c,m,a⟩ (Wd.h tob tv td n):=by
 have x:= (ar.1 h.q).1;have b:∀i,wr.frozen? (aA Q i)=false:=λi=>by
  simp[World.frozen?,h.q]
 have e:∀i,3<=i->i≠12409->wr.cell? (aA Q i)=zeroCells81[i]?:=λi h0 r=>(h.e i).trans (vC h0 r);refine⟨⟨⟨_,_,h.q⟩,b,(h.e 0).trans (Hn ..),(h.e 1).trans (Ho ..),(h.e 2).trans (Hp ..),(e 12407 ak ak).trans (pW 4),(e 12408 ak ak).trans (pW 5),(h.e 12409).trans (AQ ..),(e 12411 ak ak).trans (pW 8)⟩,?_,?_,⟨.slice none 0 0,(e 12410 ak ak).trans (pW 7),?_⟩,h.g,h.t,h.p,h.o,h.u,λv s=>(by cases s),d,f⟩;refine⟨λk l=>(by simp[Wd.h]at l),λk l j y=>⟨by rw[e _ ak ak,show 3+k*62+j=3+(k*62+j) by omega,XN ak];rfl,b _⟩,λk _ l=>?_,(e 12403 ak ak).trans (pW 0),(e 12404 ak ak).trans (pW 1),b,by simp[Wd.h],by simp[Wd.h]⟩;rw[e _ ak ak,show 3+k*62+61=3+(k*62+61) by omega,XN ak];exact⟨⟨.slice none 0 0,(e 12405 ak ak).trans (pW 2),⟨rfl,.inl ⟨rfl,rfl⟩⟩⟩,⟨0,(e 12406 ak ak).trans (pW 3)⟩,b,by show Q<Q+1;omega,by show Q+1<=wr.heap.size;omega,by simp[Wd.h]⟩;exact⟨rfl,.inl ⟨rfl,rfl⟩⟩
def Nb.H{w2:Ba}(h:Nb w wr Q G n k tob tv td c m)(D:k<n)(E:G<Q)(V:w.heap.size<=G){x q:Nat}(a:FF wr w2)(F:bi w2 x q (K.j k (ij td tob) (ij td tv)))(W:wr.heap.size<=x)(X:wr.heap.size<=q):
  Nb w (eu w2 G k x 0) Q G n (k+1) tob tv td (cq c k x) (cq m k q):=by
 have I:= (ar.1 h.q).1;obtain⟨Y,J,L,M⟩:=xD w2 G k x 0;have N:=a.size;have o:∀y,y≠G->(eu w2 G k x 0).heap[y]?=w2.heap[y]?:=λy A=>vu w2 G k x 0 A;have r:=h.h k ak D;have B:= h.g.H;have v:∀i,w2.cell? (aA G i)=wr.cell? (aA G i):=λi=>a.cell (p:=(aA G i)) B;obtain⟨O,P,R⟩:=AK w2 G k x 0 ((v _).trans r.1) ((v _).trans r.2.2.1) ((v _).trans r.2.2.2);have d:∀i,i≠k->∀j,j<4->(eu w2 G k x 0).cell? (aA G (i*4+j))=wr.cell? (aA G (i*4+j)):=λi z j S=>(jo w2 G k x 0 ak ak ak).trans (v _);have T:=h.b.size;refine⟨⟨J.trans (a.os.trans h.b.os),L.trans (a.tape.trans h.b.tape),M.trans (a.output.trans h.b.output),ak,λy A=>(o y ak).trans ((a.block y ak).trans (h.b.block y A))⟩,(o Q ak).trans ((a.block Q I).trans h.q),?_,λi=>?_,λi z=>?_,λi Z U=>?_,λi z=>?_,λi z=>?_,λi j z S C=>?_⟩;unfold eu;exact Wal.cZ (Wal.cZ (Wal.cZ (h.g.e (a.block G B))));rw[AJ,a.frozen (p:=(aA G i)) B];exact h.t i;by_cases e:i=k;subst e;rw[da];exact⟨O,(jo w2 G i x 0 (i:=i*4+1) ak ak ak).trans ((v _).trans r.2.1),P,R⟩;rw[dM e];have y:=h.p i ak;exact⟨(d i e 0 ak).trans y.b,(d i e 1 ak).trans y.h,(d i e 2 ak).trans y.o,(d i e 3 ak).trans y.j⟩;have y:=h.h i ak U;have e:i≠k:=ak;exact⟨(d i e 0 ak).trans y.1,(d i e 1 ak).trans y.2.1,(d i e 2 ak).trans y.2.2.1,(d i e 3 ak).trans y.2.2.2⟩;by_cases e:i=k;subst e;rw[da,da];exact F.j (o x ak) (o q ak);rw[dM e,dM e];have y:=h.o i ak;have lo:=h.s i ak;have lt:=y.H;exact y.j ((o _ ak).trans (a.block _ lt.1)) ((o _ ak).trans (a.block _ lt.2));by_cases e:i=k;subst e;rw[da,da];omega;rw[dM e,dM e];exact h.s i ak;unfold cq;by_cases l:i=k;have f:j≠k:=ak;have:=(λe=>(h.o j ak).H) f;rw[aH l,ay f,aH l,ay f];omega;by_cases f:j=k;have:=(λe=>(h.o i ak).H) l;rw[ay l,aH f,ay l,aH f];omega;rw[ay l,ay f,ay l,ay f];exact h.u i j ak ak C
def fV.a5(m:1<=tv)(o:tv<=tob)(c:tob<=274877906944)(a:0<=td)(b:td<=500):fV (Wd.h tob tv td n) 0:=by
 have d:=mw a b (t:=tob) ak c;have e:=mw a b (t:=tv) ak ak;refine⟨by show 0<=tob;omega,c,by show 0<=tv;omega,by show tv<=_;omega,a,b,kh 0,by simp[Wd.h,K.j],λi _=>⟨⟨by simp[Wd.h,K.j],by simp[Wd.h,K.j],by simp[Wd.h,K.j],by simp[Wd.h,K.j],by simp[Wd.h,K.j],by simp[Wd.h,K.j],by simp[Wd.h,K.j],d.1,?_,e.1,?_,by simp[Wd.h,K.j],by simp[Wd.h,K.j],by simp[Wd.h,K.j],by simp[Wd.h,K.j],λx f=>(by cases f),by show (⟨#[]⟩:DS).size<=20;decide⟩,by simp[Wd.h,K.j],by simp[Wd.h,K.j],by simp[Wd.h,K.j],by simp[Wd.h,K.j],by simp[Wd.h,K.j],by show (-1:Int)<_;simp[Wd.h]⟩,by simp[Wd.h,K.j],by simp[Wd.h,K.j],by simp[Wd.h],λp g=>(by simp[Wd.h]at g),by simp[Wd.h],λv k=>(by cases k),λr l=>(by simp[Wd.h]at l),by simp[Wd.h],by simp[Wd.h,K.j],by simp[Wd.h,K.j]⟩;show ij td tob<=_;omega;show ij td tv<=_;omega
def Th(w:Ba)(a:1<=tv)(b:tv<=tob)(c:tob<=274877906944)(d:0<=td)(f:td<=500):
  Calls prog 56 #[.agg #[iI tob,iI tv,iI td]] w λe w'=>e=.returned (.bool true)/\FF w w'/\w'.heap.size=w.heap.size+1:=by
 go_in;go_wp2;go_ret;exact⟨aY,((au _ _).alloc (aj _) _),aY⟩
def gi:Nat->List Value
 |0=>[]
 |n+1=>[.pointer none,.int .i64 0,.int .i64 0,.int .i64 0]++gi n
def CX:∀(n i:Nat),i<n->(gi n)[i*4]?=some (.pointer none)/\(gi n)[i*4+1]?=some (iI 0)/\(gi n)[i*4+2]?=some (iI 0)/\(gi n)[i*4+3]?=some (iI 0)
 |n+1,0,_=>⟨rfl,rfl,rfl,rfl⟩
 |n+1,i+1,h=>by
  have e:∀j,(gi (n+1))[(i+1)*4+j]?=(gi n)[i*4+j]?:=λj=>by
   show ([Value.pointer none,iI 0,iI 0,iI 0]++gi n)[(i+1)*4+j]?=_;rw[bg fS];congr 1;simp;omega
  have a:=CX n i ak;exact⟨(e 0).trans a.1,(e 1).trans a.2.1,(e 2).trans a.2.2.1,(e 3).trans a.2.2.2⟩
def JW(a:1<=n)(b:n<=4)(w:Ba):(Instr.makeSlice 79 (iI n) (iI n)).run prog w=.ok (.slice (some (FI w 0)) n n) (w.alloc (.cells (gi n).toArray 90)):=by
 obtain rfl|rfl|rfl|rfl:n=1\/n=2\/n=3\/n=4:=ak
 all_goals kernel_rfl
def Ex(N:Nat)(w:World)(A:Wa)(s:Wd):Prop:=∀k,wfoot w A s k->N<=k
def Ex.e(h:Ex N w A s)(a:Fz A s w A' s' w')(d:N<=w.heap.size):Ex N w' A' s':=λk b=>by
 by_cases c:k<w.heap.size;exact h k (a.i k c b);omega
def Fz.I(a:Fz A s w A' s' w')(h:Ex N w A s)(c:A.Q<w.heap.size):Below N w w':=
 ⟨a.t,a.o,a.b,a.h,λk d=>a.p k (jd (h A.Q (.Q rfl))) (λq=>by have:=h k q;omega) (λq=>by have:=h A.Q (.Q rfl);omega)⟩
def Nb.I(h:Nb w wr Q G n n tob tv td c m)(g:w.heap.size<=G)(j:w.heap.size<=Q)(a:Ad):Ex w.heap.size wr ⟨Q,G,c,m,a⟩ (Wd.h tob tv td n):=λk l=>by
 rcases l with q|q|⟨v,d,f⟩|⟨i,b,q⟩|⟨i,b,q⟩|⟨q,_⟩
 rw[q];exact j;rw[q];exact g;rw[h.e 12410,vC ak ak,pW 7]at d;have e:= (bb d).symm;rw[e]at f;cases f;have:=h.s i b;rw[q];show w.heap.size<=c i;omega;have:=h.s i b;rw[q];show w.heap.size<=m i;omega;cases q
def SQ{z:Array Dv}(a:z.size=12412):Instr.fill (λx=>([(0,3),(3,12402),(12405,2),(12407,1),(12408,1),(12409,1),(12410,1),(12411,1)]:List (Nat×Nat)).toArray[x]?) z [(0,.agg #[iI tob,iI tv,iI td]),(5,.slice (some (aA G 0)) n n)]=some (iF z tob tv td G n):=by
 simp[Instr.fill,Value.cells,a,iF]
def Gw(tob tv td:Int)(G n:Nat):prog.built 81 [(0,.agg #[iI tob,iI tv,iI td]),(5,.slice (some (aA G 0)) n n)]=some (iF zeroCells81 tob tv td G n):=by
 have a:(prog.info? 81).map (·.zero)=some (some (.agg zeroCells81)):=bt;let ⟨f,b,c⟩:=bS.1 a
 unfold Program.built;rw[b,underlying81];dsimp only;rw[c];generalize d:List.mapM (m:=Option) (β:=Nat×Nat) _ _=r;have e:r=some [(0,3),(3,12402),(12405,2),(12407,1),(12408,1),(12409,1),(12410,1),(12411,1)]:=by rw[<-d];kernel_rfl
 rw[e];exact SQ vD
def Kl{o:Oper}{a:Act}{K:Act->Ba->Prop}{Q:Exit->Act->Ba->Prop}(t:DU)(b:Array (Nat×Operand))(d:o.op=.build t b)(cells:Array Dv)(c:prog.built t (b.map λ(i,x)=>(i,a.eval x)).toList=some cells)(h:K (a.put o.dst (.agg cells)) w):o.wp prog a w K Q:=
 wp_build t b d (c▸rfl) (c▸h)
def G9(tob tv td:Int)(n:Nat)(w:Ba)(n1:1<=n)(n4:n<=4)(h1:1<=tv)(h2:tv<=tob)(h3:tob<=274877906944)(h4:0<=td)(h5:td<=500):
  Calls prog 22 #[.agg #[iI tob,iI tv,iI td],iI n] w λe w'=>∃A,e=.returned (.tuple #[tp A.Q,.nilIface])/\bF w' A (Wd.h tob tv td n).start/\FF w w'/\Ex w.heap.size w' A (Wd.h tob tv td n).start:=by
 go_in;go_upto_region 1 with fail
 generalize D:w.alloc (.cells #[.int .i64 tob,.int .i64 tv,.int .i64 td] 29)=w1;have E:FF w w1:=by rw[<-D];exact(au _ _).alloc (aj _) _
 have ad:w1.heap.size=w.heap.size+1:=by rw[<-D];simp
 have t0:w1.cell? (FI w 0)=some (iI tob):=by rw[<-D];exact bN _ _ _ _ _ _ (bo w _)
 have t1:w1.cell? (FI w 1)=some (iI tv):=by rw[<-D];exact bN _ _ _ _ _ _ (bo w _)
 have t2:w1.cell? (FI w 2)=some (iI td):=by rw[<-D];exact bN _ _ _ _ _ _ (bo w _)
 clear D;have o:=Th w1 h1 h2 h3 h4 h5;have g1:¬(n:Int)<1:=ak;have g4:¬(4:Int)<(n:Int):=ak;go_wp2_with fail
 refine o.mono ?_;rintro e w2⟨rfl,g,aS⟩;have s0:=(g.cell (p:=(FI w 0)) jB).trans t0;have U:=(g.cell (p:=(FI w 1)) jB).trans t1;have V:=(g.cell (p:=(FI w 2)) jB).trans t2;have F:Hid (w2.heap.size=w.heap.size+2):=(by omega:w2.heap.size=w.heap.size+2);have s:FF w w2:=E.trans (g.mono ak);clear o t0 t1 t2 ad aS E g;go_upto_region 3 with fail
 refine Gen.start (S:=λw'=>w'.cell? (FI w 0)=some (iI tob)/\w'.cell? (FI w 1)=some (iI tv)/\w'.cell? (FI w 2)=some (iI td)) bt ⟨s0,U,V⟩ (λqH=>?_);refine tz ?_;refine on 2 λK l=>?_;have a0:=JW n1 n4 w2.drew;go_simp;have f:=F.out;have W:∀i,i<3->∀u,w2.cell? (FI w i)=some u->(w2.alloc (.cells (gi n).toArray 90)).drew.cell? (FI w i)=some u:=λi _ u hu=>(aC w2 _ (FI w i) jB).trans hu;clear f;refine l.out _ _ ⟨W 0 ak _ s0,W 1 ak _ U,W 2 ak _ V⟩ (λqH=>?_);clear l K W;try simp only[Act.put,ax,aJ,aI]
 refine on 3 λK l=>?_;refine Kl 81 #[(0,.tmp 20),(5,.tmp 22)] rfl (iF zeroCells81 tob tv td w2.heap.size n) ?_ ?_;have bm:=Gw tob tv td w2.heap.size n;simp[Act.eval];exact bm;refine l.out _ _ qH (λqH=>?_);clear l K;try simp only[Act.put,ax,aJ,aI]
 refine on 4 λK l=>?_;obtain⟨d,y⟩:∃d,iF zeroCells81 tob tv td w2.heap.size n=d:=⟨_,rfl⟩;have HZ:Hid (iF zeroCells81 tob tv td w2.heap.size n=d):=y;rw[y];clear y;go_simp;obtain⟨G,J⟩:∃G,w2.heap.size=G:=⟨_,rfl⟩;rw[J]at HZ F;rw[J];have f:=F.out;have X:Hid (Nb w ((w2.alloc (.cells (gi n).toArray 90)).alloc (.cells d 81)).drew (G+1) G n 0 tob tv td (λ_=>0) (λ_=>0)):=by
  have bl:FF w ((w2.alloc (.cells (gi n).toArray 90)).alloc (.cells d 81)).drew:=((s.alloc ak _).alloc fS _).drew;have eG:((w2.alloc (.cells (gi n).toArray 90)).alloc (.cells d 81)).drew.heap[G]?=some (.cells (gi n).toArray 90):=by
   have bO:=(au (w2.alloc (.cells (gi n).toArray 90)).heap.size (w2.alloc (.cells (gi n).toArray 90))).alloc (aj _) (.cells d 81);have L:=bO.block w2.heap.size aY;rw[bo]at L;rw[<-J];exact L
  have eQ:((w2.alloc (.cells (gi n).toArray 90)).alloc (.cells d 81)).drew.heap[G+1]?=some (.cells d 81):=by
   have L:=bo (w2.alloc (.cells (gi n).toArray 90)) (.cells d 81);rw[show (w2.alloc (.cells (gi n).toArray 90)).heap.size=G+1 by rw[<-J];simp]at L;exact L
  have Y:∀i,((w2.alloc (.cells (gi n).toArray 90)).alloc (.cells d 81)).drew.cell? (aA G i)=(gi n)[i]?:=λi=>by
   rw[bN _ _ _ _ _ _ eG,bH]
  refine⟨bl,HZ.out▸eQ,⟨_,_,eG⟩,λi=>by simp[World.frozen?,eG],λi M=>ak,λi _ M=>?_,λi M=>ak,λi M=>ak,λi j M=>ak⟩;have Z:=CX n i M;exact⟨(Y _).trans Z.1,(Y _).trans Z.2.1,(Y _).trans Z.2.2.1,(Y _).trans Z.2.2.2⟩
 have HT:Hid (((w2.alloc (.cells (gi n).toArray 90)).alloc (.cells d 81)).drew.cell? (FI w 0)=some (iI tob)/\((w2.alloc (.cells (gi n).toArray 90)).alloc (.cells d 81)).drew.cell? (FI w 1)=some (iI tv)/\((w2.alloc (.cells (gi n).toArray 90)).alloc (.cells d 81)).drew.cell? (FI w 2)=some (iI td)):=by
  have z:FF w2 ((w2.alloc (.cells (gi n).toArray 90)).alloc (.cells d 81)).drew:=(((au w2.heap.size w2).alloc (aj _) _).alloc aY _).drew;exact⟨(z.cell (p:=(FI w 0)) jB).trans s0,(z.cell (p:=(FI w 1)) jB).trans U,(z.cell (p:=(FI w 2)) jB).trans V⟩
 generalize ((w2.alloc (.cells (gi n).toArray 90)).alloc (.cells d 81)).drew=w3 at *;clear J f s s0 U V HZ a0;refine l.out _ _ HT.out (λqH=>?_);clear l K HT;try simp only[Act.put,ax,aJ,aI]
 refine la 5 λK l=>?_;go_simp;refine l.out _ _ ?_;clear l K qH;have O:w3.cell? (aA (G+1) 12409)=some (.slice (some (aA G 0)) n n):=(X.out.e 12409).trans (AQ ..);go_wp2;go_loopw [30] (λi wr=>∃(k:Nat) (c m:Nat->Nat),k<=n/\i = iI k/\Nb w wr (G+1) G n k tob tv td c m) (λi _=>n-(intOf i).toNat)
 case atStart=>exact⟨0,_,_,ak,rfl,X.out⟩
 case round=>
  obtain⟨k,c,m,hk,rfl,N⟩:=hrel;by_cases B:k<n
  .have r:=N.h k ak B;have f:=F.out;have C:=CE tob tv td 0 wr ((N.e 12409).trans (AQ ..)) ((N.e 0).trans (Hn ..)) ((N.e 1).trans (Ho ..)) ((N.e 2).trans (Hp ..)) B n4 r.1 r.2.2.1 r.2.2.2 N.t ak ak ak ak h4 h5 ak ak;rw[show (0:Int)*4+(k:Int)=k by omega]at C;have ck:(k:Int)<(n:Int):=ak;have cj:(0:Int)<=(k:Int):=ak;have P:Hid (∀w2 x q,FF wr w2->bi w2 x q (K.j k (ij td tob) (ij td tv))->wr.heap.size<=x->wr.heap.size<=q->∃c m,Nb w (eu w2 G k x 0) (G+1) G n (k+1) tob tv td c m):=λw2 x q a1 a2 a3 a4=>⟨_,_,N.H B ak ak a1 a2 a3 a4⟩;clear N r X O f;go_wp2_with fail
   refine C.mono ?_;rintro e w7⟨rfl,x,q,w6,a1,a2,a3,a4,R⟩;have bR:Hid (∃c m,Nb w w7 (G+1) G n (k+1) tob tv td c m):=by rw[R];exact P.out w6 x q a1 a2 a3 a4
   clear P C a1 a2 R;go_wp2;go_roundw
   case rel=>
    obtain⟨c',m',ci⟩:=bR.out;exact⟨k+1,c',m',ak,by go_num,ci⟩
   case measure=>simp[intOf];omega
  .obtain rfl:k=n:=ak;have f:=F.out;have hD:=N.j n1 n4 ⟨0,0,0,0,0⟩;have hL:=N.I ak ak ⟨0,0,0,0,0⟩;have T:=CP (Wd.h tob tv td k) 0 wr hD rfl (fV.a5 h1 h2 h3 h4 h5) (λq=>by simp[Wd.h]at q);have P:Hid (∀(a:Ad) w',bF w' ⟨G+1,G,c,m,a⟩ (Wd.h tob tv td k).start->Fz ⟨G+1,G,c,m,⟨0,0,0,0,0⟩⟩ (Wd.h tob tv td k) wr ⟨G+1,G,c,m,a⟩ (Wd.h tob tv td k).start w'->FF w w'/\Ex w.heap.size w' ⟨G+1,G,c,m,a⟩ (Wd.h tob tv td k).start):=λa w' _ b2=>⟨N.b.trans (b2.I hL hD.I),hL.e b2 N.b.size⟩;clear N X O f hD hL;go_wp2_with fail
   refine T.mono ?_;rintro e w7⟨rfl,a,d1,d2⟩;have HF:=P.out a w7 d1 d2;clear P T d2;go_wp2;exact bn (v:=.tuple #[tp (G+1),.nilIface]) (by simp[results,results22,go_sem]) rfl ⟨⟨G+1,G,c,m,a⟩,rfl,d1,HF.1,HF.2⟩
def vr(A:Wa)(s:Wd)(C:Nat)(w:Ba)(h:bF w A s)(g:fV s C)(y:C<=10000000000)(d:iZ w)(i:0<A.Q):
  Calls prog 31 #[tp A.Q] w λe w'=>e=.returned (eV (if s.sv.isSome=true then 6 else 0))/\∃a,bF w' {A with a:=a} s.e/\Fz A s w {A with a:=a} s.e w':=by
 have c:=pU h;cases hs:s.sv with
 |some v=>
  rw[hs]at c;have k:Hid (s.e=s):=by unfold Hid Wd.e;rw[hs]
  have l:Hid (bF w {A with a:=A.a} s.e/\Fz A s w {A with a:=A.a} s.e w):=by rw[k.out];exact⟨h,Fz.j⟩

  go_in;go_wp2_with fail
  apply c.mono;rintro e w2⟨rfl,rfl⟩;go_wp2;go_ret;exact⟨rfl,_,l.out⟩
 |none=>
  rw[hs]at c;have k:Hid (s.e=({s with cm:=s.cm+1}:Wd).start):=by unfold Hid Wd.e;rw[hs]
  have n:=h.b.j;have o:=h.b.e 12411;have p:IntKind.i64.wrap (s.cm+1)=s.cm+1:=jA (jd g.O) (jd g.V);let ⟨r,t⟩:=h.j (s.cm+1)
  have f:iZ (w.setCell ⟨A.Q,12411,none⟩ (.int .i64 (s.cm+1))):=by
   have h0:=d;unfold Bare.iZ at h0⊢;rw[am _ _ _ _ (by intro q;injection q with q _;omega)];exact h0
  have m:=CP (A:=A) {s with cm:=s.cm+1} (C+1) _ r hs g.I (λ_=>⟨i,f⟩)

  go_in;go_wp2_with fail
  apply c.mono;rintro e w2⟨rfl,rfl⟩;go_wp2_with fail
  apply m.mono;rintro e w3⟨rfl,a,u,x⟩;have l:Hid (bF w3 {A with a:=a} s.e/\Fz A s w2 {A with a:=a} s.e w3):=by rw[k.out];exact⟨u,t.e x⟩

  go_wp2;go_ret;exact⟨rfl,_,l.out⟩
end Wld
end Go.Proofs.YtbebfliimjjohabGreatDoor
