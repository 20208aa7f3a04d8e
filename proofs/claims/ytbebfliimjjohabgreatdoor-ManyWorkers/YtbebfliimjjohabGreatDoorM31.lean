/- Parts of the proof. -/
import Derived.Test.YtbebfliimjjohabGreatDoorM30
set_option maxRecDepth 100000
set_option maxHeartbeats 8000000
set_option linter.all false
open Go.Proofs.Tryz
namespace Go.Proofs.YtbebfliimjjohabGreatDoor
open Go.RowKit Go.Maps Go
open Lease (ic jm fY mx kk eI fN Ob cy de bQ dW)
open Cache (E mj qE tp aZ bq)
open Wal (R jv fH du bM Oq Fw cO)
open Net (eD gJ dp)
open Num (M iH)
namespace Wld
variable{x td:Int}{c k:K}{o C i B:Nat}{s:Sv}{w:Wd}
def rz(s s':Sv):Prop:=s'.i=s.i/\s'.b=s.b
def rz.h:rz s s:=⟨rfl,rfl⟩
def rz.e{a b c:Sv}(h:rz a b)(k:rz b c):rz a c:=⟨k.1.trans h.1,k.2.trans h.2⟩
def ry.e{s':Sv}(h:ry s s'):rz s s':=by
 obtain⟨D,v,z,rfl⟩:=h;exact⟨rfl,rfl⟩
def Ct(s:Sv)(r:R):rz s (s.af r).1:=by
 unfold Sv.af;split;exact rz.h;split;exact rz.h;split<;>exact⟨rfl,rfl⟩
def D7(s:Sv)(m:M)(o:Nat):rz s (s.I m o).1:=by
 have h:=Ct s (s.V m o);unfold Sv.I;split;exact h.e ⟨(nR _ _).1,(nR _ _).2.1⟩;exact h
def si(o:Nat)(now:Int):∀(f:Nat) (s:Sv),rz s (s.ag o now f).1
 |0,s=>rz.h (s:=s)
 |f+1,s=>by
  unfold Sv.ag;split;exact rz.h;have a:=(m6 (s:=s) o now).e;split;exact a;split;exact a;rename_i m rest _;have b:=a.e (D7 (s.e o now).1 m o);split;exact b;exact(b.e ⟨rfl,rfl⟩).e (si o now f _)
def CD(s:Sv)(m:M):rz s (s.aU m o).1:=by
 unfold Sv.aU;split;exact rz.h;split<;>exact⟨rfl,rfl⟩
def ub(s:Sv)(m:M)(now:Int):rz s (s.an m now).1:=by
 unfold Sv.an;split;exact rz.h;split;unfold Sv.aw Sv.a5

 split<;>exact⟨rfl,rfl⟩;split;unfold Sv.ab;split;exact rz.h;split;exact rz.h;split;exact CD s m;exact((CD s m).e (si _ now _ _)).e (m6 _ now).e;split;unfold Sv.ah;have a:=(nT s (bK m.c:Nat) now 8).e;split;exact a;split;exact a;exact a.e ⟨rfl,rfl⟩;split;unfold Sv.aq;split;exact rz.e ⟨rfl,rfl⟩ (si _ now _ _);exact rz.h;exact rz.h
def ug(s:Sv)(now:Int):∀k,rz s (s.ac now k).1
 |0=>rz.h (s:=s)
 |k+1=>(ug s now k).e (si k now _ _)
def fV.ae(h:fV w C){r:Sv×List M}(a:kR r.1 (400*C))(c:r.1.i=w.b)(d:r.1.b=w.i):fV (w.av r) C:=(fV.a3 r.2 (h.ag a c d)).a7
def fV.ao(h:fV w C)(c:KB k C):fV (w.ac i k) C:=
 ⟨h.F,h.x,h.y,h.u,h.A,h.B,h.W,h.c1,λj a=>by
  show SB (cq w.bm i {w.bm i with k:=k} j) C w.bO.length;unfold cq;split;rename_i e;subst e;have q:=h.s j a;exact⟨c,q.b,q.e,q.h,q.i,q.o,q.j⟩;exact h.s j a,h.O,h.V,h.Z,h.t,h.j,h.J,h.o,h.H,h.b,h.h⟩
def fV.an(h:fV w C)(i:Nat):fV (w.V i) C:=by
 unfold Wd.V;split;exact h;refine⟨h.F,h.x,h.y,h.u,h.A,h.B,h.W,h.c1,λj a=>?_,h.O,h.V,dD h.Z,h.t,h.j,h.J,h.o,h.H,h.b,h.h⟩;show SB (cq w.bm i _ j) C (w.bO.modify _ _).length;rw[List.length_modify];unfold cq;split;rename_i e;subst e;have q:=h.s j a;refine⟨q.k,q.b,q.e,q.h,q.i,?_,?_⟩;dsimp only;split;omega;exact q.o;dsimp only;split;omega;exact q.j;exact h.s j a
def fV.ab(h:fV w C)(k:Nat):fV (w.j k) (C+1):=by
 unfold Wd.j;split;exact h.e ak;rename_i p i;have d:=h.t p (fg i);have c:∀D,C+1<=D->fV {w with dP:=w.dP.eraseIdx k,cm:=w.cm+1} D:=λD l=>by
  have a:=h.e (aO (cL C) l);refine⟨a.F,a.x,a.y,a.u,a.A,a.B,a.W,a.c1,a.s,by have:=h.O;show 0<=w.cm+1;omega,by have:=h.V;show w.cm+1<=_;omega,a.Z,λq f=>h.t q (gI f),by have:=h.j;show (w.dP.eraseIdx k).length<=200;rw[yp];split<;>omega,a.J,a.o,a.H,a.b,a.h⟩
 unfold Wd.b1;split;have h0:fV {w with dP:=w.dP.eraseIdx k,cm:=w.cm} C:=⟨h.F,h.x,h.y,h.u,h.A,h.B,h.W,h.c1,h.s,h.O,h.V,h.Z,λq f=>h.t q (gI f),by have:=h.j;show (w.dP.eraseIdx k).length<=200;rw[yp];split<;>omega,h.J,h.o,h.H,h.b,h.h⟩;unfold Wd.H;split;exact c _ (aj _);rename_i s m;obtain⟨k1,r,v,_⟩:=h.J s m;have g:=ub s p.2 w.dJ;exact(c _ (aj _)).ae (((k1.ae (lL d).1 w.dJ).1).e ak) (g.1.trans r) (g.2.trans v);split;rename_i z;have E:p.1.toNat<w.n:=by
  simp[Wd.ah]at z;omega
 exact(fV.af _ ((c _ (aj _)).ao ((h.s _ E).k.O p.2 ⟨(lL d).2,(lL d).1.2.2⟩).1)).an _;exact c _ (aj _)
def fV.a9(h:fV w C)(k:Nat):fV (w.ca k) C:=
 ⟨h.F,h.x,h.y,h.u,h.A,h.B,h.W,h.c1,h.s,h.O,h.V,h.Z,λq a=>h.t q (gI a),by have:=h.j;show (w.dP.eraseIdx k).length<=200;rw[yp];split<;>omega,h.J,h.o,h.H,h.b,h.h⟩
def fV.bs(h:fV w C){k:Nat}:fV (w.ao k) C:=by
 unfold Wd.ao;split;exact h;rename_i p c;split;exact⟨h.F,h.x,h.y,h.u,h.A,h.B,h.W,h.c1,h.s,h.O,h.V,h.Z,λq d=>by
  rcases cI.1 d with a|a
  exact h.t q a;rw[bA.1 a];exact h.t p (fg c),fS,h.J,h.o,h.H,h.b,h.h⟩
 exact h
def fV.bu(h:fV w C)(a:i<w.n):fV (w.b5 i) (C+1):=
 fV.af _ ((h.e (cL C)).ao ((h.s i a).k.Z (h.s i a).b (h.s i a).e).1)
def fV.I(h:fV w C):fV {w with cm:=w.cm+1} (C+1):=by
 have a:=h.e (cL C);exact⟨a.F,a.x,a.y,a.u,a.A,a.B,a.W,a.c1,a.s,by have:=h.O;show 0<=w.cm+1;omega,by have:=h.V;show w.cm+1<=_;omega,a.Z,a.t,a.j,a.J,a.o,a.H,a.b,a.h⟩
def fV.ai(h:fV w C)(a:i<w.n):fV (w.aw i) (C+2):=h.I.bu a
def fV.a2(h:fV w C)(hc:KB c (C+2)):fV (w.ai i c) (C+2):=by
 have a:=h.e (show C<=C+2 by omega);refine⟨a.F,a.x,a.y,a.u,a.A,a.B,a.W,a.c1,λj d=>?_,by have:=h.O;show 0<=w.cm+1;omega,by have:=h.V;show w.cm+1<=_;omega,by have:=h.Z;show (w.bO++[_]).length<=_;simp;omega,a.t,a.j,a.J,a.o,a.H,a.b,a.h⟩;show SB (cq w.bm i _ j) (C+2) (w.bO++[_]).length;unfold cq;split;rename_i e;subst e;have q:=a.s j d;exact⟨hc,q.b,q.e,q.h,q.i,jB,fS⟩;have q:=a.s j d;exact q.H (aj _) aY
def fV.av(h:fV w C)(b:i<w.n)(hc:KB c (C+2)):fV (w.al i c) (C+3):=by
 have a:=(h.a2 (i:=i) hc).an i;unfold Wd.al Wd.b6;split;exact a.e ak;apply a.bu;unfold Wd.V;split<;>exact b
def yo:pT x<=549755813888:=by unfold pT;split<;>omega
def yn(h:0<=x):0<=pT x:=by unfold pT;split<;>omega
def fV.aq(h:fV w C){b:Int}{f:Nat->Int}(v:0<=b)(l:∀i,i<w.n->0<=f i):fV (w.aq b f) (C+1):=by
 have a:=h.e (cL C);have c:fV (w.b3 b f) (C+1):=by
  refine⟨a.F,a.x,a.y,a.u,a.A,a.B,yn (jd h.W),yo,λj d=>?_,by have:=h.O;show 0<=w.cm+1;omega,by have:=h.V;show w.cm+1<=_;omega,a.Z,a.t,a.j,a.J,a.o,a.H,a.b,a.h⟩;have q:=a.s j d;exact⟨q.k,yn (Pz q.b (l j d)),yo,q.h,q.i,q.o,q.j⟩
 unfold Wd.aq Wd.a3;split;exact c;rename_i s m;obtain⟨k1,p,r,_⟩:=h.J s m;have g:=ug s (w.b3 b f).dJ 8;exact c.ae ((kR.I k1 _ 8).1.e ak) (g.1.trans p) (g.2.trans r)
def mx0(x:Int):0<=mx x 0:=by unfold Lease.mx;split<;>omega
def fV.a4(h:fV w C)(k:x<=9223372036854775807)(a:Int):fV (w.ab x a) C:=by
 have d:mx x 0<=9223372036854775807:=by unfold Lease.mx;split<;>omega
 unfold Wd.ab;split;rename_i c;exact⟨h.F,h.x,h.y,h.u,h.A,h.B,h.W,h.c1,h.s,h.O,h.V,h.Z,h.t,h.j,λv e=>(by rw[show ({w with qp:=true,sD:=mx x 0}:Wd).sv=w.sv from rfl,c]at e;cases e),h.o,h.H,mx0 x,d⟩;rename_i s c;obtain⟨k1,f,g,_⟩:=h.J s c;exact h.ag ⟨k1.t,k1.p,k1.n,k1.Ey,k1.Cs,k1.D1,k1.i,k1.b,mx0 x,d,k1.Ab,k1.Pw,k1.T9,k1.N9⟩ f g
def fV.bd(h:fV w C):fV w.aU (C+1):=by
 have a:=h.I;exact⟨a.F,a.x,a.y,a.u,a.A,a.B,a.W,a.c1,a.s,a.O,a.V,a.Z,a.t,a.j,λv c=>by simp[Wd.aU]at c,a.o,a.H,a.b,a.h⟩
def kR.ai:∀(l:List R) {s:Sv},(∀r∈l,AF s.rs.length r)->kR s B->s.bR<=s.rs.length->kR (l.foldl Sv.h s) B/\(l.foldl Sv.h s).bR<=s.rs.length
 | [],_,_,h,e=>⟨h,e⟩
 |r::l,s,a,h,e=>by
  have b:=a r aY;have:=kR.ai l (s:=s.h r) (λx c=>by rw[pI];exact a x (by simp[c])) (h.O b) (by
   rw[pI];unfold Sv.h;split;exact b.2.2.2.1;split<;>exact e)
  rwa [pI]at this
def kR.aw{to' tv:Int}{a:List R}{now:Int}(d:∀r∈a,AF a.length r)(h:a.length<=200):kR (Sv.a6 to' tv td a false 0 now) 0/\(Sv.a6 to' tv td a false 0 now).i=to'/\(Sv.a6 to' tv td a false 0 now).b=tv/\0<=(Sv.ae to' tv td a false 0).bR/\(Sv.ae to' tv td a false 0).bR<=1000:=by
 have ⟨f,j⟩:=kR.ai (B:=0) a (s:=Sv.al to' tv td a false 0) d ⟨by simp[Sv.al],by simp[Sv.al],by simp[Sv.al],by simp[Sv.al],by simp[Sv.al],h,by simp[Sv.al],by simp[Sv.al],by simp[Sv.al],by simp[Sv.al],d,by simp[Sv.al],by simp[Sv.al],by simp[Sv.al];decide⟩ (by simp[Sv.al]);have ⟨k,a2,_,_,_,_,_,_,_,_,_,_,_,c⟩:=rC a (Sv.al to' tv td a false 0);have o:(Sv.ae to' tv td a false 0).bR<=a.length:=j;have h0:0<=(Sv.ae to' tv td a false 0).bR:=f.Pw;have e:(Sv.ae to' tv td a false 0).rs=a:=c;have g:kR ((Sv.ae to' tv td a false 0).ai now) 0:={f with Pw:=by show 0<=(Sv.ae to' tv td a false 0).bR+1;omega,T9:=by show (Sv.ae to' tv td a false 0).bR+1<=201;omega};have l:=(g.av (r:=tZ ((Sv.ae to' tv td a false 0).ai now).bR) (by
  refine⟨kh 0,by show (0:Int)<=_;omega,g.Pw,?_,by show (0:Nat)<=20;omega,kh 0,by show (-1:Int)<8;omega⟩;show (Sv.ae to' tv td a false 0).bR+1<=(((Sv.ae to' tv td a false 0).rs.length+1:Nat):Int);rw[e];omega)).1
 have ⟨m,n⟩:=Ct ((Sv.ae to' tv td a false 0).ai now) (tZ ((Sv.ae to' tv td a false 0).ai now).bR);exact⟨l,m.trans k,n.trans a2,h0,ak⟩
def fV.start(h:fV w C):fV w.start C:=by
 let ⟨a,c,d,_⟩:=kR.aw (to':=w.b) (tv:=w.i) (td:=w.o) (now:=w.dJ) h.o h.H
 exact h.ag (a.e ak) c d
def fV.ac(h:fV w C):fV w.e (C+1):=by
 unfold Wd.e;split;exact h.e ak;exact h.I.start
def mw{t:Int}(h0:0<=td)(c:td<=500)(a:0<=t)(b:t<=274877906944):0<=ij td t/\ij td t<=t:=by
 unfold ij;constructor;exact Int.ediv_nonneg (qG a ak) ak;apply Int.ediv_le_of_le_mul ak;apply Int.mul_le_mul_of_nonneg_left ak a
def fV.be(h:fV w C)(i:Nat){life:Int}(h0:0<=life)(c:life<=C):fV (w.ch i life) C:=by
 refine⟨h.F,h.x,h.y,h.u,h.A,h.B,h.W,h.c1,λj a=>?_,h.O,h.V,h.Z,h.t,h.j,h.J,h.o,h.H,h.b,h.h⟩;show SB (cq w.bm i _ j) C w.bO.length;unfold cq;split;rename_i e;subst e;have q:=h.s j a;obtain⟨b1,b2⟩:=mw h.A h.B h.F h.x;obtain⟨b3,b4⟩:=mw h.A h.B h.y h.u;have:=h.x;have:=h.u;exact⟨⟨by simp[K.j],by simp[K.j],by simp[K.j],by simp[K.j],by simp[K.j],by simp[K.j],by simp[K.j],b1,by simp[K.j];omega,b3,by simp[K.j];omega,by simp[K.j],by simp[K.j],by simp[K.j],by simp[K.j],λx d=>(by simp[K.j]at d),by simp[K.j];decide⟩,q.b,q.e,h0,c,jB,jB⟩;exact h.s j a
def fV.bc(h:fV w C)(a:i<w.n):fV (w.bs i) (C+1):=by
 have q:=h.s i a;exact h.I.be i (jd q.h) (jd q.i)
def oF(l:List M):Prop:=∀m∈l,m.d.size<=20
def oF.e:oF []:=λm a=>by simp at a
def oF.one{m:M}(h:m.d.size<=20):oF [m]:=λx a=>by rw[bA.1 a];exact h
def oF.h{a b:List M}(h:oF a)(k:oF b):oF (a++b):=λm c=>(cI.1 c).elim (h m) (k m)
def sg(now:Int):∀(f:Nat) (s:Sv),oF (s.ag o now f).2
 |0,s=>oF.e
 |f+1,s=>by
  unfold Sv.ag;split;exact oF.e;split;exact oF.e;split;exact oF.e;split;exact oF.e;intro x a;rcases bG.1 a with q|q
  rw[q];show (⟨#[]⟩:DS).size<=20;decide;exact sg now f _ x q
def vq(s:Sv)(a now:Int):∀k,oF (s.j a now k).2
 |0=>oF.e
 |k+1=>by
  apply (vq s a now k).h;split;exact oF.one (by show (⟨#[]⟩:DS).size<=20;decide);exact oF.e
def JO(h:kR s B)(m:M)(now:Int):oF (s.an m now).2:=by
 have a:(⟨#[]⟩:DS).size<=20:=cn;unfold Sv.an;split;exact oF.e;split;exact oF.one (h.N9 _);split;unfold Sv.ab;split;exact oF.one a;split;exact oF.e;split;exact oF.e;refine oF.h (sg now _ _) λx b=>?_;obtain⟨c,_,rfl⟩:=ed.1 b;exact a;split;unfold Sv.ah;split;exact vq s _ now 8;split<;>exact oF.one a;split;unfold Sv.aq;split;exact sg now _ _;exact oF.e;exact oF.e
def AN(s:Sv)(now:Int):∀k,oF (s.ac now k).2
 |0=>oF.e
 |k+1=>(AN s now k).h (sg (o:=k) now _ _)
def G6(k:K)(m:M):oF (k.I m).2:=by
 unfold K.I;split;exact oF.one (by show (⟨#[]⟩:DS).size<=20;decide);split;exact oF.e;split;exact oF.e;split;exact oF.e;split;exact oF.e;split<;>exact oF.e
def Gm(h:KB k C)(now:Int):oF (k.ag now):=by
 have a:(⟨#[]⟩:DS).size<=20:=cn;unfold K.ag;refine oF.h ?_ ?_;split;exact oF.one a;exact oF.e;split;apply oF.one;unfold K.ab;split;exact h.J;exact a;exact oF.e
end Wld
namespace Num
def FV:∀(c d x y:List Int),c.length=d.length->c.all jK=true->d.all jK=true->iJ c++x=iJ d++y->c=d/\x=y
 | [],[],x,y,_,_,_,h=>⟨rfl,h⟩
 | [],_::_,_,_,h,_,_,_=>by cases h
 |_::_,[],_,_,h,_,_,_=>by cases h
 |a::c,b::d,x,y,g,e,f,h=>by
  simp only[Uc,aR]at e f;have i:iJ (a::c)=nb a.toNat++iJ c:=by simp[iJ]
  have j:iJ (b::d)=nb b.toNat++iJ d:=by simp[iJ]
  rw[i,j,bP,bP]at h;let ⟨n,k⟩:=Y5 h
  let ⟨l,m⟩:=FV c d x y (dD g) e.2 f.2 k
  have o:=eo e.1;have p:=eo f.1;exact⟨by rw[l,show a=b by omega],m⟩
def RI{a b:DS}(h:fO a=fO b):a=b:=by rw[<-pA a,<-pA b,h]
def NC{m n:M}{t:List Int}(d:iH m=true)(e:iH n=true)(h:m.h++t=n.h):m=n/\t=[]:=by
 simp only[iH,aR]at d e;rw[m.H,n.H,bP]at h;let ⟨f,g⟩:=FV m.j n.j _ _ rfl d.2 e.2 h
 simp only[M.I,dh,cS,gr]at g;let ⟨i,r,a⟩:=g
 have k:=cr List.length a;rw[aL,dB,dB]at k;have o:t=[]:=dX ak;subst o;rw[ei]at a;have p:=RI a;have q:m.l=n.l:=by
  revert i;unfold lZ;cases m.l<;>cases n.l<;>decide
 refine⟨?_,rfl⟩;let ⟨s,u,a2,a3,a4,a5,a6,a7,a8⟩:=m
 let ⟨b0,b1,b2,b3,b4,b5,b6,b7,b8⟩:=n
 simp only[M.j,gr,lD]at f;obtain⟨rfl,rfl,rfl,rfl,rfl,rfl,rfl⟩:=f;have b:a7=b7:=q;have c:a8=b8:=p;rw[b,c]
def ND{m n:M}(a:iH m=true)(b:iH n=true)(h:m.h=n.h):m=n:=(NC (t:=[]) a b (by rw[ei];exact h)).1
end Num
namespace Wire
variable{m:M}{B:Nat}{w:Ba}
def Sb{v:Dv}{l:List Int}(h:tS w B v l)(n:0<l.length)(i:∀x∈l,0<=x/\x<256):∃g a,v=.slice (some (aA g 0)) l.length a/\l.length<=a/\a<=9223372036854775807/\ru w w.heap.size v l:=by
 have hc:=@Ep w B 5 1 v l.length (l.map (Value.int .u8)) h;rcases h.2 with⟨_,h0⟩|⟨g,a,k,rfl,_,_,c,m,_⟩
 omega;have b:= m;refine⟨g,a,rfl,c,b,_,a,rfl,c,b,i,λ_=>⟨g,0,rfl,(h.h.lt g rfl).2,λj d=>?_⟩⟩;have f:=hc (g:=g) rfl j (.int .u8 (l.getD j 0)) (by rw[cU,aE d,aD,aE d];rfl);have e:((aA g 0):Addr).add j=(aA g (0+j)):=by unfold Addr.add;split<;>simp_all
 rw[e]at f;exact f
def wD(h:iH m=true):m.h.length<=64/\0<m.h.length:=by
 simp only[iH,aR,f9]at h;have a:=(Num.mY _ h.2).1;have b:m.j.length=7:=rfl;rw[Num.M.H,aL];simp only[Num.M.I,dh,cS,bJ,Num.dB];omega
def R8(a:iH m=true){v:Dv}(h:ru w B v m.h)(d:B<=w.heap.size):
  Calls prog 64 #[v] w λe c=>e=.returned (.tuple #[M.ab m,.nilIface])/\FF w c:=by
 have i:=wD a;apply (Wk h ak d).mono;rintro e c⟨j,k,rfl,f,⟨rfl,g,b⟩|⟨_,_,b⟩⟩;rw[Num.ND a g b];exact⟨rfl,f⟩;exact absurd rfl (b m a)
end Wire
open Num (dq)
namespace Wld
variable{A:Wa}{s:Wd}{w:Ba}
def pU(h:bF w A s):Calls prog 14 #[tp A.Q] w λe a=>e=.returned (.bool s.sv.isSome)/\a=w:=by
 have c:=h.b.o;cases hs:s.sv with
 |none=>
  rw[hs]at c;unfold LI at c;go_in;go_wp2;go_ret;exact⟨rfl,rfl⟩
 |some v=>
  rw[hs]at c;unfold LI at c;go_in;go_wp2;go_ret;exact⟨rfl,rfl⟩
def kJ(k:Int)(h:bF w A s):Calls prog 61 #[tp A.Q,iI k] w λe d=>e=.returned (.bool (s.ah k))/\d=w:=by
 have c:=h.b.h;have g:=h.B;unfold Wd.ah;by_cases h0:0<=k
 .by_cases a:k<(s.n:Int)
  .rw[aX ⟨h0,a⟩];go_in;go_wp2;go_ret;exact⟨rfl,rfl⟩
  .rw[aK (λq=>a q.2)];have f:= aK a;go_in;go_wp2;go_ret;exact⟨rfl,rfl⟩
 .rw[aK (λq=>h0 q.1)];have f:= aK h0;go_in;go_wp2;go_ret;exact⟨rfl,rfl⟩
def CL(h:bF w A s):Calls prog 17 #[tp A.Q] w λe a=>e=.returned (iI s.dP.length)/\a=w:=by
 have b:=Net.Rz h.p;rw[bz]at b;go_in;go_wp2_with (go_at_call 43;refine b.mono ?_;rintro e a⟨rfl,rfl⟩)
 go_ret;exact⟨rfl,rfl⟩
structure Sd(w wr:World)(A:Wa)(s:Wd)(t:Int)(l:List M)(B:Nat)(v:Value)(k:Nat):Prop where
 h:bF wr A (s.O t (l.take k))
 e:Fz A s w A (s.O t (l.take k)) wr
 b:gR wr B v l
def Pf(s:Wd)(t:Int)(l:List M){k:Nat}(h:k<l.length):s.O t (l.take (k+1))=(s.O t (l.take k)).af t l[k]:=by
 unfold Wd.O;rw[bw h,EC];rfl
def wM(t:Int)(l:List M)(B:Nat)(v:Dv)(w:Ba)(h:bF w A s)(hl:gR w B v l)(hll:l.length<=200)(hsm:oF l):
  Calls prog 124 #[tp A.Q,iI t,v] w λe w'=>e=.returned (.tuple #[])/\bF w' A (s.O t l)/\Fz A s w A (s.O t l) w':=by
 let ⟨av,cv,hav,hcv,hcn⟩:=Net.cP hl
 subst hav;have HS0:Hid (Sd w w A s t l B (.slice av l.length cv) 0):=⟨h,Fz.j,hl⟩

 go_in;go_wp2;go_loopw [12] (λi wr=>∃k:Nat,k<=l.length/\i=iI k/\Sd w wr A s t l B (.slice av l.length cv) k) (λi _=>l.length-(intOf i).toNat)
 case atStart=>exact⟨0,ak,rfl,HS0.out⟩
 case round=>
  obtain⟨k,hk,rfl,D⟩:=hrel;by_cases hlt:k<l.length
  .let ⟨ao,c,hao,hg⟩:=D.b.O
   let ⟨g,hge,hgB,hgs,hcell⟩:=hg ak
   injection hao with hao _ hcc
   subst hao;subst hcc;subst hge;have HT:Hid (s.O t (l.take (k+1))=(s.O t (l.take k)).af t l[k]):=Pf s t l hlt;have hsz:=hsm l[k] (bp hlt);have q0:=hcell k 0 hlt ak;have q1:=hcell k 1 hlt ak;have q2:=hcell k 2 hlt ak;have q3:=hcell k 3 hlt ak;have q4:=hcell k 4 hlt ak;have q5:=hcell k 5 hlt ak;have q6:=hcell k 6 hlt ak;have q7:=hcell k 7 hlt ak;have q8:=hcell k 8 hlt ak;let ⟨m,hm⟩:∃m,l[k]=m:=⟨_,rfl⟩
   rw[hm]at q0 q1 q2 q3 q4 q5 q6 q7 q8 hsz HT;have q0':cC wr (aA g (k*9)) (iI m.k):=q0;simp only[gh,bv,bI]at q1 q2 q3 q4 q5 q6 q7 q8;have hkI:(k:Int)<(l.length:Int):=ak;have hkI0:(0:Int)<=(k:Int):=ak;have HD:Hid (Sd w wr A s t l B (.slice (some (aA g 0)) l.length cv) k):=D;clear D hg hcell hm q0;have hput:Hid ((s.O t (l.take k)).af t m=if iH m=true/\(s.O t (l.take k)).dP.length<200 then {s.O t (l.take k) with dP:=(s.O t (l.take k)).dP++[(t,m)]} else s.O t (l.take k)):=rfl;cases hok:iH m with
   |false=>
    have henc:=λw=>Wire.Ld w ak hok;unfold Wire.M.ab at henc;have HP:Hid (s.O t (l.take (k+1))=s.O t (l.take k)):=by
     unfold Hid;rw[HT.out,hput.out,hok,ay aY]
    go_wp2_with fail
    generalize hW:wr.alloc (.cells #[iI m.k,iI m.c,iI m.n,iI m.e,iI m.s,iI m.o,iI m.v,.bool m.l,.string m.d] 129)=w2;have hb2:FF wr w2:=by rw[<-hW];exact(au _ _).alloc (aj _) _
    clear hW;apply (henc w2).mono;rintro e w3⟨rfl,hb3⟩;have hb23:FF wr w3:=hb2.trans (hb3.mono hb2.size);have HS3:Hid (Sd w w3 A s t l B (.slice (some (aA g 0)) l.length cv) (k+1)):=by
     let ⟨x1,x2⟩:=HD.out.h.h hb23
     refine⟨HP.out▸x1,by rw[HP.out];exact HD.out.e.e x2,HD.out.b.j hb23⟩

    go_wp2;go_roundw
    case rel=>exact⟨k+1,ak,by go_num,HS3.out⟩
    case measure=>simp[intOf];omega
   |true=>
    have henc:=λw=>Wire.R9 w ak hok;unfold Wire.M.ab at henc;have HOK:Hid (iH m=true):=hok;clear hok;go_wp2_with fail
    generalize hW:wr.alloc (.cells #[iI m.k,iI m.c,iI m.n,iI m.e,iI m.s,iI m.o,iI m.v,.bool m.l,.string m.d] 129)=w2;have hb2:FF wr w2:=by rw[<-hW];exact(au _ _).alloc (aj _) _
    clear hW;apply (henc w2).mono;rintro e w3⟨vb,rfl,hH3,hb3⟩;have hb23:FF wr w3:=hb2.trans (hb3.mono hb2.size);let ⟨x1,x2⟩:=HD.out.h.h hb23
    have hr3:=HD.out.b.j hb23;have hlen:=Wire.wD HOK.out;obtain⟨gb,cb,rfl,_,_,hsees⟩:=Wire.Sb hH3 ak (Num.tQ HOK.out);have hsd:=Net.RF t x1.p hsees (aj _);have HX:Hid (bF w3 A (s.O t (l.take k))/\Fz A s w A (s.O t (l.take k)) w3/\gR w3 B (.slice (some (aA g 0)) l.length cv) l):=⟨x1,HD.out.e.e x2,hr3⟩

    go_wp2_with fail
    apply hsd.mono;rintro e w4⟨rfl,hN4,hO4⟩;have HS4:Hid (Sd w w4 A s t l B (.slice (some (aA g 0)) l.length cv) (k+1)):=by
     let ⟨y1,y2,y3⟩:=HX.out
     have hmap:Net.RE ((s.O t (l.take k)).dP.map sE) (t,dq m.h)=((s.O t (l.take k)).af t m).dP.map sE:=by
      rw[hput.out];unfold Net.RE;rw[bz];by_cases hq:(s.O t (l.take k)).dP.length<200;rw[aH hq,aH ⟨HOK.out,hq⟩,dE];rfl;rw[ay hq,ay (λq=>hq q.2)]
     rw[hmap]at hN4;let ⟨z1,z2⟩:=y1.V hN4 hO4
     have heq:({s.O t (l.take k) with dP:=((s.O t (l.take k)).af t m).dP}:Wd)=(s.O t (l.take k)).af t m:=by
      rw[hput.out];split<;>rfl
     rw[heq]at z1 z2;refine⟨HT.out▸z1,by rw[HT.out];exact y2.e z2,aZ y3 λq hq=>?_⟩;let ⟨_,hqt⟩:=cT y3 hq
     exact hO4.b q hqt.H (hqt.j y1.b.b cn) (.inr λc f e=>hqt.j ⟨c,f,e⟩ cn rfl)

    go_wp2;go_roundw
    case rel=>exact⟨k+1,ak,by go_num,HS4.out⟩
    case measure=>simp[intOf];omega
  .obtain rfl:k=l.length:=ak;have HD:Hid (Sd w wr A s t l B (.slice av l.length cv) l.length):=D

   go_wp2;go_end0;have:=HD.out.h;have h2:=HD.out.e;rw[fP]at this h2;exact⟨rfl,this,h2⟩
end Wld
namespace Gen
variable{a:Act}{listed:Array Bool}{af':Array Edge}{ops:Array Oper}{Q:Exit->Act->Ba->Prop}{fuel:Nat}{op op':Op}{o o':Oper}{d d':Option Tmp}{P:Ft}{md:Region.Mode}{ps ps':String}{ty ty':DU}{w:Ba}{S:Ba->Prop}
def two{i j:Nat}{af:Array Edge}(m:Region.ready md ops listed=[i,j])(n:ops[i]?=some o)(f:o=⟨d,op,ty,ps,af,none⟩)(g:ops[j]?=some o')(b:o'=⟨d',op',ty',ps',af',none⟩)(h:∀K:Act->Ba->Prop,Shut (∀a w,S w->(S w->anyM P md ops Q S fuel (listed.setIfInBounds i true) a w)->K a w)->Oper.wp P ⟨d,op,ty,ps,af,none⟩ a w K Q)(p:∀K:Act->Ba->Prop,Shut (∀a w,S w->(S w->anyM P md ops Q S fuel (listed.setIfInBounds j true) a w)->K a w)->Oper.wp P ⟨d',op',ty',ps',af',none⟩ a w K Q):anyM P md ops Q S (fuel+1) listed a w:=by
 subst f b;refine⟨λh0=>(by rw[m]at h0;cases h0),λk e=>?_⟩;rw[m]at e;rcases bG.1 e with rfl|e
 unfold wpOp;simp only[n,Region.wanted,dG];exact .inl (h _ (λa w c l=>⟨λ_=>c,l c⟩));obtain rfl:=bA.1 e;unfold wpOp;simp only[g,Region.wanted,dG];exact .inl (p _ (λa w c l=>⟨λ_=>c,l c⟩))
def tw(i j:Nat){af:Array Edge}(h:∀K:Act->Ba->Prop,Shut (∀a w,S w->(S w->anyM P md ops Q S fuel (listed.setIfInBounds i true) a w)->K a w)->Oper.wp P ⟨d,op,ty,ps,af,none⟩ a w K Q)(f:∀K:Act->Ba->Prop,Shut (∀a w,S w->(S w->anyM P md ops Q S fuel (listed.setIfInBounds j true) a w)->K a w)->Oper.wp P ⟨d',op',ty',ps',af',none⟩ a w K Q)(g:Region.ready md ops listed=[i,j]:=by kernel_rfl)(k:ops[i]?=some o:=by rfl)(c:o=⟨d,op,ty,ps,af,none⟩:=by rfl)(e:ops[j]?=some o':=by rfl)(b:o'=⟨d',op',ty',ps',af',none⟩:=by rfl):anyM P md ops Q S (fuel+1) listed a w:=two g k c e b h f
end Gen
namespace Wld
variable{i:Nat}{A:Wa}{s:Wd}{w:Ba}
def CU{o:Oper}{a:Act}{K:Act->Ba->Prop}{Q:Exit->Act->Ba->Prop}(t:Nat)(g:o.op=.buildSlice 141 1 #[(0,.tmp t)])(m:M)(i:a.eval (.tmp t)=Wire.M.ab m)(h:K (a.put o.dst (.slice (some (FI w 0)) 1 1)) (w.alloc (.cells #[iI m.k,iI m.c,iI m.n,iI m.e,iI m.s,iI m.o,iI m.v,.bool m.l,.string m.d] 129))):o.wp prog a w K Q:=by
 obtain⟨j,p,f,b,q⟩:=dg jP;refine wp_buildSlice 141 129 1 _ g _ j _ underlying141 p f (by rw[b];decide) (by rw[b];decide) ?_ h;rw[b];simp only[iw,bT,fJ,i];exact GW
structure An(w wr:World)(A:Wa)(s:Wd)(l:List M)(B:Nat)(v:Value)(k:Nat):Prop where
 i:bF wr A (s.I (l.take k))
 h:Fz A s w A (s.I (l.take k)) wr
 b:gR wr B v l
 e:∀g,v.ownBlock=some g->¬wfoot wr A (s.I (l.take k)) g
def Kg(s:Wd)(l:List M){k:Nat}(h:k<l.length):s.I (l.take (k+1))=(s.I (l.take k)).af (bK l[k].c:Nat) l[k]:=by
 unfold Wd.I;rw[bw h,EC];rfl
theorem TD(s:Wd)(t:Int)(m:M):s.O t [m]=s.af t m:=rfl
def Hl:∀(l:List M) (s:Wd),(s.I l).sv=s.sv
 | [],s=>rfl
 |m::l,s=>by
  show ((s.af _ m).I l).sv=s.sv;rw[Hl l];unfold Wd.af;split<;>rfl
def xz(sv:Sv){l:List M}{B:Nat}{v:Dv}(h:bF w A s)(hs:s.sv=some sv)(hl:gR w B v l)(hsep:∀g,v.ownBlock=some g->¬wfoot w A s g)(hll:l.length<=200)(hsm:oF l)(hc:∀m∈l,0<=m.c):
  Calls prog 71 #[tp A.Q,v] w λe w'=>e=.returned (.tuple #[])/\bF w' A (s.I l).ae/\Fz A s w A (s.I l).ae w':=by
 obtain⟨av,cv,hav,hcv,hcn⟩:=Net.cP hl;subst hav;have HS0:Hid (An w w A s l B (.slice av l.length cv) 0):=⟨h,Fz.j,hl,hsep⟩;clear h hl hcv hsep;go_in;go_wp2;go_loopw [8] (λi wr=>∃k:Nat,k<=l.length/\i = iI k/\An w wr A s l B (.slice av l.length cv) k) (λi _=>l.length-(intOf i).toNat)
 case atStart=>exact⟨0,ak,rfl,HS0.out⟩
 case round=>
  obtain⟨k,hk,rfl,D⟩:=hrel;by_cases hlt:k<l.length
  .obtain⟨ao,c,hao,hg⟩:=D.b.O;obtain⟨g,hge,hgB,hgs,hcell⟩:=hg ak;injection hao with hao _ hcc
   subst hao;subst hcc;subst hge;have HT:Hid (s.I (l.take (k+1))=(s.I (l.take k)).af (bK l[k].c:Nat) l[k]):=Kg s l hlt;have hsz:=hsm l[k] (bp hlt);have hc0:=hc l[k] (bp hlt);have q0:=hcell k 0 hlt ak;have q1:=hcell k 1 hlt ak;have q2:=hcell k 2 hlt ak;have q3:=hcell k 3 hlt ak;have q4:=hcell k 4 hlt ak;have q5:=hcell k 5 hlt ak;have q6:=hcell k 6 hlt ak;have q7:=hcell k 7 hlt ak;have q8:=hcell k 8 hlt ak;obtain⟨m,hm⟩:∃m,l[k]=m:=⟨_,rfl⟩;rw[hm]at q0 q1 q2 q3 q4 q5 q6 q7 q8 hsz HT hc0;have q0':wr.cell? (aA g (k*9))=some (iI m.k):=q0;simp only[gh,bv,bI]at q1 q2 q3 q4 q5 q6 q7 q8;have hkI:(k:Int)<(l.length:Int):=ak;have hkI0:(0:Int)<=(k:Int):=ak;have HD:Hid (An w wr A s l B (.slice (some (aA g 0)) l.length cv) k):=D;clear D hg hcell hm q0;go_upto_region 3 with fail
   generalize hW:wr.alloc (.cells #[.int .i64 m.k,.int .i64 m.c,.int .i64 m.n,.int .i64 m.e,.int .i64 m.s,.int .i64 m.o,.int .i64 m.v,.bool m.l,.string m.d] 129)=w2;have hb2:FF wr w2:=by rw[<-hW];exact(au _ _).alloc (aj _) _
   have hs2:wr.heap.size<w2.heap.size:=by rw[<-hW];simp
   have hB2:MB w2 wr.heap.size m:=by rw[<-hW];exact gF wr
   clear hW q0' q1 q2 q3 q4 q5 q6 q7 q8;have b0:=hB2.y;have b1:=hB2.i;have b2:=hB2.u;have b3:=hB2.j;have b4:=hB2.p;have b5:=hB2.h;have b6:=hB2.t;have b7:=hB2.x;have b8:=hB2.A;have hlt2:wr.heap.size<w2.heap.size:=hs2;have p0:=λob=>(aC w2 ob (FI wr 0) hlt2).trans b0;have p1:=λob=>(aC w2 ob (FI wr 1) hlt2).trans b1;have p2:=λob=>(aC w2 ob (FI wr 2) hlt2).trans b2;have p3:=λob=>(aC w2 ob (FI wr 3) hlt2).trans b3;have p4:=λob=>(aC w2 ob (FI wr 4) hlt2).trans b4;have p5:=λob=>(aC w2 ob (FI wr 5) hlt2).trans b5;have p6:=λob=>(aC w2 ob (FI wr 6) hlt2).trans b6;have p7:=λob=>(aC w2 ob (FI wr 7) hlt2).trans b7;have p8:=λob=>(aC w2 ob (FI wr 8) hlt2).trans b8;have hseat:=λw=>nd w hc0;obtain⟨x1,x2⟩:=HD.out.i.h hb2;have hb3:FF w2 (w2.alloc (.cells #[iI m.k,iI m.c,iI m.n,iI m.e,iI m.s,iI m.o,iI m.v,.bool m.l,.string m.d] 129)).drew:=((au _ _).alloc (aj _) _).drew;obtain⟨x3,x4⟩:=x1.h hb3;have hsend:=wM (A:=A) (s:=s.I (l.take k)) (bK m.c:Nat) [m] w2.heap.size (.slice (some (FI w2 0)) 1 1) _ x3 (gR.one w2 m (aj _)) aY (oF.one hsz);rw[TD,<-HT.out]at hsend;have nxt:∀w4,bF w4 A (s.I (l.take (k+1)))->Fz A (s.I (l.take k)) (w2.alloc (.cells #[iI m.k,iI m.c,iI m.n,iI m.e,iI m.s,iI m.o,iI m.v,.bool m.l,.string m.d] 129)).drew A (s.I (l.take (k+1))) w4->An w w4 A s l B (.slice (some (aA g 0)) l.length cv) (k+1):=λw4 hW4 hZ4=>by
    have z:=(x2.e x4).e hZ4;have hr:=HD.out.b;refine⟨hW4,HD.out.h.e z,aZ hr λq hq=>z.H (bj hr q hq).2 (HD.out.e q hq) (λe=>(cT hr hq).2.j e cn rfl),λq hq f=>HD.out.e q hq (z.i q (bj hr q hq).2 f)⟩
   refine Gen.start (S:=λw'=>w'.cell? (FI wr 0)=some (iI m.k)/\w'.cell? (FI wr 1)=some (iI m.c)/\w'.cell? (FI wr 2)=some (iI m.n)/\w'.cell? (FI wr 3)=some (iI m.e)/\w'.cell? (FI wr 4)=some (iI m.s)/\w'.cell? (FI wr 5)=some (iI m.o)/\w'.cell? (FI wr 6)=some (iI m.v)/\w'.cell? (FI wr 7)=some (.bool m.l)/\w'.cell? (FI wr 8)=some (.string m.d)) bt ⟨b0,b1,b2,b3,b4,b5,b6,b7,b8⟩ (λqH=>?_);refine Gen.tz ?_;refine Gen.tw 3 5 (λK hK=>?_) λK hK=>?_
   .go_simp;refine(hseat _).mono ?_;rintro e w3⟨rfl,hw3⟩;rw[hw3];dsimp only;refine hK.out _ _ ⟨b0,b1,b2,b3,b4,b5,b6,b7,b8⟩ (λqH=>?_);try simp only[Act.put,ax,aJ,aI]
    refine Gen.on 5 λK hK=>?_;refine CU 16 rfl m rfl ?_;refine hK.out _ _ ⟨p0 _,p1 _,p2 _,p3 _,p4 _,p5 _,p6 _,p7 _,p8 _⟩ (λqH=>?_);try simp only[Act.put,ax,aJ,aI]
    refine Gen.la 6 λK hK=>?_;go_simp;refine hsend.mono ?_;rintro e w4⟨rfl,hW4,hZ4⟩;have HN:=nxt w4 hW4 hZ4;dsimp only;refine hK.out _ _ ?_;go_wp2;go_roundw
    case rel=>exact⟨k+1,ak,by go_num,HN⟩
    case measure=>simp[intOf];omega
   .refine CU 16 rfl m rfl ?_;refine hK.out _ _ ⟨p0 _,p1 _,p2 _,p3 _,p4 _,p5 _,p6 _,p7 _,p8 _⟩ (λqH=>?_);try simp only[Act.put,ax,aJ,aI]
    refine Gen.on 3 λK hK=>?_;go_simp;refine(hseat _).mono ?_;rintro e w3⟨rfl,hw3⟩;rw[hw3];dsimp only;refine hK.out _ _ ⟨p0 _,p1 _,p2 _,p3 _,p4 _,p5 _,p6 _,p7 _,p8 _⟩ (λqH=>?_);try simp only[Act.put,ax,aJ,aI]
    refine Gen.la 6 λK hK=>?_;go_simp;refine hsend.mono ?_;rintro e w4⟨rfl,hW4,hZ4⟩;have HN:=nxt w4 hW4 hZ4;dsimp only;refine hK.out _ _ ?_;go_wp2;go_roundw
    case rel=>exact⟨k+1,ak,by go_num,HN⟩
    case measure=>simp[intOf];omega
  .obtain rfl:k=l.length:=ak;have wd:=D.i;have fz:=D.h;rw[fP]at wd fz;have hsv:= (Hl l s).trans hs;have hdn:=oK (wd.t sv hsv).b;have srv:=wd.b.o;have hfr:=wd.b.e 12407;rw[hsv]at srv;unfold LI at srv;have HDN:=wd.al;cases hd:sv.jw with
   |true=>
    rw[hd]at hdn;have HF:Hid (bF (wr.setCell (aA A.Q 12407) (.pointer none)) A (s.I l).ae/\Fz A s w A (s.I l).ae (wr.setCell (aA A.Q 12407) (.pointer none))):=by
     have e:(s.I l).ae = {s.I l with sv:=none}:=by
      unfold Wd.ae;rw[hsv];exact aH hd
     rw[e];exact⟨HDN.1,fz.e HDN.2⟩
    go_wp2_with fail
    refine hdn.mono ?_;rintro e w2⟨rfl,rfl⟩;go_wp2;go_end0;exact⟨rfl,HF.out⟩
   |false=>
    rw[hd]at hdn;have HF:Hid (bF wr A (s.I l).ae/\Fz A s w A (s.I l).ae wr):=by
     have e:(s.I l).ae=s.I l:=by
      unfold Wd.ae;rw[hsv];exact ay (by rw[hd];decide)
     rw[e];exact⟨wd,fz⟩
    go_wp2_with fail
    refine hdn.mono ?_;rintro e w2⟨rfl,rfl⟩;go_wp2;go_end0;exact⟨rfl,HF.out⟩
def bF.Z{w':Ba}(h:bF w A s){L:List Ev}{N:Dv}(h1:w'.os=w.os)(h2:w'.tape=w.tape)(h3:w'.output=w.output)(hs:w.heap.size<=w'.heap.size)(W:∀k,k<w.heap.size->k≠A.Q->(∀v,w.cell? ⟨A.Q,12410,none⟩=some v->v.ownBlock≠some k)->w'.heap[k]?=w.heap[k]?)(hc:∀i,i≠12410->w'.cell? ⟨A.Q,i,none⟩=w.cell? ⟨A.Q,i,none⟩)(X:∀i,w'.frozen? ⟨A.Q,i,none⟩=w.frozen? ⟨A.Q,i,none⟩)(Y:qA w' A.Q 81)(d:w'.cell? ⟨A.Q,12410,none⟩=some N)(O:w'.ownsRow (A.Q+1) 45 10 N L.length (fq L))(ad:∀g,N.ownBlock=some g->g<w.heap.size->∃v,w.cell? ⟨A.Q,12410,none⟩=some v/\v.ownBlock=some g):
  bF w' A {s with bO:=L}/\Fz A s w A {s with bO:=L} w':=by
 have a0:=h.I;let ⟨aS,P,a1⟩:=h.H
 let ⟨v0,R,S⟩:=h.x
 have l:∀k t,qA w k t->k≠A.Q->t≠45->w'.heap[k]?=w.heap[k]?:=λk t z M Y=>W k z.H M λv d e=>by
  rw[R]at d;injection d with d
  subst d;exact z.j (cT S e).2 Y rfl
 have T:∀k,Zl w k->k<w.heap.size->k≠A.Q->w'.heap[k]?=w.heap[k]?:=λk z hl M=>W k hl M λv d e=>by
  rw[R]at d;injection d with d
  subst d;exact z.e (cT S e).2 rfl
 have hG:=l A.G _ h.u (eX aS) cn;have hD:= DiskIs.ab h.y (λi _ _=>hc i ak) X;have n:∀v,s.sv=some v->∀k,eM w A.a k->k≠A.a.q->w'.heap[k]?=w.heap[k]?:=λv d k z M=>by
  have u:=h.t v d;have r:k≠A.Q:=u.q▸M;rcases u.b.ah z with f|f|f|f|f|f|f
  exact(M f).elim;exact T k (by rw[f];exact oL u.b.p.b) (u.b.H z) r;exact l k _ f r cn;exact l k _ f r cn;exact l k _ f r cn;exact l k _ f r cn;exact l k _ f r cn
 have hN:= NetIs.ab h.p hs (hc _ ak) (hc _ ak) X λv g d hg=>by
  let ⟨N,D,hr⟩:=h.p.b
  rw[d]at D;injection D with D
  subst D;exact l g _ (cT hr hg).2 (jd ((cT hr hg).1)) cn
 refine⟨⟨(h.b.H Y (λi _ U=>hc i U) X).I rfl rfl rfl rfl rfl rfl rfl,hD,hN,⟨N,d,O⟩,h.u.e hG,λi=>(aG (a:=(aA A.G i)) hG).trans (h.C i),λj E=>(h.e j E).e hG,
  λj E=>(h.o j E).j (l _ _ (h.o j E).ac (eX (P j E).1) cn) (T _ (h.o j E).af (h.o j E).H.2 (eX (P j E).2.1)),h.J,λv d=>?_,h.F,h.B⟩,
  ⟨h1,h2,h3,hs,λk z V _=>W k z (λe=>V (.Q e)) (λv d e=>V (.ev v d e)),λk z f=>?_,rfl⟩⟩
 have u:=h.t v d;exact⟨u.b.ae hs (by rw[u.q,u.j,u.e,u.h];exact hD) (n v d),u.q,u.j,u.e,u.h,u.o,u.p,u.t⟩;rcases f with f|f|⟨v,K,f2⟩|⟨i,U,f⟩|⟨i,U,f⟩|⟨K,f2⟩
 exact .Q f;exact .G f;rw[d]at K;injection K with K
 subst K;let ⟨v,g1,g2⟩:=ad k f2 z
 exact .ev v g1 g2;exact .c i U f;exact .m i U f;let ⟨v,d⟩:=aP.1 K
 have hl:=(h.t v d).b.e;exact .sv K ((iE (n v d _ (.inr (.inr (.inr (.inl rfl)))) ak) (n v d _ (.inr (.inr (.inl rfl))) ak) k).1 f2)
def bF.ah(h:bF w A s){j:Nat}(hi:i<s.n)(hj:j<4){x:Dv}{L:St}(D:L.k=(s.bm i).k)(hS:rA (w.setCell ⟨A.G,i*4+j,none⟩ x) A.G i (A.c i) L):bF (w.setCell ⟨A.G,i*4+j,none⟩ x) A {s with bm:=cq s.bm i L}/\Fz A s w A {s with bm:=cq s.bm i L} (w.setCell ⟨A.G,i*4+j,none⟩ x):=by
 have ad:=h.I;let ⟨U,aS,a0⟩:=h.H
 have R:∀k,k≠A.G->(w.setCell (aA A.G (i*4+j)) x).heap[k]?=w.heap[k]?:=λk D=>aQ w (aA A.G (i*4+j)) x k D;have a1:(w.setCell ⟨A.G,i*4+j,none⟩ x).heap.size=w.heap.size:=aY;have V:=R A.Q U;have N:∀E,(w.setCell ⟨A.G,i*4+j,none⟩ x).cell? ⟨A.Q,E,none⟩=w.cell? ⟨A.Q,E,none⟩:=λE=>aa V;have W:∀E,(w.setCell ⟨A.G,i*4+j,none⟩ x).frozen? ⟨A.Q,E,none⟩=w.frozen? ⟨A.Q,E,none⟩:=λE=>aG V;have d:∀k t,qA w k t->t≠90->(w.setCell ⟨A.G,i*4+j,none⟩ x).heap[k]?=w.heap[k]?:=λk t D ht=>R k (D.j h.u ht);have P:∀k,Zl w k->(w.setCell ⟨A.G,i*4+j,none⟩ x).heap[k]?=w.heap[k]?:=λk D=>R k (D.e h.u);have hD:= DiskIs.ab h.y (λi _ _=>N i) W;have r:∀v,s.sv=some v->∀k,eM w A.a k->k≠A.a.q->(w.setCell ⟨A.G,i*4+j,none⟩ x).heap[k]?=w.heap[k]?:=λv z k D hq=>by
  have u:=h.t v z;rcases u.b.ah D with f|f|f|f|f|f|f
  exact(hq f).elim;exact P k (by rw[f];exact oL u.b.p.b);exact d k _ f cn;exact d k _ f cn;exact d k _ f cn;exact d k _ f cn;exact d k _ f cn
 have hN:= NetIs.ab h.p ak (N _) (N _) W λv g z X=>by
  let ⟨v',K,hr⟩:=h.p.b
  rw[z]at K;injection K with K
  subst K;exact d g _ (cT hr X).2 cn
 refine⟨⟨(h.b.H (h.b.b.e V) (λi _ _=>N i) W).I rfl rfl rfl rfl rfl rfl rfl,hD,hN,h.x.imp λv z=>⟨(N _).trans z.1,aZ z.2 λg X=>d g _ (cT z.2 X).2 cn⟩,Wal.cZ h.u,λi=>by rw[aT];exact h.C i,λl O=>?_,λl O=>?_,h.J,λv z=>?_,h.F,h.B⟩,
  ⟨rfl,rfl,rfl,ak,λk D Y _=>R k (λe=>Y (.G e)),λk D f=>?_,rfl⟩⟩
 show rA _ A.G l (A.c l) (cq s.bm i L l);unfold cq;split;rename_i e;subst e;exact hS;rename_i e;have q:=h.e l O;have S:∀p,p<4->(w.setCell ⟨A.G,i*4+j,none⟩ x).cell? ⟨A.G,l*4+p,none⟩=w.cell? ⟨A.G,l*4+p,none⟩:=λp hp=>am _ _ _ _ (by intro q;injection q with _ q;omega);exact⟨(S 0 ak).trans q.b,(S 1 ak).trans q.h,(S 2 ak).trans q.o,(S 3 ak).trans q.j⟩;show bi _ _ _ (cq s.bm i L l).k;have Z:(cq s.bm i L l).k=(s.bm l).k:=by
  unfold cq;split;rename_i e;subst e;exact D;rfl
 rw[Z];exact(h.o l O).j (d _ _ (h.o l O).ac cn) (P _ (h.o l O).af);have u:=h.t v z;exact⟨u.b.ae ak (by rw[u.q,u.j,u.e,u.h];exact hD) (r v z),u.q,u.j,u.e,u.h,u.o,u.p,u.t⟩;rcases f with f|f|⟨v,T,f2⟩|⟨E,M,f⟩|⟨E,M,f⟩|⟨T,f2⟩
 exact .Q f;exact .G f;exact .ev v ((N _).symm.trans T) f2;exact .c E M f;exact .m E M f;let ⟨v,z⟩:=aP.1 T
 have O:=(h.t v z).b.e;exact .sv T ((iE (r v z _ (.inr (.inr (.inr (.inl rfl)))) ak) (r v z _ (.inr (.inr (.inl rfl))) ak) k).1 f2)
def bF.ai(h:bF w A s)(a:i<s.n)(x:Int):bF (w.setCell ⟨A.G,i*4+3,none⟩ (.int .i64 x)) A {s with bm:=cq s.bm i {s.bm i with kH:=x} }/\Fz A s w A {s with bm:=cq s.bm i {s.bm i with kH:=x} } (w.setCell ⟨A.G,i*4+3,none⟩ (.int .i64 x)):=by
 have q:=h.e i a;have e:∀p,p<3->(w.setCell (aA A.G (i*4+3)) (iI x)).cell? (aA A.G (i*4+p))=w.cell? (aA A.G (i*4+p)):=λp c=>am _ _ _ _ (by intro q;injection q with _ q;omega);exact h.ah a ak rfl ⟨(e 0 ak).trans q.b,(e 1 ak).trans q.h,(e 2 ak).trans q.o,az _ _ _ q.j⟩
def bF.ag(h:bF w A s)(a:i<s.n)(x:Int):bF (w.setCell ⟨A.G,i*4+1,none⟩ (.int .i64 x)) A {s with bm:=cq s.bm i {s.bm i with fo:=x} }/\Fz A s w A {s with bm:=cq s.bm i {s.bm i with fo:=x} } (w.setCell ⟨A.G,i*4+1,none⟩ (.int .i64 x)):=by
 have q:=h.e i a;have e:∀p,p≠1->p<4->(w.setCell (aA A.G (i*4+1)) (iI x)).cell? (aA A.G (i*4+p))=w.cell? (aA A.G (i*4+p)):=λp c d=>am _ _ _ _ (by intro q;injection q with _ q;omega);exact h.ah a ak rfl ⟨(e 0 ak ak).trans q.b,az _ _ _ q.h,(e 2 ak ak).trans q.o,(e 3 ak ak).trans q.j⟩
theorem mt(e:Ev):(eE e).length=10:=rfl
def jN(l:List Ev):(fq l).length=l.length*10:=by
 induction l with
 |nil=>rfl
 |cons e l a=>
  have:fq (e::l)=eE e++fq l:=rfl;rw[this,aL,a,mt,bJ];omega
def GM(l:List Ev)(e:Ev):fq (l++[e])=fq l++eE e:=by simp[fq]
def jX:∀(l:List Ev) (i j:Nat) (h:i<l.length),j<10->(fq l)[i*10+j]?=(eE l[i])[j]?
 |e::l,0,j,_,a=>by
  have:fq (e::l)=eE e++fq l:=rfl;rw[this,XR,bY,bE (by rw[mt];exact a)];rfl
 |e::l,i+1,j,h,a=>by
  have:fq (e::l)=eE e++fq l:=rfl;rw[this,bg (by rw[mt];omega),mt,show (i+1)*10+j-10=i*10+j by omega];exact jX l i j (dD h) a
def sT{l:List Ev}{e:Ev}{c:List Dv}(m:i<l.length)(n:c.length=l.length*10)(h:∀j,j<10->c[i*10+j]?=(eE e)[j]?)(k:∀p,p/10≠i->c[p]?=(fq l)[p]?):c=fq (l.set i e):=by
 apply mC;intro p;by_cases o:p<l.length*10;obtain⟨a,b,d,rfl⟩:∃a b,b<10/\p=a*10+b:=⟨p/10,p%10,ak,ak⟩;have g:a<l.length:=ak;rw[jX (l.set i e) a b (dD g) d];by_cases f:a=i;subst f;rw[h b d,nh];rw[k _ ak,jX l a b g d,List.getElem_set_ne ak];rw[ng ak,ng (by rw[jN,oS];omega)]
end Wld
end Go.Proofs.YtbebfliimjjohabGreatDoor
