/- Parts of the proof. -/
import Derived.Test.YtbebfliimjjohabGreatDoorM33
set_option maxRecDepth 100000
set_option maxHeartbeats 8000000
set_option linter.all false
open Go.Proofs.Tryz
namespace Go.Proofs.YtbebfliimjjohabGreatDoor open Gen (la on tk tw)
open Go.RowKit Go.Maps
open Lease (Ob gv gV cL ji fV fg dA bX eE mx kk)
open Cache (tp bp bD)
open Wal (R dE bW Oq Fw cY jf fo)
open Num (M iC dD gy)
open Net (fm ik cF)
open Bare (jC)
namespace Wld
variable{o to' tv td now:Int}{rs:List R}{m:M}{k C B c p:Nat}{u0 u2 u3:Bg}{A:Wa}{w w':A1}
def sS(h:iC m=true):gy (dD m.h)=m.h:=Num.uI (Num.uH h)
def BG(h:iC m=true):(dD m.h).size<=64:=by
 have a:=(Wire.xA h).1;rw[<-(sS h),Num.dL]at a;exact a
def xL:∀(l:List (Int×M)) (k:Nat),(l.map mD).eraseIdx k=(l.eraseIdx k).map mD
 | [],_=>rfl
 |_::_,0=>rfl
 |a::l,k+1=>by
  rw[cE,nd,nd,cE,xL l k]
def yw{s:Wd}(h:bM w A s)(hk:k<s.dM.length)(Y:f9 s C)(hC:C<=1000000000):
  Calls prog 26 #[tp A.Q,iI k] w λe w'=>e=.returned .nilIface/\bM w' A (s.I k)/\Fz A s w A (s.I k) w':=by
 let ⟨p,hp⟩:∃p,s.dM[k]=p:=⟨_,rfl⟩
 have G:iC p.2=true:=by rw[<-hp];exact Y.t _ (bA hk)
 have ad:k<(s.dM.map mD).length:=by rw[bH];exact hk
 have L:(s.dM.map mD)[k]=(p.1,dD p.2.h):=by rw[Jq,hp];rfl
 have g:=Net.Hi h.p ad (by rw[L];have:=BG G;dsimp only;omega);rw[L,xL]at g;dsimp only at g;rw[sS G]at g;have HE:Hid (s.I k=({s with dM:=s.dM.eraseIdx k,bK:=s.bK+1}:Wd).bs p.1 p.2):=by
  unfold Hid Wd.I;rw[aB hk,hp]
 have cb:IntKind.i64.wrap (s.bK+1)=s.bK+1:=jJ (by have:=Y.J;omega) (by have:=Y.O;omega);have N:f9 ({s with dM:=s.dM.eraseIdx k,bK:=s.bK+1}:Wd) (C+1):=(Y.bf k).H;let ⟨t,m⟩:=p
 dsimp only at G g HE

 go_enter func26,ntmps26;go_wp2_with fail
 apply g.mono;rintro e w2⟨Z,rfl,u,aI,aS⟩;let ⟨x1,x2⟩:=h.V aI aS
 let ⟨ao,cc,P,_⟩:=id u

 subst P;go_upto_region 4 with fail
 generalize P:Value.slice ao m.h.length cc=Z at *;generalize z:w2.alloc (.cells #[.int .i64 t,Z] 125)=w3;have R:Below w2.heap.size w2 w3:=by rw[<-z];exact(au _ _).alloc (aa _) _
 have a0:w3.heap.size=w2.heap.size+1:=by rw[<-z];simp
 have g0:w3.cell? (aA w2.heap.size 0)=some (iI t):=by rw[<-z];exact bS _ _ _ _ _ _ (bw w2 _)
 have g1:w3.cell? (aA w2.heap.size 1)=some Z:=by rw[<-z];exact bS _ _ _ _ _ _ (bw w2 _)

 let ⟨y1,y2⟩:=x1.h R
 have ba:=y1.b.j;have cd:=y1.b.b 12411;dsimp only at ba;let ⟨z1,z2⟩:=y1.j (s.bK+1)
 have bc:A.Q≠w2.heap.size:=by have:=x1.I;omega
 have bg:Hid (Wire.sH (w3.setCell (aA A.Q 12411) (iI (s.bK+1))) w2.heap.size Z m.h):=by
  let ⟨bO,c',e1,e2,e3,e4,e5⟩:=u
  refine⟨bO,c',e1,e2,e3,e4,λh0=>?_⟩;let ⟨b,B,f1,f2,f3⟩:=e5 h0
  refine⟨b,B,f1,f2,λj hj=>?_⟩;have S:w3.cell? (aA b (B+j))=some (.int .u8 (m.h.getD j 0)):=(R.cell (p:=(aA b (B+j))) f2).trans (f3 j hj);rw[ak _ _ _ _ (by
   intro q;injection q with D E
   subst D;have K:=y1.b.j;rw[E,S]at K;injection K with K
   injection K with K _
   cases K)]
  exact S
 have T:(w3.setCell (aA A.Q 12411) (iI (s.bK+1))).heap[w2.heap.size]?=w3.heap[w2.heap.size]?:=aX w3 (aA A.Q 12411) _ w2.heap.size (fE bc);have k0:=(aj (a:=(aA w2.heap.size 0)) T).trans g0;have k1:=(aj (a:=(aA w2.heap.size 1)) T).trans g1;have ce:(w3.setCell (aA A.Q 12411) (iI (s.bK+1))).heap.size=w2.heap.size+1:=by simpa using a0
 have HZ:Hid (bM (w3.setCell (aA A.Q 12411) (iI (s.bK+1))) A {s with dM:=s.dM.eraseIdx k,bK:=s.bK+1}/\Fz A s w A {s with dM:=s.dM.eraseIdx k,bK:=s.bK+1} (w3.setCell (aA A.Q 12411) (iI (s.bK+1)))):=⟨z1,(x2.e y2).e z2⟩;go_upto_region 5 with fail
 generalize w3.setCell ⟨A.Q,12411,none⟩ (.int .i64 (s.bK+1))=w4 at *;have x:=Wire.Ui G bg.out (by omega);unfold Wire.M.ab at x;go_wp2_with fail
 apply x.mono;rintro e U⟨rfl,F⟩;have cg:=F.size;have l0:=(F.cell (p:=(aA w2.heap.size 0)) (by dsimp only;omega)).trans k0;let ⟨a1,a2⟩:=HZ.out.1.h F
 have a3:=HZ.out.2.e a2;go_upto_region 8 with fail
 generalize z:U.alloc (.cells #[.int .i64 m.k,.int .i64 m.c,.int .i64 m.n,.int .i64 m.e,.int .i64 m.s,.int .i64 m.o,.int .i64 m.v,.bool m.l,.string m.d] 129)=w6;have W:Below U.heap.size U w6:=by rw[<-z];exact(au _ _).alloc (aa _) _
 have bR:MB w6 U.heap.size m:=by rw[<-z];exact ie U
 have l1:=(W.cell (p:=(aA w2.heap.size 0)) (by dsimp only;omega)).trans l0;let ⟨d1,d2⟩:=a1.h W
 have d3:=a3.e d2;have ⟨b0,b1,b2,b3,b4,b5,b6,b7,b8⟩:=bR








 by_cases ht:t = -1
 .subst ht;have r :Hid _:= HE.out.trans (az rfl);have f:=BK d1 N (by omega) G;unfold Wire.M.ab at f;go_wp2_with fail
  apply f.mono;rintro e y⟨rfl,D,E⟩;have X:Hid (bM y A (s.I k)/\Fz A s w A (s.I k) y):=by
   rw[r.out];exact⟨D,d3.e E⟩
  go_wp2_with fail
  go_ret;exact⟨rfl,X.out⟩
 .have gt:(t == -1)=false:=by simpa using ht
  have r :Hid _:= HE.out.trans (ax ht);cases hh:({s with dM:=s.dM.eraseIdx k,bK:=s.bK+1}:Wd).aq t with
  |false=>
   have f:=Ck m d1 hh;unfold Wire.M.ab at f;go_wp2_with fail
   apply f.mono;rintro e y⟨rfl,D,E⟩;have X:Hid (bM y A (s.I k)/\Fz A s w A (s.I k) y):=by
    rw[r.out,hh,ax (by decide)];exact⟨D,d3.e E⟩
   go_wp2_with fail
   go_ret;exact⟨rfl,X.out⟩
  |true=>
   have ci:0<=t/\t<(s.n:Int):=by
    unfold Wd.aq at hh;simpa using hh
   obtain⟨i,rfl⟩:∃i:Nat,t=i:=⟨t.toNat,by omega⟩;have f:=BJ i d1 (by show i<s.n;omega) N (by omega) G;unfold Wire.M.ab at f;go_wp2_with fail
   apply f.mono;rintro e y⟨rfl,D,E⟩;have X:Hid (bM y A (s.I k)/\Fz A s w A (s.I k) y):=by
    rw[r.out,hh,az rfl];exact⟨D,d3.e E⟩
   go_wp2_with fail
   go_ret;exact⟨rfl,X.out⟩
def wt(m:M):Nat:=if m.k=3 then 17 else if m.k=2 then 12 else if m.k=1\/m.k=9 then 2 else 1
def Mb(m:M):1<=wt m:=by unfold wt;split<;>(try split)<;>(try split)<;>omega
def adl(m:M):wt m<=17:=by unfold wt;split<;>(try split)<;>(try split)<;>omega
def yB(l:List M):Nat:=(l.map wt).sum
theorem gU:yB []=0:=rfl
def iR(m:M)(l:List M):yB (m::l)=wt m+yB l:=by simp[yB]
def FR(a b:List M):yB (a++b)=yB a+yB b:=by simp[yB]
def kZ(l:List (Int×M)):Nat:=yB (l.map (·.2))
def VC(a b:List (Int×M)):kZ (a++b)=kZ a+kZ b:=by simp[kZ,FR]
def nz(f:Nat->List M):Nat:=(f 0).length+(f 1).length+(f 2).length+(f 3).length+(f 4).length+(f 5).length+(f 6).length+(f 7).length
def DY(f:Nat->List M){o:Nat}(a:o<8)(l:List M):nz (bB f o l)+(f o).length=nz f+l.length:=by
 unfold nz bB;match o,a with
 |0,_=>simp;omega
 |1,_=>simp;omega
 |2,_=>simp;omega
 |3,_=>simp;omega
 |4,_=>simp;omega
 |5,_=>simp;omega
 |6,_=>simp;omega
 |7,_=>simp;omega
def Wd.mu(w:Wd):Nat:=kZ w.dM+2*(match w.sv with
 |none=>0
 |some v=>nz v.waits)
def Dy(o:Nat)(now:Int):∀(f:Nat) (s:Sv) (x:Nat),x≠o->(s.ag o now f).1.waits x=s.waits x
 |0,s,x,_=>rfl
 |f+1,s,x,b=>by
  unfold Sv.ag;let ⟨a,_⟩:=ii s o now
  split;rfl;split;rw[a];split;rw[a];rename_i m rest _;let ⟨k1,_⟩:=jQ (s.e o now).1 m o
  split;rw[k1,a];rw[Dy o now f _ x b];show bB _ o rest x=_;rw[cU b,k1,a]
def M9(o:Nat)(now:Int):∀(f:Nat) (s:Sv),yB (s.ag o now f).2=(s.ag o now f).2.length
 |0,s=>rfl
 |f+1,s=>by
  unfold Sv.ag;split;rfl;split;rfl;split;rfl;split;rfl;dsimp only;rw[iR,M9 o now f,bT];show wt _+_=_;rw[show wt (Sv.aU _ _ _)=1 from rfl];omega
def Bf{s:Sv}(h:mS s B){o:Nat}(a:o<8)(now:Int):yB (s.I o now).2+2*nz (s.I o now).1.waits<=2*nz s.waits:=by
 have c:=M9 o now ((s.waits o).length+1) s;have d:=(mS.ai o now ((s.waits o).length+1) h).2;have e:(s.I o now).1.waits=bB s.waits o ((s.I o now).1.waits o):=by
  funext x;unfold bB;split;rename_i q;rw[q];rename_i q;exact Dy o now _ s x q
 have b:=DY s.waits a ((s.I o now).1.waits o);rw[<-e]at b;unfold Sv.I at *;omega
def BC(s:Sv)(a now:Int):∀k,yB (s.H a now k).2<=2*k/\(s.H a now k).1.waits=s.waits
 |0=>⟨by simp[Sv.H,gU],rfl⟩
 |k+1=>by
  obtain⟨c,b⟩:=BC s a now k;refine⟨?_,?_⟩;show yB ((s.H a now k).2++_)<=_;rw[FR];split;rw[iR,gU];show yB _+(2+0)<=_;omega;rw[gU];omega;show ((s.H a now k).1.e k now).1.waits=_;rw[(ii _ k now).1,b]
def Yp{s:Sv}(h:mS s B)(i:okM m)(now:Int):yB (s.ai m now).2+2*nz (s.ai m now).1.waits+1<=wt m+2*nz s.waits:=by
 have p:=Mb m;unfold Sv.ai;split;rw[gU];dsimp only;omega;rename_i q;have f:m.o.toNat<8:=by omega
 split;rename_i b;have a:wt m=2:=by unfold wt;rw[b];rfl
 unfold Sv.a3 Sv.a2

 rw[iR,gU,a];show (1:Nat)+0+_+1<=_;split<;>(try dsimp only)<;>omega;split;rename_i b;have a:wt m=12:=by unfold wt;rw[b];rfl
 rw[a];unfold Sv.ah;split;rw[iR,gU];show (1:Nat)+0+_+1<=_;dsimp only;omega;split;rw[gU];dsimp only;omega;have g:=h.ac (m:=m) (o:=m.o.toNat) ⟨by omega,i⟩;have r:nz (s.aw m m.o.toNat).1.waits<=nz s.waits+1:=by
  unfold Sv.aw;split;dsimp only;omega;split;dsimp only;omega;have:=DY s.waits f (s.waits m.o.toNat++[m]);simp at this;show nz (bB s.waits m.o.toNat (s.waits m.o.toNat++[m]))<=_;omega
 split;rw[gU];dsimp only;omega;have j:=Bf g f now;have d:=(g.H m.o.toNat now).1;have t:=(d.I m.o.toNat now).2;unfold Sv.a5

 rw[FR,((ii ((s.aw m m.o.toNat).1.I m.o.toNat now).1 m.o.toNat now).1)];have k:∀(l:List Int) (x:Sv),yB (l.map λc=>x.af c m.o.toNat)=2*l.length:=by
  intro l x;induction l with
  |nil=>rfl
  |cons c l n=>
   rw[cE,iR,n,bT];show 2+_=_;omega
 rw[k];omega;split;rename_i b;have a:wt m=17:=by unfold wt;rw[b];rfl
 let ⟨j,d⟩:=BC s (bx m.c:Nat) now 8
 unfold Sv.an;split;rw[d,a];omega;split;rw[iR,gU,a];show (1:Nat)+0+_+1<=_;rw[d];omega;rw[iR,gU,a];show (1:Nat)+0+2*nz (s.H (bx m.c:Nat) now 8).1.waits+1<=_;rw[d];omega;split;unfold Sv.av;split;have:=Bf (h.O (c:=bx m.c) (o:=m.o.toNat)) f now;show _+_+1<=_+2*nz s.waits;have e:(s.a4 (bx m.c) m.o.toNat).waits=s.waits:=rfl;rw[e]at this;omega;rw[gU];dsimp only;omega;rw[gU];dsimp only;omega
def Nt(w:Wd)(t:Int)(m:M):kZ (w.ac t m).dM<=kZ w.dM+wt m/\(w.ac t m).sv=w.sv:=by
 unfold Wd.ac;split;refine⟨?_,rfl⟩;show kZ (w.dM++[(t,m)])<=_;rw[VC];simp[kZ,yB];exact⟨by omega,rfl⟩
def I9(t:Int):∀(l:List M) (w:Wd),kZ (w.V t l).dM<=kZ w.dM+yB l/\(w.V t l).sv=w.sv
 | [],w=>⟨by rw[gU];exact aa _,rfl⟩
 |m::l,w=>by
  let ⟨c,a⟩:=Nt w t m
  let ⟨d,b⟩:=I9 t l (w.ac t m)
  rw[iR];exact⟨by show kZ ((w.ac t m).V t l).dM<=_;omega,b.trans a⟩
def DX:∀(l:List M) (w:Wd),kZ (w.O l).dM<=kZ w.dM+yB l/\(w.O l).sv=w.sv
 | [],w=>⟨by rw[gU];exact aa _,rfl⟩
 |m::l,w=>by
  let ⟨d,a⟩:=Nt w (bx m.c:Nat) m
  let ⟨e,b⟩:=DX l (w.ac (bx m.c:Nat) m)
  rw[iR];exact⟨by show kZ ((w.ac (bx m.c:Nat) m).O l).dM<=_;omega,b.trans a⟩
def Qa(w:Wd)(r:Sv×List M):(w.al r).mu<=kZ w.dM+yB r.2+2*nz r.1.waits:=by
 let ⟨b,c⟩:=DX r.2 (w.Z r.1)
 have e:(w.Z r.1).dM=w.dM:=rfl;rw[e]at b;have a:((w.Z r.1).O r.2).sv=some r.1:=c;unfold Wd.al Wd.af;rw[a];dsimp only;split;unfold Wd.mu;dsimp only;omega;unfold Wd.mu;rw[a];dsimp only;omega
def DM:∀(l:List (Int×M)) (k:Nat) (h:k<l.length),kZ (l.eraseIdx k)+wt l[k].2=kZ l
 |p::l,0,_=>by
  show kZ l+wt p.2=yB (p.2::l.map (·.2));rw[iR];show kZ l+_=_+kZ l;omega
 |p::l,k+1,h=>by
  have a:k<l.length:=by simpa using h
  have b:=DM l k a;show yB (p.2::(l.eraseIdx k).map (·.2))+wt l[k].2=yB (p.2::l.map (·.2));rw[iR,iR];show wt p.2+kZ (l.eraseIdx k)+_=_+kZ l;omega
def QC(k:K)(m:M):yB (k.V m).2+1<=wt m:=by
 have b:=Mb m;unfold K.V;split;rename_i h;have a:wt m=2:=by unfold wt;rw[h];rfl
 rw[iR,gU,a];show 1+0+1<=2;omega;split;rw[gU];omega;split;rw[gU];omega;split;rw[gU];omega;split;rw[gU];omega;split<;>(rw[gU];omega)
def YB(w:Wd)(k:Nat):(w.j k).mu=w.mu:=by
 unfold Wd.j;split<;>rfl
def K6{w:Wd}(h:f9 w C)(b:k<w.dM.length):(w.I k).mu<w.mu:=by
 have n:=DM w.dM k b;have i:=h.t _ (bA b);have o:=Mb w.dM[k].2;unfold Wd.I;rw[aB b];dsimp only;unfold Wd.bs;split;unfold Wd.H;split;rename_i c;have a:= c;unfold Wd.mu;rw[a];dsimp only;omega;rename_i v c;have a:= c;have d:=Qa {w with dM:=w.dM.eraseIdx k,bK:=w.bK+1} (v.ai w.dM[k].2 w.cT);have j:=Yp (h.V v a).1 (mH i).1 w.cT;have e:w.mu=kZ w.dM+2*nz v.waits:=by unfold Wd.mu;rw[a]
 have f:({w with dM:=w.dM.eraseIdx k,bK:=w.bK+1}:Wd).dM=w.dM.eraseIdx k:=rfl;rw[f]at d;show (Wd.al _ (v.ai w.dM[k].2 w.cT)).mu<_;omega;split;unfold Wd.ap;rw[YB];have d:=I9 (-1) ((w.aI w.dM[k].1.toNat).k.V w.dM[k].2).2 (({w with dM:=w.dM.eraseIdx k,bK:=w.bK+1}:Wd).ab w.dM[k].1.toNat ((w.aI w.dM[k].1.toNat).k.V w.dM[k].2).1);have j:=QC (w.aI w.dM[k].1.toNat).k w.dM[k].2;obtain⟨l,g⟩:=d;have f:(({w with dM:=w.dM.eraseIdx k,bK:=w.bK+1}:Wd).ab w.dM[k].1.toNat ((w.aI w.dM[k].1.toNat).k.V w.dM[k].2).1).dM=w.dM.eraseIdx k:=rfl;have m:(({w with dM:=w.dM.eraseIdx k,bK:=w.bK+1}:Wd).ab w.dM[k].1.toNat ((w.aI w.dM[k].1.toNat).k.V w.dM[k].2).1).sv=w.sv:=rfl;rw[f]at l;rw[m]at g;show Wd.mu _<_;unfold Wd.mu;rw[g];show kZ (Wd.V (({w with dM:=w.dM.eraseIdx k,bK:=w.bK+1}:Wd).ab w.dM[k].1.toNat ((w.aI w.dM[k].1.toNat).k.V w.dM[k].2).1) (-1) ((w.aI w.dM[k].1.toNat).k.V w.dM[k].2).2).dM+_<_;omega;have e:∀x:Nat,kZ (w.dM.eraseIdx k)+x<kZ w.dM+x:=λx=>by omega
 exact e _
def Nz:∀(l:List (Int×M)),kZ l<=17*l.length
 | []=>by simp[kZ,yB]
 |p::l=>by
  have a:=adl p.2;have b:=Nz l;show yB (p.2::l.map (·.2))<=_;rw[iR,bT];show wt p.2+kZ l<=_;omega
def f9.a2{w:Wd}(h:f9 w C):w.mu<=3560:=by
 have b:=Nz w.dM;have c:=h.s;unfold Wd.mu;split;omega;rename_i v a;have q:=(h.V v a).1.t;have:=q 0;have:=q 1;have:=q 2;have:=q 3;have:=q 4;have:=q 5;have:=q 6;have:=q 7;unfold nz;omega
def Wd.ai(w:Wd):Wd:=w.a4 w.mu
variable{s:Wd}
def Ix(w:Wd)(h:w.dM.length=0):∀f,w.a4 f=w
 |0=>rfl
 |_+1=>az h
def K7(w:Wd)(h:w.dM.length≠0)(f:Nat):w.a4 (f+1)=(w.I 0).a4 f:=ax h
def f9.aU:∀(f:Nat) {w:Wd} {C:Nat},f9 w C->f9 (w.a4 f) (C+f)
 |0,_,_,h=>h
 |f+1,w,C,h=>by
  unfold Wd.a4;split;exact h.e (by omega);exact(f9.aU f (h.af 0)).e (by omega)
def f9.ag{w:Wd}(h:f9 w C):f9 w.ai (C+3560):=(f9.aU w.mu h).e (by have:=h.a2;omega)
structure Da(w wr:World)(A:Wa)(s:Wd)(C:Nat)(g:Nat)(t:Wd):Prop where
 e:bM wr A t
 i:Fz A s w A t wr
 b:f9 t (C+(s.mu-g))
 o:t.mu<=g
 j:g<=s.mu
 h:s.ai=t.a4 g
theorem lF(A:Wa)(s:Wd)(C:Nat)(w:World)(h:bM w A s)(hB:f9 s C)(hC:C<=900000000):
  Calls prog 36 #[tp A.Q] w λe w'=>e=.returned (.tuple #[])/\bM w' A s.ai/\Fz A s w A s.ai w':=by
 have hmu:=hB.a2
 have HD0:Hid (Da w w A s C s.mu s):=⟨h,Fz.h,hB.e (by omega),aa _,aa _,rfl⟩
 go_enter func36,ntmps36
 go_wp2_with fail
 go_loopg [] s.mu (λg wr=>∃t,Da w wr A s C g t)
 case atStart=>exact⟨s,HD0.out⟩
 case round=>
  let ⟨t,D⟩:=hrel
  have hmn:=DS D.e
  have hnl:=D.b.s
  by_cases hz:t.dM.length=0
  .rw[hz]at hmn
   have HF:Hid (bM wr A s.ai/\Fz A s w A s.ai wr):=by
    rw[D.h,Ix t hz]
    exact⟨D.e,D.i⟩
   go_wp2_with fail
   apply hmn.mono
   rintro e w2⟨rfl,rfl⟩
   go_wp2_with fail
   go_end0
   exact⟨rfl,HF.out⟩
  .let ⟨n,hn⟩:∃n,t.dM.length=n+1:=⟨t.dM.length-1,by omega⟩
   rw[hn]at hmn
   have hgt:= aR (by omega)
   have hde:=yw (k:=0) D.e (by omega) D.b (by have:=D.j;omega)
   have hlt:=K6 D.b (k:=0) (by omega)
   have ⟨_,_,_,hmu2,hle,_⟩:=D

   have HD:Hid (∀w3,bM w3 A (t.I 0)->Fz A t wr A (t.I 0) w3->Da w w3 A s C (gk-1) (t.I 0)):=λw3 h1 h2=>by
    refine⟨h1,D.i.e h2,(D.b.af 0).e (by omega),by omega,by omega,?_⟩
    rw[D.h]
    let ⟨f,hf⟩:∃f,gk=f+1:=⟨gk-1,by omega⟩
    rw[hf,K7 t hz]
    rfl
   have hg0:0<gk:=by omega
   go_wp2_with fail
   apply hmn.mono
   rintro e w2⟨rfl,rfl⟩
   go_wp2_with fail
   apply hde.mono
   rintro e w3⟨rfl,q1,q2⟩
   go_wp2_with fail
   go_roundg (gk-1)
   case measure=>omega
   case rel=>exact⟨_,(HD.out w3 q1 q2)⟩
def bM.aU(h:bM w A s){f:Bool}{l:Int}(hD:bW w' A.Q s.rs f l)(L:Oq A.Q w w'):
  (s.sv=none->bM w' A {s with oP:=f,tR:=l}/\Fz A s w A {s with oP:=f,tR:=l} w')/\(∀v,s.sv=some v->bM w' A (s.Z {v with dX:=f,da:=l})/\Fz A s w A (s.Z {v with dX:=f,da:=l}) w'):=by
 have ad:=h.I;let ⟨bc,aS,bO⟩:=h.H
 have d:∀k,k<w.heap.size->k≠A.Q->w'.heap[k]?=w.heap[k]?:=λk hk hq=>L.b k hk hq;have eQ:∀i,(i<3\/12405<=i)->w'.cell? (aA A.Q i)=w.cell? (aA A.Q i):=λi r=>L.o i ad r;have fQ:∀i,w'.frozen? (aA A.Q i)=w.frozen? (aA A.Q i):=λi=>L.u i ad;have R:=d A.G h.u.H (fE bc);have hN:fm w' (A.Q+1) A.Q (s.dM.map mD):=NetIs.ab h.p L.h (eQ _ (by omega)) (eQ _ (by omega)) fQ λv g D E=>by
  let ⟨v',z,hr⟩:=h.p.b
  rw[D]at z;injection z with z
  subst z;exact d g (dg hr E).2.H (by have:=(dg hr E).1;omega)
 have hE:∃v,cC w' (aA A.Q 12410) v/\w'.ownsRow (A.Q+1) 45 10 v s.ba.length (fS s.ba):=h.x.imp λv D=>⟨(eQ _ (by omega)).trans D.1,bp D.2 λg E=>d g (dg D.2 E).2.H (by have:=(dg D.2 E).1;omega)⟩;have hC:=h.b.H (L.x _ h.b.h) (λi h1 h2=>eQ i (by omega)) fQ;have a0:∀j,j<s.n->bt w' (A.c j) (A.m j) (s.aI j).k:=λj K=>(h.o j K).j (d _ (h.o j K).H.1 (fE (aS j K).1)) (d _ (h.o j K).H.2 (fE (aS j K).2.1));have bg:∀M:Wd,M.n=s.n->(M.sv.isSome=true->s.sv.isSome=true)->∀k,k<w.heap.size->wfoot w' A M k->wfoot w A s k:=λM X N k hk f=>by
  rcases f with f|f|⟨v,f1,f2⟩|⟨i,r,f⟩|⟨i,r,f⟩|⟨f1,f2⟩
  exact .Q f;exact .G f;exact .ev v ((eQ _ (by omega)).symm.trans f1) f2;exact .c i (X▸r) f;exact .m i (X▸r) f;let ⟨v,D⟩:=aV.1 (N f1)
  have u:=h.t v D;have hl:=u.b.e;have hq:=u.q;exact .sv (N f1) ((jg (d _ (by omega) (by omega)) (d _ (by omega) (by omega)) k).1 f2)
 have a1:∀M:Wd,M.n=s.n->(M.sv.isSome=true->s.sv.isSome=true)->Fz A s w A M w':=λM X N=>⟨L.y,L.s,L.p,L.h,λk hk hf _=>d k hk (λe=>hf (.Q e)),bg M X N,rfl⟩;refine⟨λY=>⟨⟨hC.I rfl rfl rfl rfl rfl rfl rfl,hD,hN,hE,h.u.e R,λi=>(aJ (a:=(aA A.G i)) R).trans (h.C i),λj K=>(h.e j K).e R,a0,h.J,λv D=>?_,h.F,h.B⟩,a1 _ rfl (λq=>q)⟩,
  λv Y=>⟨⟨hC.I rfl rfl rfl (by rw[Y];rfl) rfl rfl rfl,?_,hN,hE,h.u.e R,λi=>(aJ (a:=(aA A.G i)) R).trans (h.C i),λj K=>(h.e j K).e R,a0,h.J,λx O=>?_,h.F,h.B⟩,a1 _ rfl (λ_=>by rw[Y];rfl)⟩⟩
 have z:= D;rw[Y]at z;cases z;have u:=h.t v Y;show bW w' A.Q v.rs f l;rw[u.j];exact hD;have P:= O;injection P with P
 subst P;have u:=h.t v Y;have hq:=u.q;have hl:=u.b.e;have o1:=u.b.x;have o2:=u.b.J;have o3:=u.b.W;have o4:=u.b.C;have bK:cx w' A.a {v with dX:=f,da:=l}:=by
  have hS:=d A.a.S (by omega) (by omega);have e:∀i,w'.cell? (aA A.a.S i)=w.cell? (aA A.a.S i):=λi=>aj hS;have k:=u.b;exact⟨by rw[hS];exact k.y,λi=>(aJ (a:=(aA A.a.S i)) hS).trans (k.o i),(e 0).trans k.c0,(e 1).trans k.c1,(e 2).trans k.c2,(e 3).trans k.c3,(e 4).trans k.c4,(e 5).trans k.c5,(e 6).trans k.c6,λi r=>(e _).trans (k.vd i r),λi r=>(e _).trans (k.vv i r),λi r j u hu=>(e _).trans (k.la i r j u hu),(e 47).trans k.A,
   λi r=>(k.b i r).imp λx O=>⟨(e _).trans O.1,bp O.2 λg E=>d g (dg O.2 E).2.H (by have:=(dg O.2 E).1;omega)⟩,λi j u v r K X hu D=>k.t i j u v r K X ((e _).symm.trans hu) ((e _).symm.trans D),
   WalIs.ab k.F L.h (d A.a.U (by omega) (by omega)) (λx g O E=>d g (rD.H (k.V O E).2) (by have:=(k.V O E).1;omega)),(by rw[u.q,u.j];exact hD),k.p.e (d _ (by omega) (by omega)) (d _ (by omega) (by omega)),by rw[d A.a.T (by omega) (by omega)];exact k.tt,k.x,k.J,k.W,k.C,k.B⟩
 exact⟨bK,u.q,rfl,rfl,rfl,u.o,u.p,u.t⟩
def bM.aw(h:bM w A s)(hs:s.sv=none){a:Ad}{v:Sv}(hS:cx w' a v)(n:a.q=A.Q)(r:Oq A.Q w w')(R:∀k,fy w' a k->k=A.Q\/w.heap.size<=k)(h1:v.i=s.b)(h2:v.b=s.i):
  bM (w'.setCell ⟨A.Q,12407,none⟩ (tp a.S)) {A with a:=a} (s.Z v)/\Fz A s w {A with a:=a} (s.Z v) (w'.setCell ⟨A.Q,12407,none⟩ (tp a.S)):=by
 have E:=h.I;obtain⟨ad,K,a1⟩:=h.H;have hl:=hS.e;have hz:=r.h;have z:∀k,k≠A.Q->(w'.setCell ⟨A.Q,12407,none⟩ (tp a.S)).heap[k]?=w'.heap[k]?:=λk L=>aX w' ⟨A.Q,12407,none⟩ (tp a.S) k L;have O:∀k,k<w.heap.size->k≠A.Q->(w'.setCell ⟨A.Q,12407,none⟩ (tp a.S)).heap[k]?=w.heap[k]?:=λk L n=>(z k n).trans (r.b k L n);have T:∀i,i≠12407->(w'.setCell ⟨A.Q,12407,none⟩ (tp a.S)).cell? ⟨A.Q,i,none⟩=w'.cell? ⟨A.Q,i,none⟩:=λi d=>ak _ _ _ _ (by intro q;injection q with _ q;exact d q.symm);have l:∀i,(i<3\/12405<=i)->i≠12407->(w'.setCell ⟨A.Q,12407,none⟩ (tp a.S)).cell? ⟨A.Q,i,none⟩=w.cell? ⟨A.Q,i,none⟩:=λi d hn=>(T i hn).trans (r.o i E d);have V:∀i,(w'.setCell ⟨A.Q,12407,none⟩ (tp a.S)).frozen? ⟨A.Q,i,none⟩=w'.frozen? ⟨A.Q,i,none⟩:=λi=>bb _ _ _ _;have fQ:∀i,(w'.setCell ⟨A.Q,12407,none⟩ (tp a.S)).frozen? ⟨A.Q,i,none⟩=w.frozen? ⟨A.Q,i,none⟩:=λi=>(V i).trans (r.u i E);have ba:(w'.setCell ⟨A.Q,12407,none⟩ (tp a.S)).heap.size=w'.heap.size:=by simp
 have hG:=O A.G h.u.H (fE ad);have hN:fm (w'.setCell ⟨A.Q,12407,none⟩ (tp a.S)) (A.Q+1) A.Q (s.dM.map mD):=NetIs.ab h.p (by omega) (l _ (by omega) (by omega)) (l _ (by omega) (by omega)) fQ λv g P W=>by
  obtain⟨v',D,hr⟩:=h.p.b;rw[P]at D;injection D with D
  subst D;exact O g (dg hr W).2.H (by have:=(dg hr W).1;omega)
 have hD:= DiskIs.ab (by rw[<-n];exact hS.Z) (λi _ _=>T i (by omega)) V;have aI:= hS.ae (by omega) (by rw[n];exact hD) (λk L aS=>z k (by rw[<-n];exact aS));have c:=h.b;have X:=c.o;rw[hs]at X;have Y:= (r.o _ E (by omega)).trans X;refine⟨⟨⟨(Wal.db (r.x _ h.b.h)),λi=>(fQ i).trans (c.b i),(l _ (by omega) (by omega)).trans c.t,(l _ (by omega) (by omega)).trans c.u,(l _ (by omega) (by omega)).trans c.x,ay _ _ _ Y,(l _ (by omega) (by omega)).trans c.p,(l _ (by omega) (by omega)).trans c.e,(l _ (by omega) (by omega)).trans c.j⟩,
  hD,hN,h.x.imp λv P=>⟨(l _ (by omega) (by omega)).trans P.1,bp P.2 λg W=>O g (dg P.2 W).2.H (by have:=(dg P.2 W).1;omega)⟩,h.u.e hG,λi=>(aJ (a:=⟨A.G,i,none⟩) hG).trans (h.C i),λj M=>(h.e j M).e hG,
  λj M=>(h.o j M).j (O _ (h.o j M).H.1 (fE (K j M).1)) (O _ (h.o j M).H.2 (fE (K j M).2.1)),h.J,λx hx=>?_,h.F,h.B⟩,
  ⟨r.y,r.s,r.p,by omega,λk L hf _=>O k L (λe=>hf (.Q e)),λk L f=>?_,rfl⟩⟩
 have N:= hx;injection N with N
 subst N;refine⟨aI,n,rfl,rfl,rfl,λi d e=>?_,h1,h2⟩;have e':A.m i=a.m:=e;have hm:=(h.o i d).H.2;rcases R a.m (.inr (.inl rfl)) with q|q
 exact((K i d).2.1) (by rw[e',q]);omega;rcases f with f|f|⟨x,f1,f2⟩|⟨i,d,f⟩|⟨i,d,f⟩|⟨f1,f2⟩
 exact .Q f;exact .G f;exact .ev x ((l _ (by omega) (by omega)).symm.trans f1) f2;exact .c i d f;exact .m i d f;have a0:= (jg (z a.U (by rw[<-n];omega)) (z a.S (by rw[<-n];omega)) k).1 f2;rcases R k a0 with q|q
 exact .Q q;omega
def mS.aU(x:∀r∈rs,0<=r.v/\r.v<=rs.length/\0<=r.e/\r.e<=rs.length/\r.d.size<=20)(A:rs.length=200):mS (Sv.aq to' tv td rs false 0 now) 0/\(Sv.aq to' tv td rs false 0 now).i=to'/\(Sv.aq to' tv td rs false 0 now).b=tv/\0<=(Sv.al to' tv td rs false 0).bO/\(Sv.al to' tv td rs false 0).bO<=1000:=by
 let ⟨q,y,B⟩:=po rs.length (by omega) rs (Sv.ab to' tv td rs false 0) x (λo=>⟨by simp[Sv.ab],by simp[Sv.ab],by simp[Sv.ab];decide⟩) (by simp[Sv.ab]) (by simp[Sv.ab])
 let ⟨z,a2,a3,a4,a5,a6,a7,a8,a9,t,u,g,j,k⟩:=kQ rs (Sv.ab to' tv td rs false 0)
 let ⟨a,l⟩:∃a,rs.foldl Sv.h (Sv.ab to' tv td rs false 0)=a:=⟨_,rfl⟩
 have e:Sv.al to' tv td rs false 0=a:=l;rw[l]at q y B z a2 a3 a4 a5 a6 a7 a8 a9 t u g j k;unfold Sv.aq;rw[e];have k1:(a.O now).dS=false:=a4;have s:(a.O now).rs=rs:=k;have C:(a.O now).ac (kc (a.O now).bO)=(a.O now,12):=by
  unfold Sv.ac;rw[ax (by rw[k1];decide),az (by rw[s];exact A)]
 rw[C];have D:(a.O now).bO=a.bO+1:=rfl;refine⟨⟨λc=>?_,λc=>?_,?_,λo=>(q o).1,λo=>?_,?_,λo m E=>?_,λo=>?_,?_,?_,λr w=>?_,?_,?_,λo=>(q o).2.2⟩,z,a2,y,by omega⟩;show 0<=a.iu c;rw[g];simp[Sv.ab];show a.iu c<=_;rw[g];simp[Sv.ab];show a.n<=_;rw[j];simp[Sv.ab];show a.vv o<=((a.O now).rs.length:Int);rw[s];exact(q o).2.1;show (a.O now).rs.length<=200;rw[s];omega;have p:m∈a.waits o:=E;rw[a7]at p;simp[Sv.ab]at p;show (a.waits o).length<=10;rw[a7];simp[Sv.ab];show 0<=a.da;rw[a6];simp[Sv.ab];show a.da<=_;rw[a6];simp[Sv.ab];have f:r∈(a.O now).rs:=w;show 0<=r.v/\r.v<=((a.O now).rs.length:Int)/\0<=r.e/\r.e<=((a.O now).rs.length:Int)/\r.d.size<=20;rw[s]at f⊢;exact x r f;show 0<=(a.O now).bO;omega;show (a.O now).bO<=201;omega
def mS.al(a:∀r∈rs,0<=r.v/\r.v<=rs.length/\0<=r.e/\r.e<=rs.length/\r.d.size<=20)(c:rs.length<=200):mS (Sv.aq to' tv td rs false 0 now) 0/\(Sv.aq to' tv td rs false 0 now).i=to'/\(Sv.aq to' tv td rs false 0 now).b=tv/\0<=(Sv.al to' tv td rs false 0).bO/\(Sv.al to' tv td rs false 0).bO<=1000:=by
 by_cases h:rs.length<200;exact mS.aw a h;exact mS.aU a (by omega)
def Oq.ab{q:Nat}(h:Oq q w w')(c:0<q)(a:jC w):jC w':=by
 have h0:=a;unfold Bare.jC at h0⊢;exact(aj (h.b 0 (Bare.jC.h a) (by omega))).trans h0
def xN(s:Wd)(C:Nat)(w:A1)(h:bM w A s)(hs:s.sv=none)(v:f9 s C)(U:∀r∈s.rs,0<=r.c/\r.o<8)(z:s.rs.length=200->0<A.Q/\jC w):
  Calls prog 58 #[tp A.Q] w λe w'=>e=.returned (.tuple #[])/\∃a,bM w' {A with a:=a} s.start/\Fz A s w {A with a:=a} s.start w':=by
 have n:=Wal.M2 s.tR (-1) h.y;rw[show decide ((0:Int)<=-1)=false from rfl,show max (-1:Int) 0=0 from rfl]at n;let ⟨n1,V,X,Y,Z⟩:=mS.al (to':=s.b) (tv:=s.i) (td:=s.o) (now:=s.cT) v.j v.I
 go_enter func58,ntmps58;go_wp2_with fail
 apply n.mono;rintro e w2⟨rfl,J,E⟩;let ⟨l,x2⟩:=(h.aU J E).1 hs
 have L:Hid (s.rs.length=200->0<A.Q/\jC w2):=λq=>⟨(z q).1,Oq.ab E (z q).1 (z q).2⟩


 go_upto_region 1 with fail
 let ⟨P,z2⟩:=l.h (au w2.heap.size w2).drew
 have F:=Vb P.y P.I v.I L.out U Y Z v.W v.c1 v.y v.u;have c0:=l.b.t;have c1:=l.b.u;have c2:=l.b.x;have B:=l.b.p;dsimp only at c0 c1 c2 B;refine Gen.start (S:=λw'=>w'.cell? (aA A.Q 0)=some (iI s.b)/\w'.cell? (aA A.Q 1)=some (iI s.i)/\w'.cell? (aA A.Q 2)=some (iI s.o)/\w'.cell? (aA A.Q 12408)=some (iI s.cT)) (by kernel_rfl) ⟨c0,c1,c2,B⟩ (λd=>?_);apply tk 0 16 d

 apply tk 1 2 d

 apply tk 2 3 d

 apply tk 3 12 d

 apply tk 4 5 d

 apply tk 5 6 d

 apply tk 6 7 d

 apply tk 7 12 d

 apply tk 8 9 d

 apply tk 9 10 d

 apply tk 10 11 d

 apply tk 11 12 d

 refine on 12 λK m=>?_;go_simp;apply F.mono;rintro e w3⟨a,M,rfl,N,g,G⟩;have f:Oq A.Q w2 w3:=⟨g.y,g.s,g.p,g.h,g.b,g.o,g.u,g.x⟩;have k:=l.I;have O:=(f.o 0 k (by omega)).trans c0;have d1:=(f.o 1 k (by omega)).trans c1;have d2:=(f.o 2 k (by omega)).trans c2;have d4:=(f.o 12408 k (by omega)).trans B;have D:=l.b.o;have H:({s with oP:=false,tR:=0}:Wd).sv=none:=hs;rw[H]at D;unfold LR at D;have R:=(f.o 12407 k (by omega)).trans D;have ad:=(f.u 12407 k).trans (l.b.b 12407);let ⟨y1,y2⟩:=l.aw H N M f G V X
 have T:Hid (bM (w3.setCell (aA A.Q 12407) (tp a.S)) {A with a:=a} s.start/\Fz A s w {A with a:=a} s.start (w3.setCell (aA A.Q 12407) (tp a.S))):=⟨y1,x2.e y2⟩;have e0:(w3.setCell (aA A.Q 12407) (tp a.S)).cell? (aA A.Q 0)=some (iI s.b):=by rw[ak _ _ _ _ (by intro q;injection q with _ q;omega)];exact O
 have e1:(w3.setCell (aA A.Q 12407) (tp a.S)).cell? (aA A.Q 1)=some (iI s.i):=by rw[ak _ _ _ _ (by intro q;injection q with _ q;omega)];exact d1
 have e2:(w3.setCell (aA A.Q 12407) (tp a.S)).cell? (aA A.Q 2)=some (iI s.o):=by rw[ak _ _ _ _ (by intro q;injection q with _ q;omega)];exact d2
 have e4:(w3.setCell (aA A.Q 12407) (tp a.S)).cell? (aA A.Q 12408)=some (iI s.cT):=by rw[ak _ _ _ _ (by intro q;injection q with _ q;omega)];exact d4

 refine m.out _ _ ⟨O,d1,d2,d4⟩ (λd=>?_)


 apply tk 13 14 d

 apply tk 14 16 d

 apply tk 16 17 d

 apply tk 17 18 d

 refine tw 15 18 (λK m=>?_) λK m=>?_
 .go_simp;refine m.out _ _ ⟨O,d1,d2,d4⟩ (λd=>?_)


  refine la 18 λK m=>?_;go_simp;apply m.out _ _

  go_wp2_with fail
  go_end0;exact⟨rfl,a,T.out⟩
 .go_simp;refine m.out _ _ ⟨e0,e1,e2,e4⟩ (λd=>?_)


  refine la 15 λK m=>?_;go_simp;apply m.out _ _

  go_wp2_with fail
  go_end0;exact⟨rfl,a,T.out⟩
def fe(w:World)(G k c:Nat)(a:Int):World:=((w.setCell ⟨G,k*4,none⟩ (tp c)).setCell ⟨G,k*4+2,none⟩ (.int .i64 a)).setCell ⟨G,k*4+3,none⟩ (.int .i64 (-1))
def DL{Q G n:Nat}(tob tv td a:Int)(w:A1)(r:w.cell? ⟨Q,12409,none⟩=some (.slice (some ⟨G,0,none⟩) n n))(h0:w.cell? ⟨Q,0,none⟩=some (.int .i64 tob))(N:w.cell? ⟨Q,1,none⟩=some (.int .i64 tv))(O:w.cell? ⟨Q,2,none⟩=some (.int .i64 td))(P:k<n)(R:n<=4)(g0:w.cell? ⟨G,k*4,none⟩=some u0)(u:w.cell? ⟨G,k*4+2,none⟩=some u2)(v:w.cell? ⟨G,k*4+3,none⟩=some u3)(x:∀i,w.frozen? ⟨G,i,none⟩=false)(g:0<=tob)(y:tob<=1099511627776)(h:0<=tv)(z:tv<=1099511627776)(l:0<=td)(hd:td<=500)(A:0<=a)(B:a<=1000000000000):
  Calls prog 57 #[tp Q,.int .i64 k,.int .i64 a] w λe w'=>e=.returned (.tuple #[])/\∃c q w2,Below w.heap.size w w2/\bt w2 c q (K.j (a*4+k) (ia td tob) (ia td tv))/\w.heap.size<=c/\w.heap.size<=q/\w'=fe w2 G k c a:=by
 have b:=cS _ _ g0;dsimp only at b;have C:(0:Int)<=(k:Int):=by omega
 have D:(k:Int)<(n:Int):=by omega
 have E:IntKind.i64.wrap (a*4)=a*4:=jJ (by omega) (by omega);have F:IntKind.i64.wrap (a*4+(k:Int))=a*4+(k:Int):=jJ (by omega) (by omega);go_enter func57,ntmps57;go_wp2_with fail
 refine(YA tob tv td (a*4+k) w g y h z l hd).mono ?_;rintro e w2⟨c,q,rfl,H,hc,I,f⟩;have S:=(f.cell (p:=(aA G (k*4))) b).trans g0;have T:=(f.cell (p:=(aA G (k*4+2))) b).trans u;have r3:=(f.cell (p:=(aA G (k*4+3))) b).trans v;have m:=λi=>(f.frozen (p:=(aA G i)) b).trans (x i);have J:=m (k*4);have L:=m (k*4+2);have M:=m (k*4+3);have s:Hid (∃o t d,Below w.heap.size w d/\bt d o t (K.j (a*4+k) (ia td tob) (ia td tv))/\w.heap.size<=o/\w.heap.size<=t/\fe w2 G k c a=fe d G k o a):=⟨c,q,w2,f,H,hc,I,rfl⟩;unfold fe at s;go_wp2_with fail
 go_end0;exact⟨rfl,s.out⟩
def wJ(w:A1)(G k c:Nat)(a:Int){x:Nat}(b:x≠G):(fe w G k c a).heap[x]?=w.heap[x]?:=by
 unfold fe;rw[aX _ (aA G (k*4+3)) _ x b,aX _ (aA G (k*4+2)) _ x b,aX _ (aA G (k*4)) _ x b]
def yz(w:A1)(G k c:Nat)(a:Int):(fe w G k c a).heap.size=w.heap.size/\(fe w G k c a).os=w.os/\(fe w G k c a).tape=w.tape/\(fe w G k c a).output=w.output:=by
 unfold fe;exact⟨by simp,rfl,rfl,rfl⟩
def jS(w:A1)(G k c:Nat)(a:Int){i:Nat}(e:i≠k*4)(b:i≠k*4+2)(d:i≠k*4+3):(fe w G k c a).cell? ⟨G,i,none⟩=w.cell? ⟨G,i,none⟩:=by
 unfold fe;rw[ak _ _ _ _ (by intro q;injection q with _ q;omega),ak _ _ _ _ (by intro q;injection q with _ q;omega),ak _ _ _ _ (by intro q;injection q with _ q;omega)]
def BF(w:A1)(G k c:Nat)(a:Int)(g0:w.cell? ⟨G,k*4,none⟩=some u0)(b:w.cell? ⟨G,k*4+2,none⟩=some u2)(d:w.cell? ⟨G,k*4+3,none⟩=some u3):(fe w G k c a).cell? ⟨G,k*4,none⟩=some (tp c)/\(fe w G k c a).cell? ⟨G,k*4+2,none⟩=some (.int .i64 a)/\(fe w G k c a).cell? ⟨G,k*4+3,none⟩=some (.int .i64 (-1)):=by
 have e:(w.setCell ⟨G,k*4,none⟩ (tp c)).cell? ⟨G,k*4+2,none⟩=some u2:=by rw[ak _ _ _ _ (by intro q;injection q with _ q;omega)];exact b
 have f:((w.setCell (aA G (k*4)) (tp c)).setCell (aA G (k*4+2)) (iI a)).cell? (aA G (k*4+3))=some u3:=by
  rw[ak _ _ _ _ (by intro q;injection q with _ q;omega),ak _ _ _ _ (by intro q;injection q with _ q;omega)];exact d
 unfold fe;refine⟨?_,?_,ay _ _ _ f⟩;rw[ak _ _ _ _ (by intro q;injection q with _ q;omega),ak _ _ _ _ (by intro q;injection q with _ q;omega)];exact ay _ _ _ g0;rw[ak _ _ _ _ (by intro q;injection q with _ q;omega)];exact ay _ _ _ e
def BE(w:A1)(G k c:Nat)(a:Int)(p:Addr):(fe w G k c a).frozen? p=w.frozen? p:=by
 unfold fe;rw[bb,bb,bb]
def mF{k:K}(h:k.I o=0):0<=o/\o<=7:=by
 unfold K.I at h;split at h;cases h;split at h;rename_i a;simp[Lease.fg,Num.m6]at a;omega;cases h
structure Hx(w w':World)(A:Wa)(s:Wd)(k:Nat)(c:K):Prop where
 b:bM w' A (s.ab k c)
 e:Fz A s w A (s.ab k c) w'
def Q0(s:Wd)(k:Nat):s.ab k (s.aI k).k=s:=by
 unfold Wd.ab;have:bB s.aI k {s.aI k with k:=(s.aI k).k} = s.aI:=by
  funext j;unfold bB;split;rename_i e;rw[e];rfl
 rw[this]
def K.ai(k:K)(o now:Int):K:=if k.I o=0 then k.al o now else k
def K.af(k:K)(o:Int)(d:ByteArray)(now:Int):K:=if k.H o d=0 then k.O 2 o d 0 false false now else k
def QS{m:Nat}{k:K}(o now:Int)(h:bt w c m k)(d:KB k C)(i:C<=100000000000):
  Calls prog 42 #[tp c,iI o,iI now] w λe w'=>e=.returned (eV (k.I o))/\bt w' c m (k.ai o now)/\Ob [c,m] w w':=by
 unfold K.ai;by_cases a:k.I o=0;rw[az a,a];let ⟨h0,f⟩:=mF a
 exact Ya o now h a d.b (by have:=d.u;omega) h0 f (by have:=d.n;omega) (λx g=>(d.F x g).1) rfl;rw[ax a];apply (Uw o now h a).mono;rintro e w'⟨rfl,rfl⟩;exact⟨rfl,h,Ob.V _ _⟩
def L6{m:Nat}{k:K}(o:Int)(d:Bh)(now:Int)(h:bt w c m k)(f:KB k C)(g:C<=100000000000)(hd:d.size<=1000000):
  Calls prog 60 #[tp c,iI o,.string d,iI now] w λe w'=>e=.returned (eV (k.H o d))/\bt w' c m (k.af o d now)/\Ob [c,m] w w':=by
 unfold K.af;by_cases a:k.H o d=0;rw[az a,a];exact Ux h a f.b (by have:=f.u;omega);rw[ax a];apply (P4 now h hd a).mono;rintro e w'⟨rfl,rfl⟩;exact⟨rfl,h,Ob.V _ _⟩
def QR(h:bM w A s)(f:k<s.n)(x:f9 s C)(y:C<=100000000000)(j:cC w (aA p 0) (iI o))(i:p≠A.c k/\p≠A.m k):
  Calls prog 41 #[.pointer (some (aA A.G (k*4))),tp p] w λe w'=>e=.returned (eV ((s.aI k).k.I o))/\Hx w w' A s k ((s.aI k).k.ai o (s.aI k).cM):=by
 let ⟨v,z⟩:=h.h (au w.heap.size w).drew
 have B:Hid (∀w2,bt w2 (A.c k) (A.m k) ((s.aI k).k.ai o (s.aI k).cM)->Ob [A.c k,A.m k] w.drew w2->Hx w w2 A s k ((s.aI k).k.ai o (s.aI k).cM)):=λw2 l g=>by
  let ⟨D,E⟩:=v.O f l g
  exact⟨D,z.e E⟩
 have q:∀w2,Ob [A.c k,A.m k] w.drew w2->cC w2 (aA p 0) (iI o):=λw2 g=>(aj (a:=(aA p 0)) (g.b p (cS _ _ j) (by simp[i.1,i.2]))).trans j;go_enter func41,ntmps41;go_upto_region 1 with fail
 refine Gen.start (S:=λw'=>cC w' (aA A.G (k*4)) (tp (A.c k))/\cC w' (aA A.G (k*4+1)) (iI (s.aI k).cM)/\cC w' (aA p 0) (iI o)) (by kernel_rfl) ⟨((h.e k f).b),((h.e k f).h),j⟩ (λd=>?_);apply tk 0 1 d

 apply tk 1 2 d

 apply tk 2 3 d

 apply tk 3 9 d

 apply tk 4 9 d

 apply tk 5 6 d

 apply tk 6 7 d

 apply tk 7 8 d

 apply tk 8 9 d

 refine on 9 λK r=>?_;go_simp;apply (QS o (s.aI k).cM (v.o k f) (x.o k f).k y).mono;rintro e w2⟨rfl,l,g⟩;have t:=B.out w2 l g;have d1:=(t.b.e k f).h;have u:∀c:Wld.K,((s.ab k c).aI k).cM=(s.aI k).cM:=λc=>by unfold Wd.ab;dsimp only;rw[cy]
 rw[u]at d1

 refine r.out _ _ ⟨((t.b.e k f).b),d1,q w2 g⟩ (λd=>?_)

 refine la 10 λK r=>?_;go_simp;apply r.out _ _;go_wp2_with fail
 go_ret;exact⟨rfl,t⟩
def L5{q:Nat}{d:Bh}(h:bM w A s)(i:k<s.n)(E:f9 s C)(F:C<=100000000000)(r:cC w (aA p 0) (iI o))(t:cC w (aA q 0) (.string d))(hd:d.size<=1000000)(j:p≠A.c k/\p≠A.m k)(l:q≠A.c k/\q≠A.m k):
  Calls prog 59 #[.pointer (some (aA A.G (k*4))),tp p,tp q] w λe w'=>e=.returned (eV ((s.aI k).k.H o d))/\Hx w w' A s k ((s.aI k).k.af o d (s.aI k).cM):=by
 let ⟨D,I⟩:=h.h (au w.heap.size w).drew
 have J:Hid (∀w2,bt w2 (A.c k) (A.m k) ((s.aI k).k.af o d (s.aI k).cM)->Ob [A.c k,A.m k] w.drew w2->Hx w w2 A s k ((s.aI k).k.af o d (s.aI k).cM)):=λw2 u g=>by
  let ⟨L,M⟩:=D.O i u g
  exact⟨L,I.e M⟩
 have v:∀w2,Ob [A.c k,A.m k] w.drew w2->cC w2 (aA p 0) (iI o):=λw2 g=>(aj (a:=(aA p 0)) (g.b p (cS _ _ r) (by simp[j.1,j.2]))).trans r;have x:∀w2,Ob [A.c k,A.m k] w.drew w2->cC w2 (aA q 0) (.string d):=λw2 g=>(aj (a:=(aA q 0)) (g.b q (cS _ _ t) (by simp[l.1,l.2]))).trans t;go_enter func59,ntmps59;go_upto_region 1 with fail
 refine Gen.start (S:=λw'=>cC w' (aA A.G (k*4)) _/\cC w' (aA A.G (k*4+1)) _/\cC w' (aA p 0) _/\cC w' (aA q 0) _) (by kernel_rfl) ⟨((h.e k i).b),((h.e k i).h),r,t⟩ (λf=>?_);apply tk 0 1 f

 apply tk 1 2 f

 apply tk 2 3 f

 apply tk 3 10 f

 apply tk 4 10 f

 apply tk 5 10 f

 apply tk 6 7 f

 apply tk 7 8 f

 apply tk 8 9 f

 apply tk 9 10 f

 refine on 10 λK y=>?_;go_simp;apply (L6 o d (s.aI k).cM (D.o k i) (E.o k i).k F hd).mono;rintro e w2⟨rfl,u,g⟩;have z:=J.out w2 u g;have d1:=(z.b.e k i).h;have B:∀c:Wld.K,((s.ab k c).aI k).cM=(s.aI k).cM:=λc=>by unfold Wd.ab;dsimp only;rw[cy]
 rw[B]at d1

 refine y.out _ _ ⟨((z.b.e k i).b),d1,v w2 g,x w2 g⟩ (λf=>?_)

 refine la 11 λK y=>?_;go_simp;apply y.out _ _;go_wp2_with fail
 go_ret;exact⟨rfl,z⟩
end Wld
end Go.Proofs.YtbebfliimjjohabGreatDoor
