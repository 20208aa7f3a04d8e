/- Parts of the proof. -/
import Derived.Test.YtbebfliimjjohabGreatDoorM27
set_option maxRecDepth 100000
set_option maxHeartbeats 8000000
set_option linter.all false
open Go.Proofs.Tryz
namespace Go.Proofs.YtbebfliimjjohabGreatDoor open Gen (la on tk)
open Go.RowKit Go.Maps
open Lease (Ob gv gV de cP mx cL ji fV fg dA kk)
open Cache (tp bp bD)
open Wal (R dE bW Oq Fw cY jf fo)
open Num (M)
namespace Wld
variable{a:Ad}{ml:Bool}{md:Bh}{now mk mc mn ms:Int}{l rest:List M}{m:M}{o B c f:Nat}{w wr z:A1}
structure VQ(w wr:World)(a:Ad)(v:Value)(l:List M):Prop where
 b:iy wr w.heap.size v l
 e:∀g,v.ownBlock=some g->¬fy wr a g
def VQ.h:VQ w wr a (.slice none 0 0) []:=⟨iy.h,by simp[Value.ownBlock]⟩
def VQ.j{v:Bg}(h:VQ w wr a v l)(d:Fs a wr z):VQ w z a v l:=
 ⟨bp h.b λg c=>d.o g (bv h.b g c).2 (h.e g c),λg c f=>h.e g c (d.h g (bv h.b g c).2 f)⟩
def VQ.H{s:Sv}{v n:Bg}{o:Obj}(h:VQ w wr a v l)(hs:cx wr a s)(A:Fs a w wr)(c:z.ownsRow w.heap.size 129 9 n (l.length+1) (dK l++f8 m))(d:(wr.alloc o).grownBy z v.ownBlock)(p:∀g,n.ownBlock=some g->v.ownBlock=some g\/wr.heap.size+1<=g):
  VQ w z a n (l++[m])/\cx z a s/\Fs a w z:=by
 have B:=d.size;simp at B;have r:∀k,k<wr.heap.size->(k<w.heap.size\/fy wr a k)->z.heap[k]?=wr.heap[k]?:=λk C j=>by
  have t:some k≠v.ownBlock:=λe=>by
   rcases j with j|j
   have:=(bv h.b k e.symm).1;omega;exact h.e k e.symm j
  rw[d.block k (by simp;omega) t];exact fJ wr o k C
 obtain⟨k1,D⟩:=A.Z hs d.os d.tape d.output (by omega) r;have x:=hs.e;refine⟨⟨iy.I c,λg u f=>?_⟩,D,k1⟩;have y:= fI (aj (r a.U x.2.1 (.inr (.inr (.inr (.inr (.inl rfl))))))) (λi _=>aj (r a.S x.2.2.2.2.1 (.inr (.inr (.inr (.inl rfl)))))) f;rcases p g u with q|q
 exact h.e g q y;have:=hs.H y;omega
structure gI(w wr:World)(a:Ad)(v:Value)(s:Sv)(l:List M):Prop where
 b:VQ w wr a v l
 h:cx wr a s
 e:Fs a w wr
def Sv.H(s:Sv)(a now:Int):Nat->Sv×List M
 |0=>(s,[])
 |k+1=>(((s.H a now k).1.e k now).1,(s.H a now k).2++(if uS a ((s.H a now k).1.e k now).2=true then [((s.H a now k).1.e k now).1.af a k] else []))
structure Be(s:Sv)(B:Int):Prop where
 e:∀c,s.iu c<=B
 b:∀o,0<=s.vv o
 h:∀o,s.vv o<=4611686018427387904
def uN(now:Int):∀(a:List Int) (s:Sv) (B:Int),Be s B->Be (s.Z now a).1 (B+a.length)/\(s.Z now a).2.length<=a.length
 | [],s,B,h=>⟨⟨λc=>by have:=h.e c;simp[pW];omega,h.b,h.h⟩,by simp[pW]⟩
 |c::a,s,B,h=>by
  rw[kG];split;let ⟨k1,f⟩:=uN now a s B h
  exact⟨⟨λc=>by have:=k1.e c;simp;omega,k1.b,k1.h⟩,by simp;omega⟩;have g:Be (s.ap c) (B+1):=⟨λd=>by
   have i:=h.e d;have j:=h.e c;show gV s.iu c (s.iu c+1) d<=_;unfold Lease.gV;split<;>omega,h.b,h.h⟩
  let ⟨k1,f⟩:=uN now a (s.ap c) (B+1) g
  exact⟨⟨λc=>by have:=k1.e c;simp;omega,k1.b,k1.h⟩,by simp;omega⟩
def Be.j{s:Sv}{B:Int}(h:Be s B)(o:Nat)(now:Int):Be (s.e o now).1 (B+4)/\(s.e o now).2.length<=4:=by
 unfold Sv.e;split;exact⟨⟨λc=>by have:=h.e c;dsimp only;omega,h.b,h.h⟩,by simp⟩;obtain⟨k1,a⟩:=uN now (ji s.D o now 4) s B h;have d:=Lease.EZ s.D o now 4;exact⟨⟨λc=>by have:=k1.e c;omega,k1.b,k1.h⟩,by omega⟩
def LL{s:Sv}(d now:Int)(h:cx w a s)(L:Be s 1000000000000000):
  Calls prog 227 #[tp a.S,iI d,iI now] w λe w'=>∃v,e=.returned v/\gI w w' a v (s.H d now 8).1 (s.H d now 8).2:=by
 let ⟨i0,hi,M,N,O⟩:=dw kw
 have ad:=h.lt;go_enter func227,ntmps227;go_wp2_with fail
 go_loopw [7,9] (λv i wr=>∃k:Nat,k<=8/\i=iI k/\gI w wr a v (s.H d now k).1 (s.H d now k).2/\Be (s.H d now k).1 (1000000000000000+4*k)/\(s.H d now k).2.length<=k) (λ_ i _=>8-(intOf i).toNat)
 case atStart=>exact⟨0,by omega,rfl,⟨VQ.h,h,Fs.j⟩,⟨λc=>by have:=L.e c;show s.iu c<=_;omega,L.b,L.h⟩,by simp[Sv.H]⟩
 case round=>
  obtain⟨k,hk,rfl,A,J,W⟩:=hrel;by_cases x:k<8
  .have m:Hid ((s.H d now (k+1)).1=((s.H d now k).1.e k now).1):=rfl;have g:Hid ((s.H d now (k+1)).2=(s.H d now k).2++(if uS d ((s.H d now k).1.e k now).2=true then [((s.H d now k).1.e k now).1.af d k] else [])):=rfl;let ⟨y,hy⟩:∃y,s.H d now k=y:=⟨_,rfl⟩
   rw[hy]at A J W m g;let ⟨X,l⟩:=y
   dsimp only at A J W m g;have aI:(k:Int)<8:=by omega
   have p:=sO now A.h x (λc=>by have:=J.e c;omega);let ⟨f,z⟩:=J.j k now
   let ⟨P,B⟩:∃P,X.e k now=P:=⟨_,rfl⟩
   rw[B]at p f z m g;let ⟨s3,li⟩:=P
   dsimp only at p f z m g

   have K:Hid (gI w wr a u7 X l):=A

   go_wp2_with fail
   apply p.mono;rintro e w2⟨vi,rfl,hI,C,D⟩

   have Y:gI w w2 a u7 s3 l:=⟨K.out.b.j D,C,K.out.e.e D⟩;have n:=Ce d hI (by omega);let ⟨b,hb⟩:∃b,uS d li=b:=⟨_,rfl⟩
   rw[hb]at n g

   have q:Hid (gI w w2 a u7 s3 l):=Y;let ⟨av,cv,Q,aS,_⟩:=Net.cZ Y.b.b
   subst Q

   cases b with
   |false=>
    go_wp2_with fail
    apply n.mono;rintro e w3⟨rfl,rfl⟩

    go_wp2_with fail
    go_roundw
    case rel=>
     refine⟨k+1,by omega,by go_num,?_⟩;have e2:(s.H d now (k+1)).2=l:=by rw[g.out];simp
     rw[m.out,e2];exact⟨q.out,⟨λc=>by have:=f.e c;omega,f.b,f.h⟩,by omega⟩
    case measure=>simp[intOf];omega
   |true=>
    have o:=DO a d k w2 C x (f.b k) (f.h k);have E:Hid ((s.H d now (k+1)).2=l++[s3.af d k]):=g.out.trans (by rw[az rfl]);let ⟨u,R⟩:∃u,s3.af d k=u:=⟨_,rfl⟩
    rw[R]at o E

    go_wp2_with fail
    apply n.mono;rintro e w3⟨rfl,rfl⟩

    go_wp2_with fail
    apply o.mono;rintro e w4⟨rfl,r⟩

    have F4:=C.h r;have F:=q.out.e.I C r;have Z:=q.out.b.j (Fs.H C r);have a0:=F.b

    go_wp2_with (first|refine ej rfl 22 rfl u rfl ?_|(at_builtin;refine App.je rfl rfl underlying141 hi M N O rfl (by decide) rfl (Z.b.alloc _) (aA w4.heap.size 0) 1 1 (f8 u) rfl rfl (ox w4 u) (jZ) ?r3 ?r4 ?r5 ?_))
    case r3=>unfold maxLen;omega
    case r4=>omega
    case r5=>simp;omega
    intro v5 w5 t T G;let ⟨O5,F5,U⟩:=Z.H F4 F t T G
    have V:Hid (gI w w5 a v5 s3 (l++[u])):=⟨O5,F5,U⟩

    go_wp2_with fail
    go_roundw
    case rel=>
     refine⟨k+1,by omega,by go_num,?_⟩;rw[m.out,E.out];exact⟨V.out,⟨λc=>by have:=f.e c;omega,f.b,f.h⟩,by simp;omega⟩
    case measure=>simp[intOf];omega
  .obtain rfl:k=8:=by omega
   have K:Hid (gI w wr a u7 (s.H d now 8).1 (s.H d now 8).2):=A

   go_wp2_with fail
   go_ret;exact⟨_,rfl,K.out⟩
def Uy(s:Sv)(r:R):(s.ac r).1.waits=s.waits/\(s.ac r).1.iu=s.iu/\(s.ac r).1.gq=s.gq/\(s.ac r).1.vv=s.vv/\(s.ac r).1.bO=s.bO/\(s.ac r).1.mR=s.mR/\(s.ac r).1.D=s.D/\(s.ac r).1.n=s.n:=by
 unfold Sv.ac;split;exact⟨rfl,rfl,rfl,rfl,rfl,rfl,rfl,rfl⟩;split;exact⟨rfl,rfl,rfl,rfl,rfl,rfl,rfl,rfl⟩;split<;>exact⟨rfl,rfl,rfl,rfl,rfl,rfl,rfl,rfl⟩
def Uz(s:Sv)(r:R)(h0:0<=s.da)(a:s.da<=9223372036854775807):0<=(s.ac r).1.da/\(s.ac r).1.da<=9223372036854775807:=by
 unfold Sv.ac;split;exact⟨h0,a⟩;split;exact⟨h0,a⟩;split;exact⟨h0,a⟩;rename_i h;dsimp only;split;rename_i b;have:s.da≠0:=λe=>h ⟨b,e⟩;omega;omega
def nE(s:Sv)(r:R)(h:¬r.o<0):(s.h r).waits=s.waits/\(s.h r).iu=s.iu/\(s.h r).gq=s.gq/\(s.h r).vv=bB s.vv r.o.toNat r.v/\(s.h r).bO=s.bO/\(s.h r).da=s.da/\(s.h r).mR=s.mR/\(s.h r).D=s.D/\(s.h r).n=s.n:=by
 unfold Sv.h;rw[ax h];split<;>exact⟨rfl,rfl,rfl,rfl,rfl,rfl,rfl,rfl,rfl⟩
def jQ(s:Sv)(m:M)(o:Nat):(s.j m o).1.waits=s.waits/\(s.j m o).1.iu=s.iu/\(s.j m o).1.gq=s.gq/\(s.j m o).1.bO=s.bO/\(s.j m o).1.mR=s.mR/\(s.j m o).1.D=s.D/\(s.j m o).1.n=s.n/\((s.j m o).1.vv=s.vv\/(s.j m o).1.vv=bB s.vv o (s.vv o+1)):=by
 let ⟨a,a2,a3,a4,a5,a6,a7,a8⟩:=Uy s (s.V m o)
 unfold Sv.j;split;have b:¬(s.V m o).o<0:=by show ¬(o:Int)<0;omega
 let ⟨c,d,b3,b4,b5,_,b6,b7,b8⟩:=nE (s.ac (s.V m o)).1 (s.V m o) b

 refine⟨c.trans a,d.trans a2,b3.trans a3,b5.trans a5,b6.trans a6,b7.trans a7,b8.trans a8,.inr ?_⟩;rw[b4,a4];have:(s.V m o).o.toNat=o:=by show ((o:Int)).toNat=o;omega
 rw[this];rfl;exact⟨a,a2,a3,a5,a6,a7,a8,.inl a4⟩
def yv(s:Sv)(m:M)(o:Nat)(h0:0<=s.da)(a:s.da<=9223372036854775807):0<=(s.j m o).1.da/\(s.j m o).1.da<=9223372036854775807:=by
 have h:=Uz s (s.V m o) h0 a;unfold Sv.j;split;have b:¬(s.V m o).o<0:=by show ¬(o:Int)<0;omega
 let ⟨_,_,_,_,_,e,_⟩:=nE (s.ac (s.V m o)).1 (s.V m o) b

 rw[e];exact h;exact h
def Sv.ag(s:Sv)(o:Nat)(now:Int):Nat->Sv×List M
 |0=>(s,[])
 |f+1=>
  if (s.waits o).length=0\/now<s.gq then (s,[])
  else if (s.e o now).2.length≠0 then ((s.e o now).1,[])
  else match (s.e o now).1.waits o with
   | []=>((s.e o now).1,[])
   |m::rest=>
    if ((s.e o now).1.j m o).2.2=false then (((s.e o now).1.j m o).1,[])
    else ((Sv.ag { ((s.e o now).1.j m o).1 with waits:=bB ((s.e o now).1.j m o).1.waits o rest} o now f).1,
     (Sv.aU { ((s.e o now).1.j m o).1 with waits:=bB ((s.e o now).1.j m o).1.waits o rest} m ((s.e o now).1.j m o).2.1)::(Sv.ag { ((s.e o now).1.j m o).1 with waits:=bB ((s.e o now).1.j m o).1.waits o rest} o now f).2)
def Sv.I(s:Sv)(o:Nat)(now:Int):Sv×List M:=s.ag o now ((s.waits o).length+1)
def sN:∀(a:List Int) (s:Sv),(s.Z now a).1.waits=s.waits/\(s.Z now a).1.vv=s.vv/\(s.Z now a).1.da=s.da/\(s.Z now a).1.gq=s.gq/\(s.Z now a).1.bO=s.bO
 | [],s=>⟨rfl,rfl,rfl,rfl,rfl⟩
 |c::a,s=>by
  rw[kG];split;exact sN a s;exact sN a (s.ap c)
def ii(s:Sv)(o:Nat)(now:Int):(s.e o now).1.waits=s.waits/\(s.e o now).1.vv=s.vv/\(s.e o now).1.da=s.da/\(s.e o now).1.gq=s.gq/\(s.e o now).1.bO=s.bO:=by
 unfold Sv.e;split;exact⟨rfl,rfl,rfl,rfl,rfl⟩;exact sN _ s
def Vg(o:Nat)(m:M):Prop:=m.o=o/\fo m.c=true/\fo m.n=true/\m.d.size<=20
def Vg.e{s:Sv}(h:Vg o m)(g:o<8)(h0:0<=s.vv o)(a:s.vv o+1<=1099511627776):jf (s.V m o)=true:=by
 obtain⟨_,b,c,d⟩:=h;have f:fo (s.vv o+1)=true:=Num.fX (by omega) a;unfold Wal.jf;rw[ax (by show (o:Int)≠-1;omega)];simp only[Wal.gp,Sv.V,b,c,f,Bool.and_self,BR,fv];exact⟨by omega,by omega,d,aE⟩
def Bs(wr:World)(a:Ad)(o:Nat):Nat:=match wr.cell? ⟨a.S,48+o,none⟩ with
 |some (.slice _ n _)=>n
 |_=>0
def IT{n:Nat}{ao:Option Addr}(h:cC wr (aA a.S (48+o)) (.slice ao n c)):Bs wr a o=n:=by
 unfold Bs;rw[h]
def H4{s:Sv}(h:(s.waits o).length=0\/now<s.gq):s.ag o now (f+1)=(s,[]):=az h
def UC{s:Sv}(h:¬((s.waits o).length=0\/now<s.gq))(a:(s.e o now).2.length≠0):s.ag o now (f+1)=((s.e o now).1,[]):=(ax h).trans (az a)
def UA{s:Sv}(h:¬((s.waits o).length=0\/now<s.gq))(a:¬(s.e o now).2.length≠0)(b:(s.e o now).1.waits o=m::rest)(c:((s.e o now).1.j m o).2.2=false):s.ag o now (f+1)=(((s.e o now).1.j m o).1,[]):=by
 refine(ax h).trans ((ax a).trans ?_);rw[b];exact az c
def aa4{s:Sv}(h:¬((s.waits o).length=0\/now<s.gq))(a:¬(s.e o now).2.length≠0)(b:(s.e o now).1.waits o=m::rest)(c:¬((s.e o now).1.j m o).2.2=false){x:Sv×Int×Bool}(d:(s.e o now).1.j m o=x){s3:Sv}(g:({x.1 with waits:=bB x.1.waits o rest}:Sv)=s3):
  s.ag o now (f+1)=((s3.ag o now f).1,s3.aU m x.2.1::(s3.ag o now f).2):=by
 subst d g;refine(ax h).trans ((ax a).trans ?_);rw[b];exact ax c
structure Av(w wr:World)(a:Ad)(s:Sv)(o:Nat)(now:Int)(v:Value)(s2:Sv)(l:List M):Prop where
 b:gI w wr a v s2 l
 y:(s2.waits o).length+l.length<=(s.waits o).length
 p:(s.I o now).1=(s2.ag o now ((s2.waits o).length+1)).1
 t:(s.I o now).2=l++(s2.ag o now ((s2.waits o).length+1)).2
 u:∀m∈s2.waits o,Vg o m
 i:∀c,s2.iu c<=1000000000000000+4*(l.length:Int)
 x:∀k,0<=s2.vv k
 j:∀k,s2.vv k<=1000000000000+(l.length:Int)
 e:0<=s2.da
 h:s2.da<=9223372036854775807
def sM{s:Sv}(now:Int)(h:cx w a s)(ho:o<8)(eu:∀m∈s.waits o,Vg o m)(ds:∀c,s.iu c<=1000000000000000)(ev:∀k,0<=s.vv k)(ex:∀k,s.vv k<=1000000000000)(ey:0<=s.da)(ez:s.da<=9223372036854775807):
  Calls prog 139 #[tp a.S,iI o,iI now] w λe w'=>∃v,e=.returned v/\gI w w' a v (s.I o now).1 (s.I o now).2:=by
 obtain⟨i0,hi,eA,eB,eC⟩:=dw kw;have eF:=h.B o ho;have fi:=h.lt;have fj:(0:Int)<=(o:Int):=by omega
 have fk:(o:Int)<8:=by omega
 go_enter func139,ntmps139;go_wp2_with fail
 go_loopw [7] (λv wr=>∃z l,Av w wr a s o now v z l) (λ_ wr=>Bs wr a o)
 case atStart=>exact⟨s,[],⟨⟨VQ.h,h,Fs.j⟩,by simp,rfl,rfl,eu,λc=>by have:=ds c;simp;omega,ev,λk=>by have:=ex k;simp;omega,ey,ez⟩⟩
 case round=>
  obtain⟨z,l,A⟩:=hrel;obtain⟨vw,b1,cM⟩:=A.b.h.b o ho;obtain⟨aw,cw,rfl,fl,_⟩:=Net.cZ cM;have fa:=A.b.h.B o ho;have fr:=A.y;have d6:=A.b.h.c6;have Z:=A.p;have N:=A.t;by_cases hn:(z.waits o).length=0
  .rw[H4 (.inl hn)]at Z N;rw[dP]at N;have P:Hid (gI w wr a u7 z l):=A.b;have E1:Hid ((s.I o now).1=z):=Z;have E2:Hid ((s.I o now).2=l):=N;rw[hn]at b1;clear A Z N cM;go_wp2_with fail
   go_ret;rw[E1.out,E2.out];exact⟨_,rfl,P.out⟩
  .obtain⟨n,L⟩:∃n,(z.waits o).length=n+1:=⟨(z.waits o).length-1,by omega⟩;by_cases hr:now<z.gq
   .rw[H4 (.inr hr)]at Z N;rw[dP]at N;have P:Hid (gI w wr a u7 z l):=A.b;have E1:Hid ((s.I o now).1=z):=Z;have E2:Hid ((s.I o now).2=l):=N;have eG:decide ((0:Int)<((n+1:Nat):Int))=true:=aR (by omega);have eN:decide (z.gq<=now)=false:=aK (by omega);rw[L]at b1;clear A Z N cM hr;go_wp2_with fail
    go_ret;rw[E1.out,E2.out];exact⟨_,rfl,P.out⟩
   .have dt:¬((z.waits o).length=0\/now<z.gq):=λq=>q.elim hn hr;have dv:=sO now A.b.h ho (λc=>by have:=A.i c;omega);have hO:Be z (1000000000000000+4*(l.length:Int)):=⟨A.i,A.x,λk=>by have:=A.j k;omega⟩;obtain⟨dy,fs⟩:=hO.j o now;obtain⟨k1,k2,k3,k4,k5⟩:=ii z o now;have P:Hid (Av w wr a s o now u7 z l):=A;have eG:decide ((0:Int)<((n+1:Nat):Int))=true:=aR (by omega);have eN:decide (z.gq<=now)=true:=aR (by omega);have ck:=b1;rw[L]at ck;have HH:Hid (¬((z.waits o).length=0\/now<z.gq)):=dt;clear A dt hr b1;go_wp2_with fail
    refine dv.mono ?_;rintro e w2⟨vi,rfl,hI,F2,R⟩;clear dv;obtain⟨ai,ci,rfl,_⟩:=hI.e;by_cases hz:(z.e o now).2.length≠0
    .rw[UC HH.out hz]at Z N;rw[dP]at N;have E1:Hid ((s.I o now).1=(z.e o now).1):=Z;have E2:Hid ((s.I o now).2=l):=N;have HT:Hid (gI w w2 a u7 (z.e o now).1 l):=⟨P.out.b.b.j R,F2,P.out.b.e.e R⟩;have cT:(((z.e o now).2.length:Int)==0)=false:=by simp;exactλq=>hz (by rw[q];rfl)
     clear Z N hI F2 R P;go_wp2_with fail
     go_ret;rw[E1.out,E2.out];exact⟨_,rfl,HT.out⟩
    .obtain⟨m,rest,b2⟩:∃m rest,z.waits o=m::rest:=by
      cases hq:z.waits o with
      |nil=>rw[hq]at L;simp at L
      |cons m rest=>exact⟨m,rest,rfl⟩
     have cl:=P.out.u m (by rw[b2];simp);have dz:∀x∈rest,Vg o x:=λx hx=>P.out.u x (by rw[b2];exact bI _ hx);have T:rest.length=n:=by rw[b2]at L;simpa using L
     have cW:(z.e o now).1.waits o=m::rest:=by rw[k1];exact b2
     obtain⟨x,hx⟩:∃x,(z.e o now).1.j m o=x:=⟨_,rfl⟩;obtain⟨s5,h5⟩:∃s5,({x.1 with waits:=bB x.1.waits o rest}:Sv)=s5:=⟨_,rfl⟩;have HX:Hid ((z.e o now).1.j m o=x):=hx;have H5:Hid (({x.1 with waits:=bB x.1.waits o rest}:Sv)=s5):=h5;have cb:Hid ((z.e o now).1.waits o=m::rest):=cW;have HZ:Hid (¬(z.e o now).2.length≠0):=hz;have cT:(z.e o now).2.length=0:=by omega
     have E1:Hid ((s.I o now).1=(z.ag o now ((z.waits o).length+1)).1):=Z;have E2:Hid ((s.I o now).2=l++(z.ag o now ((z.waits o).length+1)).2):=N;have F:Be (z.e o now).1 (1000000000000000+4*(l.length:Int)+4):=dy;have ad:∀k,(z.e o now).1.vv k<=1000000000000+(l.length:Int):=λk=>by rw[k2];exact P.out.j k
     have aI:0<=(z.e o now).1.da:=by rw[k3];exact P.out.e
     have aS:(z.e o now).1.da<=9223372036854775807:=by rw[k3];exact P.out.h
     have O2:=P.out.b.b.j R;have dM:=P.out.b.e.e R;clear Z N hz dy hO hx h5 hI R;rw[cT];clear cT;obtain⟨ft,co,a0⟩:=F2.b o ho;rw[cW]at a0;obtain⟨ag,cg,rfl,hg⟩:=a0.O;obtain⟨g,rfl,fu,fx,C⟩:=hg (by simp);have U:(m::rest).length=n+1:=by simp[T]
     rw[U]at co;obtain⟨mk,mc,mn,G,ms,mo,J,ml,md⟩:=m;obtain⟨dN,dS,eQ,eS⟩:=id cl;dsimp only at dN dS eQ eS;subst dN;have q0:w2.cell? (aA g 0)=some (iI mk):=C 0 0 (by simp) (by omega);have q1:w2.cell? (aA g 1)=some (iI mc):=C 0 1 (by simp) (by omega);have q2:w2.cell? (aA g 2)=some (iI mn):=C 0 2 (by simp) (by omega);have q3:w2.cell? (aA g 3)=some (iI G):=C 0 3 (by simp) (by omega);have q4:w2.cell? (aA g 4)=some (iI ms):=C 0 4 (by simp) (by omega);have q5:w2.cell? (aA g 5)=some (iI o):=C 0 5 (by simp) (by omega);have q6:w2.cell? (aA g 6)=some (iI J):=C 0 6 (by simp) (by omega);have q7:w2.cell? (aA g 7)=some (.bool ml):=C 0 7 (by simp) (by omega);have q8:w2.cell? (aA g 8)=some (.string md):=C 0 8 (by simp) (by omega);have fA:(0:Int)<((n+1:Nat):Int):=by omega
     have dV:=Num.eY dS;obtain⟨s3,dd⟩:∃s3,(z.e o now).1=s3:=⟨_,rfl⟩;rw[dd]at F2 HX cb F ad aI aS;have W:Hid ((z.e o now).1=s3):=dd;have dX:jf (s3.V ⟨mk,mc,mn,G,ms,o,J,ml,md⟩ o)=true:=Vg.e cl ho (F.b o) (by have:=ad o;omega);clear dd k1 k2 k3 k4 k5 C a0 cW;have F3:∀ob,cx (w2.alloc ob) a s3:=λob=>F2.j ob;have d0:∀ob,Fs a w (w2.alloc ob):=λob=>dM.O F2 ob;have d7:∀ob,¬fy (w2.alloc ob) a w2.heap.size:=λob=>F2.O ((au _ _).alloc (aa _) ob) (aa _);have O3:∀ob,VQ w (w2.alloc ob) a u7 l:=λob=>O2.j (Fs.H F2 ((au _ _).alloc (aa _) ob));have df:MB (dW w2 mk mc mn G ms o J ml md) w2.heap.size ⟨mk,mc,mn,G,ms,o,J,ml,md⟩:=ie w2;unfold dW at df;go_wp2_with fail
     have d8:=F3 (.cells #[iI mk,iI mc,iI mn,iI G,iI ms,iI o,iI J,.bool ml,.string md] 129);have cp:=d0 (.cells #[iI mk,iI mc,iI mn,iI G,iI ms,iI o,iI J,.bool ml,.string md] 129);have a1:=d7 (.cells #[iI mk,iI mc,iI mn,iI G,iI ms,iI o,iI J,.bool ml,.string md] 129);have d9:=O3 (.cells #[iI mk,iI mc,iI mn,iI G,iI ms,iI o,iI J,.bool ml,.string md] 129);have fb:(w2.alloc (.cells #[iI mk,iI mc,iI mn,iI G,iI ms,iI o,iI J,.bool ml,.string md] 129)).heap.size=w2.heap.size+1:=by simp
     clear F3 d0 d7 O3 q0 q1 q2 q3 q4 q5 q6 q7 q8 F2 dM O2 co;generalize w2.alloc (.cells #[.int .i64 mk,.int .i64 mc,.int .i64 mn,.int .i64 G,.int .i64 ms,.int .i64 o,.int .i64 J,.bool ml,.string md] 129)=w3 at *;have cc:=K0 d8 ho dX dV.1 aI aS (F.b o) (by have:=ad o;omega) HX;unfold Wire.M.ab at cc;dsimp only at cc;refine cc.mono ?_;rintro e w4⟨rfl,F4,X⟩;clear cc;have Q:=cp.e X;have O4:=d9.j X;have dk:=df.H X (by omega) a1;have cs:¬fy w4 a w2.heap.size:=λf=>a1 (X.h _ (by omega) f);have fB:=X.b;clear d8 cp X d9 df a1;obtain⟨s4,cd,eT⟩:=x;dsimp only at F4 H5⊢;cases eT with
     |false=>
      have ea:z.ag o now ((z.waits o).length+1)=(s4,[]):=by
       rw[UA HH.out HZ.out (by rw[W.out];exact cb.out) (by rw[W.out,HX.out]),W.out,HX.out]
      have HT:Hid (gI w w4 a u7 s4 l):=⟨O4,F4,Q⟩;have G1:Hid ((s.I o now).1=s4):=E1.out.trans (by rw[ea]);have G2:Hid ((s.I o now).2=l):=E2.out.trans (by rw[ea];simp);clear O4 F4 Q dk ea;go_wp2_with fail
      go_ret;rw[G1.out,G2.out];exact⟨_,rfl,HT.out⟩
     |true=>
      have eU:s4.waits=s3.waits:=by have:=(jQ s3 ⟨mk,mc,mn,G,ms,o,J,ml,md⟩ o).1;rw[HX.out]at this;exact this
      have eb:s4.iu=s3.iu:=by have:=(jQ s3 ⟨mk,mc,mn,G,ms,o,J,ml,md⟩ o).2.1;rw[HX.out]at this;exact this
      have ec:s4.vv=s3.vv\/s4.vv=bB s3.vv o (s3.vv o+1):=by have:=(jQ s3 ⟨mk,mc,mn,G,ms,o,J,ml,md⟩ o).2.2.2.2.2.2.2;rw[HX.out]at this;exact this
      have ef:0<=s4.da/\s4.da<=9223372036854775807:=by have:=yv s3 ⟨mk,mc,mn,G,ms,o,J,ml,md⟩ o aI aS;rw[HX.out]at this;exact this
      obtain⟨v4,ba,bc⟩:=F4.b o ho;rw[eU,cb.out]at bc;obtain⟨a4,c4,rfl,eg⟩:=bc.O;obtain⟨g4,rfl,fc,fd,_⟩:=eg (by simp);rw[U]at ba;have bg:n+1<=c4/\c4<=9223372036854775807:=by
       rcases bc.2 with⟨q,_⟩|⟨g',fG,fN,he,_,_,eh,eW,_⟩
       cases q;injection he with _ _ e3
       subst e3;rw[U]at eh;exact⟨eh,eW⟩
      have ct:Calls prog 197 #[.slice (some (aA g4 0)) (n+1) c4,iI 0,iI 1] w4.drew λe w'=>e=.returned (.slice (some (aA g4 0)) n c4)/\w'.ownsRow (a.S+1) 129 9 (.slice (some (aA g4 0)) n c4) n (dK rest)/\w4.drew.grownBy w' (some g4):=by
       have q:=UI 0 w4.drew (by simp) (by rw[U];omega) (by rw[U];exact bg.1) bg.2 bc;rw[U,Nat.add_sub_cancel]at q;exact q
      go_wp2_with fail
      refine Gen.start (S:=λw'=>w'.cell? (aA a.S (48+o))=some (.slice (some (aA g4 0)) (n+1) c4)) (by kernel_rfl) ba (λr=>?_);refine tk 0 9 r ?_;go_frame;refine tk 1 11 r ?_;go_frame;refine tk 2 4 r ?_;go_frame;refine tk 3 6 r ?_;go_frame;refine tk 4 5 r ?_;go_frame;refine tk 5 6 r ?_;go_frame;refine tk 6 7 r ?_;go_frame;refine tk 7 8 r ?_;go_frame;refine tk 9 10 r ?_;go_frame;refine tk 10 11 r ?_;go_frame;refine on 8 λK hK=>?_;go_simp;refine ct.mono ?_;rintro e w5⟨rfl,bK,dl⟩;dsimp only;have e0:=F4.e;have dm:w5.heap[a.S]?=w4.heap[a.S]?:=dl.block a.S (by show _<w4.heap.size;omega) (λq=>by injection q with q;omega);have em:w5.cell? (aA a.S (48+o))=some (.slice (some (aA g4 0)) (n+1) c4):=(aj (a:=(aA a.S (48+o))) dm).trans ba;have e4:w5.frozen? (aA a.S (48+o))=false:=(aJ (a:=(aA a.S (48+o))) dm).trans (F4.o _);refine hK.out _ _ em (λr=>?_);clear hK K ct;try simp only[Act.put,ar,aD,aC]
      refine tk 11 12 r ?_;go_frame;refine la 12 λK hK=>?_;go_simp;refine hK.out _ _ ?_;clear hK K r;have en:iy w5 (a.S+1) (.slice (some (aA g4 0)) n c4) rest:=by unfold iy;rw[T];exact bK
      obtain⟨R1,R2⟩:=F4.I.aw ho ba dl en (by omega) (λb hb=>.inl hb);rw[H5.out]at R1;have R3:Fs a w4 (w5.setCell (aA a.S (48+o)) (.slice (some (aA g4 0)) n c4)):=(Fs.j).V.e R2;have eo:=Q.e R3;have O6:=O4.j R3;have E:=dk.H R3 (by omega) cs;have fQ:=R3.b;have ea:z.ag o now ((z.waits o).length+1)=((s5.ag o now (n+1)).1,s5.aU ⟨mk,mc,mn,G,ms,o,J,ml,md⟩ cd::(s5.ag o now (n+1)).2):=by
       have q:=aa4 (f:=(z.waits o).length) HH.out HZ.out (by rw[W.out];exact cb.out) (by rw[W.out,HX.out];simp) (x:=(s4,cd,true)) (by rw[W.out];exact HX.out) H5.out;rw[L]at q⊢;exact q
      have bO:s5.waits o=rest:=by rw[<-H5.out];exact cy
      have e5:∀c,s5.iu c<=1000000000000000+4*(l.length:Int)+4:=λc=>by rw[<-H5.out];show s4.iu c<=_;rw[eb];exact F.e c
      have ep:∀k,0<=s5.vv k/\s5.vv k<=1000000000000+(l.length:Int)+1:=λk=>by
       rw[<-H5.out];show 0<=s4.vv k/\s4.vv k<=_;have v1:=ad k;have v2:=F.b k;have v3:=ad o;have v4:=F.b o;rcases ec with q|q
       rw[q];omega;rw[q];unfold bB;split<;>omega
      have eq:0<=s5.da/\s5.da<=9223372036854775807:=by rw[<-H5.out];exact ef
      clear R2 R3 en bK dl em e4 dm e0 dk cs O4 Q F4 ba bc bg eg;generalize w5.setCell ⟨a.S,48+o,none⟩ (.slice (some ⟨g4,0,none⟩) n c4)=w6 at *;have z0:=E.y;have z1:=E.i;have z2:=E.u;have z3:=E.j;have z4:=E.p;have z5:=E.h;have z6:=E.t;have z7:=E.x;have z8:=E.A;dsimp only at z0 z1 z2 z3 z4 z5 z6 z7 z8;have Y:=Iw ⟨mk,mc,mn,G,ms,o,J,ml,md⟩ cd R1 dV.1;obtain⟨D,cA⟩:∃D,s5.aU ⟨mk,mc,mn,G,ms,o,J,ml,md⟩ cd=D:=⟨_,rfl⟩;rw[cA]at Y ea;have EA:Hid (z.ag o now ((z.waits o).length+1)=((s5.ag o now (n+1)).1,D::(s5.ag o now (n+1)).2)):=ea;unfold Wire.M.ab at Y;dsimp only at Y;rw[show (.agg #[iI D.k,iI D.c,iI D.n,iI D.e,iI D.s,iI D.o,iI D.v,.bool D.l,.string D.d]:Bg)=Wire.M.ab D from rfl]at Y;clear cA ea E;go_wp2_with fail
      refine Y.mono ?_;rintro e w7⟨rfl,ce⟩;clear Y z0 z1 z2 z3 z4 z5 z6 z7 z8;have F7:=R1.h ce;have dn:=eo.I R1 ce;have O7:=O6.j (Fs.H R1 ce);have fT:=dn.b;clear R1 eo O6 ce;obtain⟨av,cv,e6,fY,_⟩:=Net.cZ O7.b;subst e6;go_wp2_with (first|refine ej rfl 67 rfl D rfl ?_|(at_builtin;refine App.je rfl rfl underlying141 hi eA eB eC rfl (by decide) rfl (O7.b.alloc _) ⟨w7.heap.size,0,none⟩ 1 1 (f8 D) rfl rfl (ox w7 D) (jZ) ?r3 ?r4 ?r5 ?_))
      case r3=>unfold maxLen;omega
      case r4=>omega
      case r5=>simp;omega
      intro v8 w8 bR er cG;obtain⟨O8,F8,es⟩:=O7.H F7 dn bR er cG;have dr:Hid (Bs w8 a o<Bs wr a o):=by
       obtain⟨v9,e7,e8⟩:=F8.b o ho;obtain⟨a9,c9,rfl,_,_⟩:=Net.cZ e8;have q1:=IT e7;have q2:=IT ck;rw[bO,T]at q1;show Bs w8 a o<Bs wr a o;omega
      have e9:Hid (Av w w8 a s o now v8 s5 (l++[D])):=by
       refine⟨⟨O8,F8,es⟩,?_,?_,?_,?_,λc=>?_,λk=>(ep k).1,λk=>?_,eq.1,eq.2⟩;rw[bO,T];simp;omega;rw[bO,T,E1.out,EA.out];rw[bO,T,E2.out,EA.out];simp;rw[bO];exact dz;have:=e5 c;simp;omega;have:=(ep k).2;simp;omega
      clear O7 O8 F7 F8 dn es bR er cG;go_wp2_with fail
      go_roundw
      case rel=>exact⟨s5,l++[D],e9.out⟩
      case measure=>exact dr.out
def Sv.a4(s:Sv)(c:Nat)(o:Nat):Sv:={s with D:=s.D.del (kk c o)}
def Sv.av(s:Sv)(m:M)(o:Nat)(now:Int):Sv×List M:=
 if m.e=s.bO/\m.v=s.vv o+1 then (s.a4 (bx m.c) o).I o now else (s,[])
def LK{s:Sv}{me mv:Int}(h:cx w a s)(f:o<8)(g:0<=s.vv o)(i:s.vv o<=1000000000000)(k:¬(me=s.bO/\mv=s.vv o+1)):
  Calls prog 188 #[tp a.S,Wire.M.ab ⟨mk,mc,mn,me,ms,o,mv,ml,md⟩,iI now] w λe l=>∃v,e=.returned v/\gI w l a v s []:=by
 have b:MB (dW w mk mc mn me ms o mv ml md) w.heap.size ⟨mk,mc,mn,me,ms,o,mv,ml,md⟩:=ie w;have F:cx (dW w mk mc mn me ms o mv ml md) a s:=h.j _;have d:Fs a w (dW w mk mc mn me ms o mv ml md):=(Fs.j).O h _;have m:(0:Int)<=(o:Int):=by omega
 have n:(o:Int)<8:=by omega
 have p :Hid _:= k;unfold dW at *;unfold Wire.M.ab;dsimp only;go_enter func188,ntmps188;go_wp2_with fail
 generalize w.alloc (.cells #[iI mk,iI mc,iI mn,iI me,iI ms,iI o,iI mv,.bool ml,.string md] 129)=w1 at *;have b3:=b.j;have b5:=b.h;have b6:=b.t;dsimp only at b3 b5 b6;have c5:=F.c5;have u:=F.vv o f;by_cases c:me=s.bO
 .have r:¬mv=s.vv o+1:=λq=>p.out ⟨c,q⟩;have x:(mv != s.vv o+1)=true:=by simpa using r
  subst c;go_quiet (fail);go_wp2_with fail
  go_ret;exact⟨_,rfl,VQ.h,F.ab,d.ab⟩
 .have y:(me != s.bO)=true:=by simpa using c
  go_quiet (fail);go_wp2_with fail
  go_ret;exact⟨_,rfl,VQ.h,F.ab,d.ab⟩
def I4{s:Sv}(h:cx w a s)(ho:o<8)(hc:0<=mc)(P:∀m∈s.waits o,Vg o m)(q:∀c,s.iu c<=1000000000000000)(r:∀k,0<=s.vv k)(z:∀k,s.vv k<=1000000000000)(Q:0<=s.da)(R:s.da<=9223372036854775807):
  Calls prog 188 #[tp a.S,Wire.M.ab ⟨mk,mc,mn,s.bO,ms,o,s.vv o+1,ml,md⟩,iI now] w λe B=>∃v,e=.returned v/\gI w B a v ((s.a4 (bx mc) o).I o now).1 ((s.a4 (bx mc) o).I o now).2:=by
 have g:MB (dW w mk mc mn s.bO ms o (s.vv o+1) ml md) w.heap.size ⟨mk,mc,mn,s.bO,ms,o,s.vv o+1,ml,md⟩:=ie w;have F:cx (dW w mk mc mn s.bO ms o (s.vv o+1) ml md) a s:=h.j _;have hF:Fs a w (dW w mk mc mn s.bO ms o (s.vv o+1) ml md):=(Fs.j).O h _;have U:¬fy (dW w mk mc mn s.bO ms o (s.vv o+1) ml md) a w.heap.size:=h.O ((au _ _).alloc (aa _) _) (aa _);have X:(dW w mk mc mn s.bO ms o (s.vv o+1) ml md).heap.size=w.heap.size+1:=by simp
 have ba:(0:Int)<=(o:Int):=by omega
 have bc:(o:Int)<8:=by omega
 have v0:=r o;have v1:=z o;unfold dW at *;unfold Wire.M.ab

 clear h;go_enter func188,ntmps188;go_wp2_with fail
 generalize w.alloc (.cells #[iI mk,iI mc,iI mn,iI s.bO,iI ms,iI o,iI (s.vv o+1),.bool ml,.string md] 129)=w1 at *;have b3:=g.j;have b5:=g.h;have b6:=g.t;dsimp only at b3 b5 b6;have c5:=F.c5;have cv:=F.vv o ho;go_quiet (fail);go_wp2_with fail
 generalize C:w1.drewN _=W;have D:cx W a s:=by rw[<-C];exact F.ab
 have Y:Fs a w W:=by rw[<-C];exact hF.ab
 have f:MB W w.heap.size ⟨mk,mc,mn,s.bO,ms,o,s.vv o+1,ml,md⟩:=by rw[<-C];exact⟨g.y,g.i,g.u,g.j,g.p,g.h,g.t,g.x,g.A⟩
 have E:¬fy W a w.heap.size:=by rw[<-C];exact U
 have bg:W.heap.size=w.heap.size+1:=by rw[<-C];exact X

 have G:=D.A;have b1:=f.i;have b5:=f.h;dsimp only at b1 b5;have bK:=mJ mc;have n:=λw=>oz w hc;have ad:=Lease.Hb (bx mc:Nat) o D.I.p ⟨by omega,by omega⟩ ⟨by omega,by omega⟩;refine Gen.start (S:=λB=>cC B (aA a.S 47) _/\cC B (aA w.heap.size 1) (iI mc)/\cC B (aA w.heap.size 5) _) (by kernel_rfl) ⟨G,b1,b5⟩ (λd=>?_);apply tk 0 1 d

 apply tk 1 2 d

 apply tk 2 3 d

 apply tk 3 9 d

 apply tk 4 5 d

 apply tk 5 6 d

 apply tk 7 8 d

 apply tk 8 9 d

 refine on 6 λK hK=>?_;go_simp;apply (n _).mono;rintro e w2⟨rfl,aI⟩;rw[aI]


 refine hK.out _ _ ⟨G,b1,b5⟩ (λd=>?_)


 refine la 9 λK hK=>?_;go_simp;apply ad.mono;rintro e w3⟨rfl,aS,a0⟩

 apply hK.out _ _

 have l:Ob [a.T,a.m] W.drew w3:=a0.Z (by simp);have F3:= D.I.an aS l;have J:= Y.V.ob D.I l;have L:= (Fs.j).ob D.I l;have a1:= MB.H (w:=W.drew) ⟨f.y,f.i,f.u,f.j,f.p,f.h,f.t,f.x,f.A⟩ L (by show _<W.heap.size;omega) E;have b5:=a1.h;dsimp only at b5;go_wp2_with fail
 apply (sM now F3 ho P q r z Q R).mono;rintro e w4⟨v4,rfl,N⟩;go_wp2_with fail
 go_ret;exact⟨_,rfl,⟨N.b.b.H J.b,N.b.e⟩,N.h,J.e N.e⟩
def I3{s:Sv}(mk mc mn me ms mv:Int)(ml:Bool)(md:Bh)(now:Int)(h:cx w a s)(n:o<8)(hc:0<=mc)(i:∀m∈s.waits o,Vg o m)(b:∀c,s.iu c<=1000000000000000)(d:∀k,0<=s.vv k)(f:∀k,s.vv k<=1000000000000)(j:0<=s.da)(l:s.da<=9223372036854775807):
  Calls prog 188 #[tp a.S,Wire.M.ab ⟨mk,mc,mn,me,ms,o,mv,ml,md⟩,iI now] w λe p=>∃v,e=.returned v/\gI w p a v (s.av ⟨mk,mc,mn,me,ms,o,mv,ml,md⟩ o now).1 (s.av ⟨mk,mc,mn,me,ms,o,mv,ml,md⟩ o now).2:=by
 unfold Sv.av

 by_cases g:me=s.bO/\mv=s.vv o+1;rw[az g];obtain⟨rfl,rfl⟩:=g;exact I4 h n hc i b d f j l;rw[ax g];exact LK h n (d o) (f o) g
structure mS(s:Sv)(B:Nat):Prop where
 A:∀c,0<=s.iu c
 x:∀c,s.iu c<=B
 n:s.n<=B
 i:∀o,0<=s.vv o
 j:∀o,s.vv o<=s.rs.length
 u:s.rs.length<=200
 w:∀o m,m∈s.waits o->Vg o m
 t:∀o,(s.waits o).length<=10
 b:0<=s.da
 h:s.da<=9223372036854775807
 p:∀r∈s.rs,0<=r.v/\r.v<=s.rs.length/\0<=r.e/\r.e<=s.rs.length/\r.d.size<=20
 C:0<=s.bO
 F:s.bO<=201
 y:∀o,(s.vd o).size<=20
def mS.e{s:Sv}{C:Nat}(h:mS s B)(a:B<=C):mS s C:=⟨h.A,λc=>by have:=h.x c;omega,by have:=h.n;omega,h.i,h.j,h.u,h.w,h.t,h.b,h.h,h.p,h.C,h.F,h.y⟩
def mS.ok{s:Sv}(h:mS s B)(a:B<=1000000000000000):Be s 1000000000000000:=⟨λc=>by have:=h.x c;omega,h.i,λo=>by have:=h.j o;have:=h.u;omega⟩
def mS.ag{s:Sv}(h:mS s B)(c:Int):mS (s.ap c) (B+1):=
 ⟨λd=>by
  have a:=h.A d;have e:=h.A c;show 0<=gV s.iu c (s.iu c+1) d;unfold Lease.gV;split<;>omega,λd=>by
  have a:=h.x d;have e:=h.x c;show gV s.iu c (s.iu c+1) d<=_;unfold Lease.gV;split<;>omega,by have:=h.n;show s.n<=_;omega,h.i,h.j,h.u,h.w,h.t,h.b,h.h,h.p,h.C,h.F,h.y⟩
def mS.Z(now:Int):∀(a:List Int) {s:Sv} {B:Nat},mS s B->mS (s.Z now a).1 (B+a.length)/\(s.Z now a).2.length<=a.length
 | [],s,B,h=>⟨h,by simp[pW]⟩
 |c::a,s,B,h=>by
  rw[kG];split;let ⟨k1,b⟩:=mS.Z now a h
  exact⟨k1.e (by simp),by simp;omega⟩;let ⟨k1,b⟩:=mS.Z now a (h.ag c)
  exact⟨k1.e (by simp;omega),by simp;omega⟩
def mS.I{s:Sv}(h:mS s B)(o:Nat)(now:Int):mS (s.e o now).1 (B+4)/\(s.e o now).2.length<=4:=by
 unfold Sv.e;split;exact⟨h.e (by omega),by simp⟩;obtain⟨k1,a⟩:=mS.Z now (ji s.D o now 4) h;have b:=Lease.EZ s.D o now 4;exact⟨k1.e (by omega),by omega⟩
def mS.ae{s:Sv}(h:mS s B)(a now:Int):∀k,mS (s.H a now k).1 (B+4*k)/\(s.H a now k).2.length<=k
 |0=>⟨h,by simp[Sv.H]⟩
 |k+1=>by
  let ⟨b,d⟩:=mS.ae h a now k
  let ⟨c,_⟩:=b.I k now
  refine⟨c.e (by omega),?_⟩;show ((s.H a now k).2++_).length<=_;rw[aM];split<;>simp<;>omega
def oe(s:Sv)(r:R):(s.h r).rs=s.rs:=by
 unfold Sv.h;split;rfl;split<;>rfl
def KU(s:Sv){r:R}(h:¬r.o<0):(s.h r).vd=bB s.vd r.o.toNat r.d:=by
 unfold Sv.h;rw[ax h];split<;>rfl
def mS.ab{s:Sv}(h:mS s B)(m:M)(o:Nat)(K:m.d.size<=20):mS (s.j m o).1 B:=by
 let ⟨k1,D,W,E,X,Y,L,_⟩:=jQ s m o
 let ⟨N,O⟩:=yv s m o h.b h.h
 have a:(s.j m o).1.rs.length<=200/\(∀x,0<=(s.j m o).1.vv x/\(s.j m o).1.vv x<=(s.j m o).1.rs.length/\((s.j m o).1.vd x).size<=20)/\∀r∈(s.j m o).1.rs,0<=r.v/\r.v<=(s.j m o).1.rs.length/\0<=r.e/\r.e<=(s.j m o).1.rs.length/\r.d.size<=20:=by
  have l:=h.u;unfold Sv.j Sv.ac;by_cases G:s.dS=true;rw[az G];exact⟨l,λx=>⟨h.i x,h.j x,h.y x⟩,h.p⟩;rw[ax G];by_cases H:s.rs.length=200;rw[az H];exact⟨l,λx=>⟨h.i x,h.j x,h.y x⟩,h.p⟩;rw[ax H];by_cases I:s.dX=true/\s.da=0;rw[az I];exact⟨l,λx=>⟨h.i x,h.j x,h.y x⟩,h.p⟩;rw[ax I]

  rw[az rfl]

  have J:¬(s.V m o).o<0:=by show ¬(o:Int)<0;omega
  have f:(s.V m o).o.toNat=o:=by show ((o:Int)).toNat=o;omega
  have z:∀x,0<=bB s.vv o (s.vv o+1) x/\bB s.vv o (s.vv o+1) x<=((s.rs++[s.V m o]).length:Int)/\(bB s.vd o m.d x).size<=20:=λx=>by
   have Z:=h.y x;have v0:=h.i x;have v1:=h.j x;have P:=h.i o;have Q:=h.j o;unfold bB;refine⟨?_,?_,?_⟩;split<;>omega;split<;>simp<;>omega;split<;>assumption
  have g:∀r∈s.rs++[s.V m o],0<=r.v/\r.v<=((s.rs++[s.V m o]).length:Int)/\0<=r.e/\r.e<=((s.rs++[s.V m o]).length:Int)/\r.d.size<=20:=λr R=>by
   rcases bq.1 R with q|q
   have:=h.p r q;simp;omega;rw[aL.1 q];have P:=h.i o;have Q:=h.j o;show 0<=s.vv o+1/\s.vv o+1<=_/\(0:Int)<=0/\(0:Int)<=_/\m.d.size<=20;simp;omega
  let ⟨y,k⟩:∃y:Sv,y = {s with rs:=s.rs++[s.V m o],da:=if s.dX=true then s.da-1 else s.da}:=⟨_,rfl⟩
  rw[<-k];let ⟨_,_,_,b4,_⟩:=nE y (s.V m o) J
  rw[oe,b4,f,KU _ J,f];have S:y.rs=s.rs++[s.V m o]:=by rw[k]
  have T:y.vv=s.vv:=by rw[k]
  have U:y.vd=s.vd:=by rw[k]
  rw[S,T,U];exact⟨by simp;omega,z,g⟩
 exact⟨λc=>by rw[D];exact h.A c,λc=>by rw[D];exact h.x c,by rw[L];exact h.n,λx=>(a.2.1 x).1,λx=>(a.2.1 x).2.1,a.1,by rw[k1];exact h.w,by rw[k1];exact h.t,N,O,a.2.2,by rw[E];exact h.C,by rw[E];exact h.F,λx=>(a.2.1 x).2.2⟩
def mS.ao{s:Sv}(h:mS s B)(c:s.waits o=m::rest):mS {s with waits:=bB s.waits o rest} B:=
 ⟨h.A,h.x,h.n,h.i,h.j,h.u,λx y d=>by
  have a:y∈bB s.waits o rest x:=d;unfold bB at a;split at a;rename_i e;subst e;exact h.w x y (by rw[c];exact bI _ a);exact h.w x y a,λx=>by
  show (bB s.waits o rest x).length<=10;unfold bB;split;have:=h.t o;rw[c]at this;simp at this;omega;exact h.t x,h.b,h.h,h.p,h.C,h.F,h.y⟩
def mS.ai(o:Nat)(now:Int):∀(f:Nat) {s:Sv} {B:Nat},mS s B->mS (s.ag o now f).1 (B+4*f)/\(s.ag o now f).2.length+((s.ag o now f).1.waits o).length<=(s.waits o).length
 |0,s,B,h=>⟨h,by simp[Sv.ag]⟩
 |f+1,s,B,h=>by
  unfold Sv.ag;split;exact⟨h.e (by omega),by simp⟩;let ⟨a,_⟩:=h.I o now
  let ⟨b,_⟩:=ii s o now
  split;exact⟨a.e (by omega),by simp[b]⟩;split;exact⟨a.e (by omega),by simp[b]⟩;rename_i m rest c;have d:=a.ab m o (a.w o m (by rw[c];exact cX ..)).2.2.2;let ⟨k1,_⟩:=jQ (s.e o now).1 m o
  split;exact⟨d.e (by omega),by simp[k1,b]⟩;have g:=d.ao (o:=o) (m:=m) (rest:=rest) (by rw[k1];exact c);let ⟨i,j⟩:=mS.ai o now f g
  refine⟨i.e (by omega),?_⟩

  rw[<-b,c];simp;rw[show ({ ((s.e o now).1.j m o).1 with waits:=bB ((s.e o now).1.j m o).1.waits o rest}:Sv).waits o=rest from cy]at j;omega
def mS.H{s:Sv}(h:mS s B)(o:Nat)(now:Int):mS (s.I o now).1 (B+44)/\(s.I o now).2.length<=10:=by
 have b:=h.t o;let ⟨a,c⟩:=mS.ai o now ((s.waits o).length+1) h
 exact⟨a.e (by omega),by unfold Sv.I;omega⟩
def mS.O{s:Sv}(h:mS s B):mS (s.a4 c o) B:=⟨h.A,h.x,h.n,h.i,h.j,h.u,h.w,h.t,h.b,h.h,h.p,h.C,h.F,h.y⟩
def mS.ac{s:Sv}(h:mS s B)(c:Vg o m):mS (s.aw m o).1 B:=by
 unfold Sv.aw;split;exact h;split;exact h;rename_i f;refine⟨h.A,h.x,h.n,h.i,h.j,h.u,λx y d=>?_,λx=>?_,h.b,h.h,h.p,h.C,h.F,h.y⟩;have a:y∈bB s.waits o (s.waits o++[m]) x:=d;unfold bB at a;split at a;rename_i e;subst e;rcases bq.1 a with q|q
 exact h.w x y q;rw[aL.1 q];exact c;exact h.w x y a;show (bB s.waits o (s.waits o++[m]) x).length<=10;unfold bB;split;simp;omega;exact h.t x
def Zr(D:Lease.ka)(c o:Int):Int:=match D.atKey (kk c o) (Lease.Dc 0) with
 |.lit (.int _ x)=>x
 |_=>0
def Sv.a6(s:Sv)(m:M)(o:Nat):M:=⟨5,m.c,m.n,s.bO,s.iu (bx m.c:Nat),o,s.vv o,decide ((s.waits o).length=0),s.vd o⟩
def Sv.a2(s:Sv)(m:M)(o:Nat)(now:Int):Sv:=if (s.waits o).length=0 then {s with D:=s.D.put (kk (bx m.c:Nat) o) (Lease.Dc (mx (Zr s.D (bx m.c:Nat) o) (now+s.i))),n:=s.n+1} else s
def Sv.a3(s:Sv)(m:M)(o:Nat)(now:Int):Sv×List M:=(s.a2 m o now,[s.a6 m o])
def Sv.an(s:Sv)(m:M)(now:Int):Sv×List M:=
 if (s.H (bx m.c:Nat) now 8).2.length≠0 then s.H (bx m.c:Nat) now 8
 else if m.e≠(s.H (bx m.c:Nat) now 8).1.bO\/m.s≠(s.H (bx m.c:Nat) now 8).1.iu (bx m.c:Nat) then ((s.H (bx m.c:Nat) now 8).1,[(s.H (bx m.c:Nat) now 8).1.ao 8 m])
 else ({ (s.H (bx m.c:Nat) now 8).1 with mR:=gV (s.H (bx m.c:Nat) now 8).1.mR (bx m.c:Nat) (mx ((s.H (bx m.c:Nat) now 8).1.mR (bx m.c:Nat)) (now+(s.H (bx m.c:Nat) now 8).1.b))},[(s.H (bx m.c:Nat) now 8).1.ao 7 m])
def Sv.a5(s:Sv)(o:Nat)(now:Int):Sv×List M:=(((s.I o now).1.e o now).1,(s.I o now).2++((s.I o now).1.e o now).2.map λc=>((s.I o now).1.e o now).1.af c o)
def Sv.ah(s:Sv)(m:M)(o:Nat)(now:Int):Sv×List M:=
 if m.c=(s.last (bx m.c)).c/\m.n=(s.last (bx m.c)).n then (s,[s.aU m (s.last (bx m.c)).v])
 else if j0 m.c m.n (s.last (bx m.c))=false then (s,[])
 else if (s.aw m o).2=false then ((s.aw m o).1,[])
 else (s.aw m o).1.a5 o now
def Sv.ai(s:Sv)(m:M)(now:Int):Sv×List M:=
 if s.dS=true\/m.c<0\/m.o<0\/8<=m.o then (s,[])
 else if m.k=1 then s.a3 m m.o.toNat now
 else if m.k=2 then s.ah m m.o.toNat now
 else if m.k=3 then s.an m now
 else if m.k=4 then s.av m m.o.toNat now
 else (s,[])
def Sv.ae(s:Sv)(now:Int):Nat->Sv×List M
 |0=>(s,[])
 |k+1=>(((s.ae now k).1.I k now).1,(s.ae now k).2++((s.ae now k).1.I k now).2)
variable{s:Sv}
def mS.aq(h:mS s B)(m:M)(o:Nat)(now:Int):mS (s.a3 m o now).1 (B+1)/\(s.a3 m o now).2.length<=1:=by
 refine⟨?_,by simp[Sv.a3]⟩;unfold Sv.a3 Sv.a2

 split;exact⟨h.A,λc=>by have:=h.x c;show s.iu c<=_;omega,by have:=h.n;show s.n+1<=_;omega,h.i,h.j,h.u,h.w,h.t,h.b,h.h,h.p,h.C,h.F,h.y⟩;exact h.e (by omega)
def mS.an(h:mS s B)(m:M)(now:Int):mS (s.an m now).1 (B+32)/\(s.an m now).2.length<=8:=by
 obtain⟨a,d⟩:=mS.ae h (bx m.c:Nat) now 8;unfold Sv.an;split;exact⟨a,d⟩;split;exact⟨a,by simp⟩;exact⟨⟨a.A,a.x,a.n,a.i,a.j,a.u,a.w,a.t,a.b,a.h,a.p,a.C,a.F,a.y⟩,by simp⟩
def mS.av(h:mS s B)(o:Nat)(now:Int):mS (s.a5 o now).1 (B+48)/\(s.a5 o now).2.length<=14:=by
 let ⟨a,c⟩:=h.H o now
 let ⟨b,d⟩:=a.I o now
 exact⟨b.e (by omega),by unfold Sv.a5;simp;omega⟩
def mS.ap(h:mS s B)(a:Vg o m)(now:Int):mS (s.ah m o now).1 (B+48)/\(s.ah m o now).2.length<=14:=by
 unfold Sv.ah;split;exact⟨h.e (by omega),by simp⟩;split;exact⟨h.e (by omega),by simp⟩;split;exact⟨(h.ac a).e (by omega),by simp⟩;exact(h.ac a).av o now
def mS.ah(h:mS s B)(m:M)(o:Nat)(now:Int):mS (s.av m o now).1 (B+44)/\(s.av m o now).2.length<=10:=by
 unfold Sv.av;split;exact(h.O).H o now;exact⟨h.e (by omega),by simp⟩
def okM(m:M):Prop:=fo m.c=true/\fo m.n=true/\m.d.size<=20
def mS.af(h:mS s B)(c:okM m)(now:Int):mS (s.ai m now).1 (B+48)/\(s.ai m now).2.length<=14:=by
 unfold Sv.ai;split;exact⟨h.e (by omega),by simp⟩;rename_i d;split;let ⟨a,b⟩:=h.aq m m.o.toNat now
 exact⟨a.e (by omega),by omega⟩;split;exact h.ap ⟨by omega,c⟩ now;split;let ⟨a,b⟩:=h.an m now
 exact⟨a.e (by omega),by omega⟩;split;let ⟨a,b⟩:=h.ah m m.o.toNat now
 exact⟨a.e (by omega),by omega⟩;exact⟨h.e (by omega),by simp⟩
def mS.V(h:mS s B)(now:Int):∀k,mS (s.ae now k).1 (B+44*k)/\(s.ae now k).2.length<=10*k
 |0=>⟨h,by simp[Sv.ae]⟩
 |k+1=>by
  let ⟨a,c⟩:=mS.V h now k
  let ⟨b,d⟩:=a.H k now
  refine⟨b.e (by omega),?_⟩;show ((s.ae now k).2++_).length<=_;rw[aM];omega
end Wld
end Go.Proofs.YtbebfliimjjohabGreatDoor
