/- Parts of the proof. -/
import Derived.Test.YtbebfliimjjohabGreatDoorM26
set_option maxRecDepth 100000
set_option maxHeartbeats 8000000
set_option linter.all false
open Go.Proofs.Tryz
namespace Go.Proofs.YtbebfliimjjohabGreatDoor
open Go.RowKit Go.Maps Go
open Lease (Ob fN ic ek dH mx cy jm fY eI de kk)
open Cache (tp aZ bq)
open Wal (R du bM Oq Fw cO jv fH)
open Num (M)
namespace Wld
variable{a:Ad}{ml:Bool}{md:DS}{now mk mc mn ms:Int}{l rest:List M}{m:M}{o B n c f:Nat}{r:R}{w wr z:Ba}
structure T8(w wr:World)(a:Ad)(v:Value)(l:List M):Prop where
 b:gR wr w.heap.size v l
 e:∀g,v.ownBlock=some g->¬eM wr a g
def T8.h:T8 w wr a (.slice none 0 0) []:=⟨gR.e,by simp[Value.ownBlock]⟩
def T8.j{v:Dv}(h:T8 w wr a v l)(hF:Fs a wr z):T8 w z a v l:=
 ⟨aZ h.b λg c=>hF.o g (bj h.b g c).2 (h.e g c),λg c f=>h.e g c (hF.h g (bj h.b g c).2 f)⟩
def T8.H{s:Sv}{v n:Dv}{o:Obj}(h:T8 w wr a v l)(hs:bZ wr a s)(A:Fs a w wr)(c:z.ownsRow w.heap.size 129 9 n (l.length+1) (gG l++gh m))(d:(wr.alloc o).grownBy z v.ownBlock)(p:∀g,n.ownBlock=some g->v.ownBlock=some g\/wr.heap.size+1<=g):
  T8 w z a n (l++[m])/\bZ z a s/\Fs a w z:=by
 have B:=d.size;simp at B;have r:∀k,k<wr.heap.size->(k<w.heap.size\/eM wr a k)->z.heap[k]?=wr.heap[k]?:=λk C j=>by
  have t:some k≠v.ownBlock:=λe=>by
   rcases j with j|j
   have:=(bj h.b k e.symm).1;omega;exact h.e k e.symm j
  rw[d.block k fS t];exact ff wr o k C
 obtain⟨k1,D⟩:=A.Z hs d.os d.tape d.output ak r;have x:=hs.e;refine⟨⟨gR.I c,λg u f=>?_⟩,D,k1⟩;have y:= fe (aa (r a.U x.2.1 (.inr (.inr (.inr (.inr (.inl rfl))))))) (λi _=>aa (r a.S x.2.2.2.2.1 (.inr (.inr (.inr (.inl rfl)))))) f;rcases p g u with q|q
 exact h.e g q y;have:=hs.H y;omega
structure gg(w wr:World)(a:Ad)(v:Value)(s:Sv)(l:List M):Prop where
 b:T8 w wr a v l
 h:bZ wr a s
 e:Fs a w wr
def Sv.j(s:Sv)(a now:Int):Nat->Sv×List M
 |0=>(s,[])
 |k+1=>(((s.j a now k).1.e k now).1,(s.j a now k).2++(if vk a ((s.j a now k).1.e k now).2=true then [((s.j a now k).1.e k now).1.Z a k] else []))
structure Ac(s:Sv)(B:Int):Prop where
 e:∀c,s.iK c<=B
 b:∀o,0<=s.vv o
 h:∀o,s.vv o<=4611686018427387904
def tV(now:Int):∀(a:List Int) (s:Sv) (B:Int),Ac s B->Ac (s.O now a).1 (B+a.length)/\(s.O now a).2.length<=a.length
 | [],s,B,h=>⟨⟨λc=>by have:=h.e c;simp[oI];omega,h.b,h.h⟩,by simp[oI]⟩
 |c::a,s,B,h=>by
  rw[lp];split;let ⟨k1,f⟩:=tV now a s B h
  exact⟨⟨λc=>by have:=k1.e c;simp;omega,k1.b,k1.h⟩,fS⟩;have g:Ac (s.ap c) (B+1):=⟨λd=>by
   have i:=h.e d;have j:=h.e c;show ic s.iK c (s.iK c+1) d<=_;unfold Lease.ic;split<;>omega,h.b,h.h⟩
  let ⟨k1,f⟩:=tV now a (s.ap c) (B+1) g
  exact⟨⟨λc=>by have:=k1.e c;simp;omega,k1.b,k1.h⟩,fS⟩
def Ac.j{s:Sv}{B:Int}(h:Ac s B)(o:Nat)(now:Int):Ac (s.e o now).1 (B+4)/\(s.e o now).2.length<=4:=by
 unfold Sv.e;split;exact⟨⟨λc=>by have:=h.e c;dsimp only;omega,h.b,h.h⟩,aY⟩;obtain⟨k1,a⟩:=tV now (jm s.D o now 4) s B h;have d:=Lease.DP s.D o now 4;exact⟨⟨λc=>by have:=k1.e c;omega,k1.b,k1.h⟩,ak⟩
def J9{s:Sv}(d now:Int)(h:bZ w a s)(L:Ac s 1000000000000000):
  Calls prog 227 #[tp a.S,iI d,iI now] w λe w'=>∃v,e=.returned v/\gg w w' a v (s.j d now 8).1 (s.j d now 8).2:=by
 let ⟨i0,hi,M,N,O⟩:=dg jP
 have ad:=h.lt;go_in;go_wp2;go_loopw [7,9] (λv i wr=>∃k:Nat,k<=8/\i=iI k/\gg w wr a v (s.j d now k).1 (s.j d now k).2/\Ac (s.j d now k).1 (1000000000000000+4*k)/\(s.j d now k).2.length<=k) (λ_ i _=>8-(intOf i).toNat)
 case atStart=>exact⟨0,ak,rfl,⟨T8.h,h,Fs.j⟩,⟨λc=>by have:=L.e c;show s.iK c<=_;omega,L.b,L.h⟩,by simp[Sv.j]⟩
 case round=>
  obtain⟨k,hk,rfl,A,J,W⟩:=hrel;by_cases x:k<8
  .have m:Hid ((s.j d now (k+1)).1=((s.j d now k).1.e k now).1):=rfl;have g:Hid ((s.j d now (k+1)).2=(s.j d now k).2++(if vk d ((s.j d now k).1.e k now).2=true then [((s.j d now k).1.e k now).1.Z d k] else [])):=rfl;let ⟨y,hy⟩:∃y,s.j d now k=y:=⟨_,rfl⟩
   rw[hy]at A J W m g;let ⟨X,l⟩:=y
   dsimp only at A J W m g;have aS:(k:Int)<8:=ak;have p:=rE now A.h x (λc=>by have:=J.e c;omega);let ⟨f,z⟩:=J.j k now
   let ⟨P,B⟩:∃P,X.e k now=P:=⟨_,rfl⟩
   rw[B]at p f z m g;let ⟨s3,li⟩:=P
   dsimp only at p f z m g

   have K:Hid (gg w wr a u7 X l):=A

   go_wp2_with fail
   apply p.mono;rintro e w2⟨vi,rfl,hI,C,D⟩

   have Y:gg w w2 a u7 s3 l:=⟨K.out.b.j D,C,K.out.e.e D⟩;have n:=Bh d hI ak;let ⟨b,hb⟩:∃b,vk d li=b:=⟨_,rfl⟩
   rw[hb]at n g

   have q:Hid (gg w w2 a u7 s3 l):=Y;let ⟨av,cv,Q,a0,_⟩:=Net.cP Y.b.b
   subst Q

   cases b with
   |false=>
    go_wp2_with fail
    apply n.mono;rintro e w3⟨rfl,rfl⟩

    go_wp2;go_roundw
    case rel=>
     refine⟨k+1,ak,by go_num,?_⟩;have e2:(s.j d now (k+1)).2=l:=by rw[g.out];simp
     rw[m.out,e2];exact⟨q.out,⟨λc=>by have:=f.e c;omega,f.b,f.h⟩,ak⟩
    case measure=>simp[intOf];omega
   |true=>
    have o:=CI a d k w2 C x (f.b k) (f.h k);have E:Hid ((s.j d now (k+1)).2=l++[s3.Z d k]):=g.out.trans (by rw[aH rfl]);let ⟨u,R⟩:∃u,s3.Z d k=u:=⟨_,rfl⟩
    rw[R]at o E

    go_wp2_with fail
    apply n.mono;rintro e w3⟨rfl,rfl⟩

    go_wp2_with fail
    apply o.mono;rintro e w4⟨rfl,r⟩

    have F4:=C.h r;have F:=q.out.e.I C r;have O4:=q.out.b.j (Fs.H C r);have a1:=F.b

    go_wp2_with (first|refine dS rfl 22 rfl u rfl ?_|(at_builtin;refine App.iC rfl rfl underlying141 hi M N O rfl cn rfl (O4.b.alloc _) (FI w4 0) 1 1 (gh u) rfl rfl (m8 w4 u) (jx) ?r3 ?r4 ?r5 ?_))
    case r3=>unfold maxLen;omega
    case r4=>omega
    case r5=>simp;omega
    intro v5 w5 t T G;let ⟨O5,F5,U⟩:=O4.H F4 F t T G
    have V:Hid (gg w w5 a v5 s3 (l++[u])):=⟨O5,F5,U⟩

    go_wp2;go_roundw
    case rel=>
     refine⟨k+1,ak,by go_num,?_⟩;rw[m.out,E.out];exact⟨V.out,⟨λc=>by have:=f.e c;omega,f.b,f.h⟩,fS⟩
    case measure=>simp[intOf];omega
  .obtain rfl:k=8:=ak;have K:Hid (gg w wr a u7 (s.j d now 8).1 (s.j d now 8).2):=A

   go_wp2;go_ret;exact⟨_,rfl,K.out⟩
def Sr(s:Sv)(r:R):(s.af r).1.waits=s.waits/\(s.af r).1.iK=s.iK/\(s.af r).1.ge=s.ge/\(s.af r).1.vv=s.vv/\(s.af r).1.bR=s.bR/\(s.af r).1.oQ=s.oQ/\(s.af r).1.D=s.D/\(s.af r).1.n=s.n:=by
 unfold Sv.af;split;exact⟨rfl,rfl,rfl,rfl,rfl,rfl,rfl,rfl⟩;split;exact⟨rfl,rfl,rfl,rfl,rfl,rfl,rfl,rfl⟩;split<;>exact⟨rfl,rfl,rfl,rfl,rfl,rfl,rfl,rfl⟩
def Ss(s:Sv)(r:R)(h0:0<=s.eK)(a:s.eK<=9223372036854775807):0<=(s.af r).1.eK/\(s.af r).1.eK<=9223372036854775807:=by
 unfold Sv.af;split;exact⟨h0,a⟩;split;exact⟨h0,a⟩;split;exact⟨h0,a⟩;rename_i h;dsimp only;split;rename_i b;have:s.eK≠0:=λe=>h ⟨b,e⟩;omega;omega
def uY(s:Sv)(r:R)(h:¬r.o<0):(s.h r).waits=s.waits/\(s.h r).iK=s.iK/\(s.h r).ge=s.ge/\(s.h r).vv=cq s.vv r.o.toNat r.v/\(s.h r).bR=s.bR/\(s.h r).eK=s.eK/\(s.h r).oQ=s.oQ/\(s.h r).D=s.D/\(s.h r).n=s.n:=by
 unfold Sv.h;rw[ay h];split<;>exact⟨rfl,rfl,rfl,rfl,rfl,rfl,rfl,rfl,rfl⟩
def j9(s:Sv)(m:M)(o:Nat):(s.I m o).1.waits=s.waits/\(s.I m o).1.iK=s.iK/\(s.I m o).1.ge=s.ge/\(s.I m o).1.bR=s.bR/\(s.I m o).1.oQ=s.oQ/\(s.I m o).1.D=s.D/\(s.I m o).1.n=s.n/\((s.I m o).1.vv=s.vv\/(s.I m o).1.vv=cq s.vv o (s.vv o+1)):=by
 let ⟨a,a2,a3,a4,a5,a6,a7,a8⟩:=Sr s (s.V m o)
 unfold Sv.I;split;have b:¬(s.V m o).o<0:=by show ¬(o:Int)<0;omega
 let ⟨b1,b2,b3,b4,b5,_,b6,b7,b8⟩:=uY (s.af (s.V m o)).1 (s.V m o) b

 refine⟨b1.trans a,b2.trans a2,b3.trans a3,b5.trans a5,b6.trans a6,b7.trans a7,b8.trans a8,.inr ?_⟩;rw[b4,a4];have:(s.V m o).o.toNat=o:=by show ((o:Int)).toNat=o;omega
 rw[this];rfl;exact⟨a,a2,a3,a5,a6,a7,a8,.inl a4⟩
def GA(s:Sv)(m:M)(o:Nat)(h0:0<=s.eK)(a:s.eK<=9223372036854775807):0<=(s.I m o).1.eK/\(s.I m o).1.eK<=9223372036854775807:=by
 have h:=Ss s (s.V m o) h0 a;unfold Sv.I;split;have b:¬(s.V m o).o<0:=by show ¬(o:Int)<0;omega
 let ⟨_,_,_,_,_,e,_⟩:=uY (s.af (s.V m o)).1 (s.V m o) b

 rw[e];exact h;exact h
def Sv.ag(s:Sv)(o:Nat)(now:Int):Nat->Sv×List M
 |0=>(s,[])
 |f+1=>
  if (s.waits o).length=0\/now<s.ge then (s,[])
  else if (s.e o now).2.length≠0 then ((s.e o now).1,[])
  else match (s.e o now).1.waits o with
   | []=>((s.e o now).1,[])
   |m::rest=>
    if ((s.e o now).1.I m o).2.2=false then (((s.e o now).1.I m o).1,[])
    else ((Sv.ag { ((s.e o now).1.I m o).1 with waits:=cq ((s.e o now).1.I m o).1.waits o rest} o now f).1,
     (Sv.av { ((s.e o now).1.I m o).1 with waits:=cq ((s.e o now).1.I m o).1.waits o rest} m ((s.e o now).1.I m o).2.1)::(Sv.ag { ((s.e o now).1.I m o).1 with waits:=cq ((s.e o now).1.I m o).1.waits o rest} o now f).2)
def Sv.H(s:Sv)(o:Nat)(now:Int):Sv×List M:=s.ag o now ((s.waits o).length+1)
def rD:∀(a:List Int) (s:Sv),(s.O now a).1.waits=s.waits/\(s.O now a).1.vv=s.vv/\(s.O now a).1.eK=s.eK/\(s.O now a).1.ge=s.ge/\(s.O now a).1.bR=s.bR
 | [],s=>⟨rfl,rfl,rfl,rfl,rfl⟩
 |c::a,s=>by
  rw[lp];split;exact rD a s;exact rD a (s.ap c)
def jM(s:Sv)(o:Nat)(now:Int):(s.e o now).1.waits=s.waits/\(s.e o now).1.vv=s.vv/\(s.e o now).1.eK=s.eK/\(s.e o now).1.ge=s.ge/\(s.e o now).1.bR=s.bR:=by
 unfold Sv.e;split;exact⟨rfl,rfl,rfl,rfl,rfl⟩;exact rD _ s
def Px(o:Nat)(m:M):Prop:=m.o=o/\fH m.c=true/\fH m.n=true/\m.d.size<=20/\o<8
def Px.e{s:Sv}(h:Px o m)(g:o<8)(h0:0<=s.vv o)(a:s.vv o+1<=1099511627776):jv (s.V m o)=true:=by
 obtain⟨_,b,c,d,_⟩:=h;have f:fH (s.vv o+1)=true:=Num.fu ak a;unfold Wal.jv;rw[ay (by show (o:Int)≠-1;omega)];simp only[Wal.fI,Sv.V,b,c,f,Bool.and_self,AW,f9];exact⟨ak,ak,d,aB⟩
def Au(wr:World)(a:Ad)(o:Nat):Nat:=match wr.cell? ⟨a.S,48+o,none⟩ with
 |some (.slice _ n _)=>n
 |_=>0
def G7{ao:Option Addr}(h:cC wr (aA a.S (48+o)) (.slice ao n c)):Au wr a o=n:=by
 unfold Au;rw[h]
def Gk{s:Sv}(h:(s.waits o).length=0\/now<s.ge):s.ag o now (f+1)=(s,[]):=aH h
def Sw{s:Sv}(h:¬((s.waits o).length=0\/now<s.ge))(a:(s.e o now).2.length≠0):s.ag o now (f+1)=((s.e o now).1,[]):=(ay h).trans (aH a)
def Su{s:Sv}(h:¬((s.waits o).length=0\/now<s.ge))(a:¬(s.e o now).2.length≠0)(b:(s.e o now).1.waits o=m::rest)(c:((s.e o now).1.I m o).2.2=false):s.ag o now (f+1)=(((s.e o now).1.I m o).1,[]):=by
 refine(ay h).trans ((ay a).trans ?_);rw[b];exact aH c
def Y9{s:Sv}(h:¬((s.waits o).length=0\/now<s.ge))(a:¬(s.e o now).2.length≠0)(b:(s.e o now).1.waits o=m::rest)(c:¬((s.e o now).1.I m o).2.2=false){x:Sv×Int×Bool}(d:(s.e o now).1.I m o=x){s3:Sv}(g:({x.1 with waits:=cq x.1.waits o rest}:Sv)=s3):
  s.ag o now (f+1)=((s3.ag o now f).1,s3.av m x.2.1::(s3.ag o now f).2):=by
 subst d g;refine(ay h).trans ((ay a).trans ?_);rw[b];exact ay c
structure Av(w wr:World)(a:Ad)(s:Sv)(o:Nat)(now:Int)(v:Value)(s2:Sv)(l:List M):Prop where
 b:gg w wr a v s2 l
 y:(s2.waits o).length+l.length<=(s.waits o).length
 p:(s.H o now).1=(s2.ag o now ((s2.waits o).length+1)).1
 t:(s.H o now).2=l++(s2.ag o now ((s2.waits o).length+1)).2
 u:∀m∈s2.waits o,Px o m
 i:∀c,s2.iK c<=1000000000000000+4*(l.length:Int)
 x:∀k,0<=s2.vv k
 j:∀k,s2.vv k<=1000000000000+(l.length:Int)
 e:0<=s2.eK
 h:s2.eK<=9223372036854775807
def rB{s:Sv}(now:Int)(h:bZ w a s)(ho:o<8)(eS:∀m∈s.waits o,Px o m)(d0:∀c,s.iK c<=1000000000000000)(eT:∀k,0<=s.vv k)(eU:∀k,s.vv k<=1000000000000)(eW:0<=s.eK)(e0:s.eK<=9223372036854775807):
  Calls prog 139 #[tp a.S,iI o,iI now] w λe w'=>∃v,e=.returned v/\gg w w' a v (s.H o now).1 (s.H o now).2:=by
 obtain⟨i0,hi,e4,e5,e6⟩:=dg jP;have e7:=h.C o ho;have fQ:=h.lt;have fT:(0:Int)<=(o:Int):=ak;have f0:(o:Int)<8:=ak;go_in;go_wp2;go_loopw [7] (λv wr=>∃r l,Av w wr a s o now v r l) (λ_ wr=>Au wr a o)
 case atStart=>exact⟨s,[],⟨⟨T8.h,h,Fs.j⟩,aY,rfl,rfl,eS,λc=>by have:=d0 c;simp;omega,eT,λk=>by have:=eU k;simp;omega,eW,e0⟩⟩
 case round=>
  obtain⟨r,l,A⟩:=hrel;obtain⟨vw,cm,dr⟩:=A.b.h.b o ho;obtain⟨aw,cw,rfl,f1,_⟩:=Net.cP dr;have fx:=A.b.h.C o ho;have f2:=A.y;have d6:=A.b.h.c6;have Y:=A.p;have L:=A.t;by_cases hn:(r.waits o).length=0
  .rw[Gk (.inl hn)]at Y L;rw[ei]at L;have N:Hid (gg w wr a u7 r l):=A.b;have E1:Hid ((s.H o now).1=r):=Y;have E2:Hid ((s.H o now).2=l):=L;rw[hn]at cm;clear A Y L dr;go_wp2;go_ret;rw[E1.out,E2.out];exact⟨_,rfl,N.out⟩
  .obtain⟨n,J⟩:∃n,(r.waits o).length=n+1:=⟨(r.waits o).length-1,ak⟩;by_cases hr:now<r.ge
   .rw[Gk (.inr hr)]at Y L;rw[ei]at L;have N:Hid (gg w wr a u7 r l):=A.b;have E1:Hid ((s.H o now).1=r):=Y;have E2:Hid ((s.H o now).2=l):=L;have e8:decide ((0:Int)<((n+1:Nat):Int))=true:=aX ak;have e9:decide (r.ge<=now)=false:=aK ak;rw[J]at cm;clear A Y L dr hr;go_wp2;go_ret;rw[E1.out,E2.out];exact⟨_,rfl,N.out⟩
   .have d7:¬((r.waits o).length=0\/now<r.ge):=λq=>q.elim hn hr;have d8:=rE now A.b.h ho (λc=>by have:=A.i c;omega);have hO:Ac r (1000000000000000+4*(l.length:Int)):=⟨A.i,A.x,λk=>by have:=A.j k;omega⟩;obtain⟨d9,f3⟩:=hO.j o now;obtain⟨k1,k2,k3,k4,k5⟩:=jM r o now;have N:Hid (Av w wr a s o now u7 r l):=A;have e8:decide ((0:Int)<((n+1:Nat):Int))=true:=aX ak;have e9:decide (r.ge<=now)=true:=aX ak;have cB:=cm;rw[J]at cB;have HH:Hid (¬((r.waits o).length=0\/now<r.ge)):=d7;clear A d7 hr cm;go_wp2_with fail
    refine d8.mono ?_;rintro e w2⟨vi,rfl,hI,F2,Q⟩;clear d8;obtain⟨ai,ci,rfl,_⟩:=hI.e;by_cases hz:(r.e o now).2.length≠0
    .rw[Sw HH.out hz]at Y L;rw[ei]at L;have E1:Hid ((s.H o now).1=(r.e o now).1):=Y;have E2:Hid ((s.H o now).2=l):=L;have HT:Hid (gg w w2 a u7 (r.e o now).1 l):=⟨N.out.b.b.j Q,F2,N.out.b.e.e Q⟩;have ds:(((r.e o now).2.length:Int)==0)=false:=by simp;exactλq=>hz (q▸rfl)
     clear Y L hI F2 Q N;go_wp2;go_ret;rw[E1.out,E2.out];exact⟨_,rfl,HT.out⟩
    .obtain⟨m,rest,co⟩:∃m rest,r.waits o=m::rest:=by
      cases hq:r.waits o with
      |nil=>rw[hq]at J;simp at J
      |cons m rest=>exact⟨m,rest,rfl⟩
     have cG:=N.out.u m (by rw[co];simp);have eb:∀x∈rest,Px o x:=λx hx=>N.out.u x (by rw[co];exact cJ _ hx);have R:rest.length=n:=by rw[co]at J;simpa using J
     have dt:(r.e o now).1.waits o=m::rest:=k1▸co;obtain⟨x,hx⟩:∃x,(r.e o now).1.I m o=x:=⟨_,rfl⟩;obtain⟨s5,h5⟩:∃s5,({x.1 with waits:=cq x.1.waits o rest}:Sv)=s5:=⟨_,rfl⟩;have HX:Hid ((r.e o now).1.I m o=x):=hx;have H5:Hid (({x.1 with waits:=cq x.1.waits o rest}:Sv)=s5):=h5;have cp:Hid ((r.e o now).1.waits o=m::rest):=dt;have HZ:Hid (¬(r.e o now).2.length≠0):=hz;have ds:(r.e o now).2.length=0:=ak;have E1:Hid ((s.H o now).1=(r.ag o now ((r.waits o).length+1)).1):=Y;have E2:Hid ((s.H o now).2=l++(r.ag o now ((r.waits o).length+1)).2):=L;have E:Ac (r.e o now).1 (1000000000000000+4*(l.length:Int)+4):=d9;have Z:∀k,(r.e o now).1.vv k<=1000000000000+(l.length:Int):=λk=>by rw[k2];exact N.out.j k
     have ad:0<=(r.e o now).1.eK:=k3▸N.out.e;have aS:(r.e o now).1.eK<=9223372036854775807:=k3▸N.out.h;have O2:=N.out.b.b.j Q;have ec:=N.out.b.e.e Q;clear Y L hz d9 hO hx h5 hI Q;rw[ds];clear ds;obtain⟨f4,cW,a0⟩:=F2.b o ho;rw[dt]at a0;obtain⟨ag,cg,rfl,hg⟩:=a0.O;obtain⟨g,rfl,f5,f6,z⟩:=hg aY;have T:(m::rest).length=n+1:=by simp[R]
     rw[T]at cW;obtain⟨mk,mc,mn,F,ms,mo,G,ml,md⟩:=m;obtain⟨ef,eg,fa,fb⟩:=id cG;dsimp only at ef eg fa fb;subst ef;have q0:w2.cell? (aA g 0)=some (iI mk):=z 0 0 aY ak;have q1:w2.cell? (aA g 1)=some (iI mc):=z 0 1 aY ak;have q2:w2.cell? (aA g 2)=some (iI mn):=z 0 2 aY ak;have q3:w2.cell? (aA g 3)=some (iI F):=z 0 3 aY ak;have q4:w2.cell? (aA g 4)=some (iI ms):=z 0 4 aY ak;have q5:w2.cell? (aA g 5)=some (iI o):=z 0 5 aY ak;have q6:w2.cell? (aA g 6)=some (iI G):=z 0 6 aY ak;have q7:w2.cell? (aA g 7)=some (.bool ml):=z 0 7 aY ak;have q8:w2.cell? (aA g 8)=some (.string md):=z 0 8 aY ak;have f7:(0:Int)<((n+1:Nat):Int):=ak;have em:=Num.eo eg;obtain⟨s3,dv⟩:∃s3,(r.e o now).1=s3:=⟨_,rfl⟩;rw[dv]at F2 HX cp E Z ad aS;have U:Hid ((r.e o now).1=s3):=dv;have en:jv (s3.V ⟨mk,mc,mn,F,ms,o,G,ml,md⟩ o)=true:=Px.e cG ho (E.b o) (jd (Z o));clear dv k1 k2 k3 k4 k5 z a0 dt;have F3:∀ob,bZ (w2.alloc ob) a s3:=λob=>F2.j ob;have ep:∀ob,Fs a w (w2.alloc ob):=λob=>ec.O F2 ob;have eq:∀ob,¬eM (w2.alloc ob) a w2.heap.size:=λob=>F2.O ((au _ _).alloc (aj _) ob) (aj _);have O3:∀ob,T8 w (w2.alloc ob) a u7 l:=λob=>O2.j (Fs.H F2 ((au _ _).alloc (aj _) ob));have dy:MB (dL w2 mk mc mn F ms o G ml md) w2.heap.size ⟨mk,mc,mn,F,ms,o,G,ml,md⟩:=gF w2;unfold dL at dy;go_wp2_with fail
     have er:=F3 (.cells #[iI mk,iI mc,iI mn,iI F,iI ms,iI o,iI G,.bool ml,.string md] 129);have dd:=ep (.cells #[iI mk,iI mc,iI mn,iI F,iI ms,iI o,iI G,.bool ml,.string md] 129);have a1:=eq (.cells #[iI mk,iI mc,iI mn,iI F,iI ms,iI o,iI G,.bool ml,.string md] 129);have es:=O3 (.cells #[iI mk,iI mc,iI mn,iI F,iI ms,iI o,iI G,.bool ml,.string md] 129);have fA:(w2.alloc (.cells #[iI mk,iI mc,iI mn,iI F,iI ms,iI o,iI G,.bool ml,.string md] 129)).heap.size=w2.heap.size+1:=aY;clear F3 ep eq O3 q0 q1 q2 q3 q4 q5 q6 q7 q8 F2 ec O2 cW;generalize w2.alloc (.cells #[.int .i64 mk,.int .i64 mc,.int .i64 mn,.int .i64 F,.int .i64 ms,.int .i64 o,.int .i64 G,.bool ml,.string md] 129)=w3 at *;have cs:=JA er ho en em.1 ad aS (E.b o) (jd (Z o)) HX;unfold Wire.M.ab at cs;dsimp only at cs;refine cs.mono ?_;rintro e w4⟨rfl,F4,W⟩;clear cs;have P:=dd.e W;have O4:=es.j W;have dz:=dy.H W ak a1;have df:¬eM w4 a w2.heap.size:=λf=>a1 (W.h _ ak f);have gb:=W.b;clear er dd W es dy a1;obtain⟨s4,ct,fc⟩:=x;dsimp only at F4 H5⊢;cases fc with
     |false=>
      have ea:r.ag o now ((r.waits o).length+1)=(s4,[]):=by
       rw[Su HH.out HZ.out (U.out▸cp.out) (by rw[U.out,HX.out]),U.out,HX.out]
      have HT:Hid (gg w w4 a u7 s4 l):=⟨O4,F4,P⟩;have G1:Hid ((s.H o now).1=s4):=E1.out.trans (by rw[ea]);have G2:Hid ((s.H o now).2=l):=E2.out.trans (by rw[ea];simp);clear O4 F4 P dz ea;go_wp2;go_ret;rw[G1.out,G2.out];exact⟨_,rfl,HT.out⟩
     |true=>
      have fd:s4.waits=s3.waits:=by have:=(j9 s3 ⟨mk,mc,mn,F,ms,o,G,ml,md⟩ o).1;rw[HX.out]at this;exact this
      have ev:s4.iK=s3.iK:=by have:=(j9 s3 ⟨mk,mc,mn,F,ms,o,G,ml,md⟩ o).2.1;rw[HX.out]at this;exact this
      have ex:s4.vv=s3.vv\/s4.vv=cq s3.vv o (s3.vv o+1):=by have:=(j9 s3 ⟨mk,mc,mn,F,ms,o,G,ml,md⟩ o).2.2.2.2.2.2.2;rw[HX.out]at this;exact this
      have ey:0<=s4.eK/\s4.eK<=9223372036854775807:=by have:=GA s3 ⟨mk,mc,mn,F,ms,o,G,ml,md⟩ o ad aS;rw[HX.out]at this;exact this
      obtain⟨v4,bm,bO⟩:=F4.b o ho;rw[fd,cp.out]at bO;obtain⟨a4,c4,rfl,ez⟩:=bO.O;obtain⟨g4,rfl,fB,fG,_⟩:=ez aY;rw[T]at bm;have bR:n+1<=c4/\c4<=9223372036854775807:=by
       rcases bO.2 with⟨q,_⟩|⟨g',gc,gd,he,_,_,eA,fi,_⟩
       cases q;injection he with _ _ e3
       subst e3;rw[T]at eA;exact⟨eA,fi⟩
      have dk:Calls prog 197 #[.slice (some (aA g4 0)) (n+1) c4,iI 0,iI 1] w4.drew λe w'=>e=.returned (.slice (some (aA g4 0)) n c4)/\w'.ownsRow (a.S+1) 129 9 (.slice (some (aA g4 0)) n c4) n (gG rest)/\w4.drew.grownBy w' (some g4):=by
       have q:=SD 0 w4.drew aY (by rw[T];omega) (T▸bR.1) bR.2 bO;rw[T,Nat.add_sub_cancel]at q;exact q
      go_wp2_with fail
      refine Gen.start (S:=λw'=>w'.cell? (aA a.S (48+o))=some (.slice (some (aA g4 0)) (n+1) c4)) bt bm (λqH=>?_);refine Gen.tz ?_;refine Gen.on 8 λK hK=>?_;go_simp;refine dk.mono ?_;rintro e w5⟨rfl,cj,dJ⟩;dsimp only;have fj:=F4.e;have dN:w5.heap[a.S]?=w4.heap[a.S]?:=dJ.block a.S (by show _<w4.heap.size;omega) (λq=>by injection q with q;omega);have eB:w5.cell? (aA a.S (48+o))=some (.slice (some (aA g4 0)) (n+1) c4):=(aa (a:=(aA a.S (48+o))) dN).trans bm;have fk:w5.frozen? (aA a.S (48+o))=false:=(aG (a:=(aA a.S (48+o))) dN).trans (F4.o _);refine hK.out _ _ eB (λqH=>?_);clear hK K dk;try simp only[Act.put,ax,aJ,aI]
      refine Gen.tk 11 12 qH ?_;go_frame;refine Gen.la 12 λK hK=>?_;go_simp;refine hK.out _ _ ?_;clear hK K qH;have eC:gR w5 (a.S+1) (.slice (some (aA g4 0)) n c4) rest:=by unfold gR;rw[R];exact cj
      obtain⟨R1,R2⟩:=F4.I.av ho bm dJ eC ak (λb hb=>.inl hb);rw[H5.out]at R1;have R3:Fs a w4 (w5.setCell (aA a.S (48+o)) (.slice (some (aA g4 0)) n c4)):=(Fs.j).V.e R2;have eF:=P.e R3;have O6:=O4.j R3;have D:=dz.H R3 ak df;have gf:=R3.b;have ea:r.ag o now ((r.waits o).length+1)=((s5.ag o now (n+1)).1,s5.av ⟨mk,mc,mn,F,ms,o,G,ml,md⟩ ct::(s5.ag o now (n+1)).2):=by
       have q:=Y9 (f:=(r.waits o).length) HH.out HZ.out (U.out▸cp.out) (by rw[U.out,HX.out];simp) (x:=(s4,ct,true)) (U.out▸HX.out) H5.out;rw[J]at q⊢;exact q
      have ck:s5.waits o=rest:=H5.out▸da;have fl:∀c,s5.iK c<=1000000000000000+4*(l.length:Int)+4:=λc=>by rw[<-H5.out];show s4.iK c<=_;rw[ev];exact E.e c
      have eG:∀k,0<=s5.vv k/\s5.vv k<=1000000000000+(l.length:Int)+1:=λk=>by
       rw[<-H5.out];show 0<=s4.vv k/\s4.vv k<=_;have v1:=Z k;have v2:=E.b k;have v3:=Z o;have v4:=E.b o;rcases ex with q|q
       rw[q];omega;rw[q];unfold cq;split<;>omega
      have eJ:0<=s5.eK/\s5.eK<=9223372036854775807:=H5.out▸ey;clear R2 R3 eC cj dJ eB fk dN fj dz df O4 P F4 bm bO bR ez;generalize w5.setCell ⟨a.S,48+o,none⟩ (.slice (some ⟨g4,0,none⟩) n c4)=w6 at *;have z0:=D.y;have z1:=D.i;have z2:=D.u;have z3:=D.j;have z4:=D.p;have z5:=D.h;have z6:=D.t;have z7:=D.x;have z8:=D.A;dsimp only at z0 z1 z2 z3 z4 z5 z6 z7 z8;have X:=GJ ⟨mk,mc,mn,F,ms,o,G,ml,md⟩ ct R1 em.1;obtain⟨B,dm⟩:∃B,s5.av ⟨mk,mc,mn,F,ms,o,G,ml,md⟩ ct=B:=⟨_,rfl⟩;rw[dm]at X ea;have EA:Hid (r.ag o now ((r.waits o).length+1)=((s5.ag o now (n+1)).1,B::(s5.ag o now (n+1)).2)):=ea;unfold Wire.M.ab at X;dsimp only at X;rw[show (.agg #[iI B.k,iI B.c,iI B.n,iI B.e,iI B.s,iI B.o,iI B.v,.bool B.l,.string B.d]:Dv)=Wire.M.ab B from rfl]at X;clear dm ea D;go_wp2_with fail
      refine X.mono ?_;rintro e w7⟨rfl,cA⟩;clear X z0 z1 z2 z3 z4 z5 z6 z7 z8;have F7:=R1.h cA;have dP:=eF.I R1 cA;have O7:=O6.j (Fs.H R1 cA);have gj:=dP.b;clear R1 eF O6 cA;obtain⟨av,cv,fo,gk,_⟩:=Net.cP O7.b;subst fo;go_wp2_with (first|refine dS rfl 67 rfl B rfl ?_|(at_builtin;refine App.iC rfl rfl underlying141 hi e4 e5 e6 rfl cn rfl (O7.b.alloc _) ⟨w7.heap.size,0,none⟩ 1 1 (gh B) rfl rfl (m8 w7 B) (jx) ?r3 ?r4 ?r5 ?_))
      case r3=>unfold maxLen;omega
      case r4=>omega
      case r5=>simp;omega
      intro v8 w8 cl eN dn;obtain⟨O8,F8,eQ⟩:=O7.H F7 dP cl eN dn;have dT:Hid (Au w8 a o<Au wr a o):=by
       obtain⟨v9,fp,fr⟩:=F8.b o ho;obtain⟨a9,c9,rfl,_,_⟩:=Net.cP fr;have q1:=G7 fp;have q2:=G7 cB;rw[ck,R]at q1;show Au w8 a o<Au wr a o;omega
      have fs:Hid (Av w w8 a s o now v8 s5 (l++[B])):=by
       refine⟨⟨O8,F8,eQ⟩,?_,?_,?_,?_,λc=>?_,λk=>(eG k).1,λk=>?_,eJ.1,eJ.2⟩;rw[ck,R];simp;omega;rw[ck,R,E1.out,EA.out];rw[ck,R,E2.out,EA.out];simp;rw[ck];exact eb;have:=fl c;simp;omega;have:=(eG k).2;simp;omega
      clear O7 O8 F7 F8 dP eQ cl eN dn;go_wp2;go_roundw
      case rel=>exact⟨s5,l++[B],fs.out⟩
      case measure=>exact dT.out
def Sv.a3(s:Sv)(c:Nat)(o:Nat):Sv:={s with D:=s.D.del (kk c o)}
def Sv.aq(s:Sv)(m:M)(o:Nat)(now:Int):Sv×List M:=
 if m.e=s.bR/\m.v=s.vv o+1 then (s.a3 (bK m.c) o).H o now else (s,[])
def J8{s:Sv}{me mv:Int}(h:bZ w a s)(d:o<8)(f:0<=s.vv o)(g:s.vv o<=1000000000000)(i:¬(me=s.bR/\mv=s.vv o+1)):
  Calls prog 188 #[tp a.S,Wire.M.ab ⟨mk,mc,mn,me,ms,o,mv,ml,md⟩,iI now] w λe k=>∃v,e=.returned v/\gg w k a v s []:=by
 have b:MB (dL w mk mc mn me ms o mv ml md) w.heap.size ⟨mk,mc,mn,me,ms,o,mv,ml,md⟩:=gF w;have F:bZ (dL w mk mc mn me ms o mv ml md) a s:=h.j _;have hF:Fs a w (dL w mk mc mn me ms o mv ml md):=(Fs.j).O h _;have l:(0:Int)<=(o:Int):=ak;have m:(o:Int)<8:=ak;have n :Hid _:= i;unfold dL at *;unfold Wire.M.ab;dsimp only;go_in;go_wp2_with fail
 generalize w.alloc (.cells #[iI mk,iI mc,iI mn,iI me,iI ms,iI o,iI mv,.bool ml,.string md] 129)=w1 at *;have b3:=b.j;have b5:=b.h;have b6:=b.t;dsimp only at b3 b5 b6;have c5:=F.c5;have r:=F.vv o d;by_cases c:me=s.bR
 .have p:¬mv=s.vv o+1:=λq=>n.out ⟨c,q⟩;have u:(mv != s.vv o+1)=true:=dD p;subst c;go_quiet (fail);go_wp2;go_ret;exact⟨_,rfl,T8.h,F.ab,hF.ab⟩
 .have x:(me != s.bR)=true:=dD c;go_quiet (fail);go_wp2;go_ret;exact⟨_,rfl,T8.h,F.ab,hF.ab⟩
def Hg{s:Sv}(h:bZ w a s)(ho:o<8)(hc:0<=mc)(N:∀m∈s.waits o,Px o m)(n:∀c,s.iK c<=1000000000000000)(q:∀k,0<=s.vv k)(r:∀k,s.vv k<=1000000000000)(P:0<=s.eK)(Q:s.eK<=9223372036854775807):
  Calls prog 188 #[tp a.S,Wire.M.ab ⟨mk,mc,mn,s.bR,ms,o,s.vv o+1,ml,md⟩,iI now] w λe z=>∃v,e=.returned v/\gg w z a v ((s.a3 (bK mc) o).H o now).1 ((s.a3 (bK mc) o).H o now).2:=by
 have f:MB (dL w mk mc mn s.bR ms o (s.vv o+1) ml md) w.heap.size ⟨mk,mc,mn,s.bR,ms,o,s.vv o+1,ml,md⟩:=gF w;have F:bZ (dL w mk mc mn s.bR ms o (s.vv o+1) ml md) a s:=h.j _;have hF:Fs a w (dL w mk mc mn s.bR ms o (s.vv o+1) ml md):=(Fs.j).O h _;have R:¬eM (dL w mk mc mn s.bR ms o (s.vv o+1) ml md) a w.heap.size:=h.O ((au _ _).alloc (aj _) _) (aj _);have U:(dL w mk mc mn s.bR ms o (s.vv o+1) ml md).heap.size=w.heap.size+1:=aY;have bm:(0:Int)<=(o:Int):=ak;have bO:(o:Int)<8:=ak;have v0:=q o;have v1:=r o;unfold dL at *;unfold Wire.M.ab

 clear h;go_in;go_wp2_with fail
 generalize w.alloc (.cells #[iI mk,iI mc,iI mn,iI s.bR,iI ms,iI o,iI (s.vv o+1),.bool ml,.string md] 129)=w1 at *;have b3:=f.j;have b5:=f.h;have b6:=f.t;dsimp only at b3 b5 b6;have c5:=F.c5;have cv:=F.vv o ho;go_quiet (fail);go_wp2_with fail
 generalize B:w1.drewN _=W;have C:bZ W a s:=B▸F.ab;have X:Fs a w W:=B▸hF.ab;have d:MB W w.heap.size ⟨mk,mc,mn,s.bR,ms,o,s.vv o+1,ml,md⟩:=by rw[<-B];exact⟨f.y,f.i,f.u,f.j,f.p,f.h,f.t,f.x,f.A⟩
 have D:¬eM W a w.heap.size:=B▸R;have ci:W.heap.size=w.heap.size+1:=B▸U

 have E:=C.A;have b1:=d.i;have b5:=d.h;dsimp only at b1 b5;have cj:=na mc;have l:=λw=>nd w hc;have Y:=Lease.FJ (bK mc:Nat) o C.I.p ⟨ak,ak⟩ ⟨ak,ak⟩;refine Gen.start (S:=λz=>cC z (aA a.S 47) _/\cC z (FI w 1) (iI mc)/\cC z (FI w 5) _) bt ⟨E,b1,b5⟩ (λqH=>?_);refine Gen.tz ?_;refine Gen.on 6 λK hK=>?_;go_simp;apply (l _).mono;rintro e w2⟨rfl,ad⟩;rw[ad]


 refine hK.out _ _ ⟨E,b1,b5⟩ (λqH=>?_)


 refine Gen.la 9 λK hK=>?_;go_simp;apply Y.mono;rintro e w3⟨rfl,aS,a0⟩

 apply hK.out _ _

 have g:Ob [a.T,a.m] W.drew w3:=a0.Z aY;have F3:= C.I.an aS g;have G:= X.V.ob C.I g;have J:= (Fs.j).ob C.I g;have a1:= MB.H (w:=W.drew) ⟨d.y,d.i,d.u,d.j,d.p,d.h,d.t,d.x,d.A⟩ J (by show _<W.heap.size;omega) D;have b5:=a1.h;dsimp only at b5;go_wp2_with fail
 apply (rB now F3 ho N n q r P Q).mono;rintro e w4⟨v4,rfl,L⟩;go_wp2;go_ret;exact⟨_,rfl,⟨L.b.b.H G.b,L.b.e⟩,L.h,G.e L.e⟩
def Hf{s:Sv}(mk mc mn me ms mv:Int)(ml:Bool)(md:DS)(now:Int)(h:bZ w a s)(n:o<8)(hc:0<=mc)(i:∀m∈s.waits o,Px o m)(b:∀c,s.iK c<=1000000000000000)(d:∀k,0<=s.vv k)(f:∀k,s.vv k<=1000000000000)(j:0<=s.eK)(l:s.eK<=9223372036854775807):
  Calls prog 188 #[tp a.S,Wire.M.ab ⟨mk,mc,mn,me,ms,o,mv,ml,md⟩,iI now] w λe p=>∃v,e=.returned v/\gg w p a v (s.aq ⟨mk,mc,mn,me,ms,o,mv,ml,md⟩ o now).1 (s.aq ⟨mk,mc,mn,me,ms,o,mv,ml,md⟩ o now).2:=by
 unfold Sv.aq

 by_cases g:me=s.bR/\mv=s.vv o+1;rw[aH g];obtain⟨rfl,rfl⟩:=g;exact Hg h n hc i b d f j l;rw[ay g];exact J8 h n (d o) (f o) g
def XH(h:Px o m):0<=m.c:=by
 have:=h.2.1;simp[fH,Num.lY]at this;omega
def AF(n:Nat)(r:R):Prop:=0<=r.v/\r.v<=n/\0<=r.e/\r.e<=n/\r.d.size<=20/\0<=r.c/\r.o<8
def AF.e{k:Nat}(h:AF n r)(a:n<=k):AF k r:=by unfold AF at *;omega
structure kR(s:Sv)(B:Nat):Prop where
 t:∀c,0<=s.iK c
 p:∀c,s.iK c<=B
 n:s.n<=B
 Ey:∀o,0<=s.vv o
 Cs:∀o,s.vv o<=s.rs.length
 D1:s.rs.length<=200
 i:∀o m,m∈s.waits o->Px o m
 b:∀o,(s.waits o).length<=10
 oG:0<=s.eK
 oH:s.eK<=9223372036854775807
 Ab:∀r∈s.rs,AF s.rs.length r
 Pw:0<=s.bR
 T9:s.bR<=201
 N9:∀o,(s.vd o).size<=20
def kR.e{s:Sv}{C:Nat}(h:kR s B)(a:B<=C):kR s C:=⟨h.t,λc=>by have:=h.p c;omega,by have:=h.n;omega,h.Ey,h.Cs,h.D1,h.i,h.b,h.oG,h.oH,h.Ab,h.Pw,h.T9,h.N9⟩
def kR.ok{s:Sv}(h:kR s B)(a:B<=1000000000000000):Ac s 1000000000000000:=⟨λc=>by have:=h.p c;omega,h.Ey,λo=>by have:=h.Cs o;have:=h.D1;omega⟩
def kR.af{s:Sv}(h:kR s B)(c:Int):kR (s.ap c) (B+1):=
 ⟨λd=>by
  have a:=h.t d;have e:=h.t c;show 0<=ic s.iK c (s.iK c+1) d;unfold Lease.ic;split<;>omega,λd=>by
  have a:=h.p d;have e:=h.p c;show ic s.iK c (s.iK c+1) d<=_;unfold Lease.ic;split<;>omega,by have:=h.n;show s.n<=_;omega,h.Ey,h.Cs,h.D1,h.i,h.b,h.oG,h.oH,h.Ab,h.Pw,h.T9,h.N9⟩
def kR.V(now:Int):∀(a:List Int) {s:Sv} {B:Nat},kR s B->kR (s.O now a).1 (B+a.length)/\(s.O now a).2.length<=a.length
 | [],s,B,h=>⟨h,by simp[oI]⟩
 |c::a,s,B,h=>by
  rw[lp];split;let ⟨k1,b⟩:=kR.V now a h
  exact⟨k1.e aY,fS⟩;let ⟨k1,b⟩:=kR.V now a (h.af c)
  exact⟨k1.e fS,fS⟩
def kR.j{s:Sv}(h:kR s B)(o:Nat)(now:Int):kR (s.e o now).1 (B+4)/\(s.e o now).2.length<=4:=by
 unfold Sv.e;split;exact⟨h.e ak,aY⟩;obtain⟨k1,a⟩:=kR.V now (jm s.D o now 4) h;have b:=Lease.DP s.D o now 4;exact⟨k1.e ak,ak⟩
def kR.ac{s:Sv}(h:kR s B)(a now:Int):∀k,kR (s.j a now k).1 (B+4*k)/\(s.j a now k).2.length<=k
 |0=>⟨h,by simp[Sv.j]⟩
 |k+1=>by
  let ⟨b,d⟩:=kR.ac h a now k
  let ⟨c,_⟩:=b.j k now
  refine⟨c.e ak,?_⟩;show ((s.j a now k).2++_).length<=_;rw[aL];split<;>simp<;>omega
def pI(s:Sv)(r:R):(s.h r).rs=s.rs:=by
 unfold Sv.h;split;rfl;split<;>rfl
def kR.av{s:Sv}(h:kR s B)(a:AF (s.rs.length+1) r):kR (s.af r).1 B/\((s.af r).2=0->AF (s.af r).1.rs.length r):=by
 have f:=h.D1;have h0:=h.oG;have g:=h.oH;unfold Sv.af;split;exact⟨h,λq=>by cases q⟩;split;exact⟨h,λq=>by cases q⟩;split;exact⟨{h with},λq=>by cases q⟩;refine⟨{h with Cs:=λo=>?_,D1:=?_,oG:=?_,oH:=?_,Ab:=λx b=>?_},λ_=>a.e aY⟩;have:=h.Cs o;simp;omega;simp;omega;dsimp only;split;rename_i c d;have:s.eK≠0:=λq=>c ⟨d,q⟩;omega;omega;dsimp only;split<;>omega;rcases cI.1 b with q|q
 exact(h.Ab x q).e aY;rw[bA.1 q];exact a.e aY
def kR.O{s:Sv}(h:kR s B)(b:AF s.rs.length r):kR (s.h r) B:=by
 have c:=h.D1;unfold AF at b;unfold Sv.h;split;exact {h with Pw:=b.2.2.1,T9:=by dsimp only;omega};have a:∀x,0<=cq s.vv r.o.toNat r.v x/\cq s.vv r.o.toNat r.v x<=s.rs.length/\(cq s.vd r.o.toNat r.d x).size<=20:=λx=>by
  have:=h.Ey x;have:=h.Cs x;have:=h.N9 x;unfold cq;split<;>omega
 split<;>exact {h with Ey:=λx=>(a x).1,Cs:=λx=>(a x).2.1,N9:=λx=>(a x).2.2}
def kR.Z{s:Sv}(h:kR s B)(m:M)(o:Nat)(a:Px o m):kR (s.I m o).1 B:=by
 have ⟨b,c⟩:=h.av (r:=s.V m o) (by
  have:=h.Ey o;have:=h.Cs o;have:=XH a;exact⟨by dsimp only[Sv.V];omega,by dsimp only[Sv.V];omega,kh 0,by dsimp only[Sv.V];omega,a.2.2.2.1,this,by dsimp only[Sv.V];have:=a.2.2.2.2;omega⟩)
 unfold Sv.I;split;exact b.O (c (by assumption));exact b
def kR.an{s:Sv}(h:kR s B)(c:s.waits o=m::rest):kR {s with waits:=cq s.waits o rest} B:=
 ⟨h.t,h.p,h.n,h.Ey,h.Cs,h.D1,λx y d=>by
  have a:y∈cq s.waits o rest x:=d;unfold cq at a;split at a;rename_i e;subst e;exact h.i x y (by rw[c];exact cJ _ a);exact h.i x y a,λx=>by
  show (cq s.waits o rest x).length<=10;unfold cq;split;have:=h.b o;rw[c]at this;simp at this;omega;exact h.b x,h.oG,h.oH,h.Ab,h.Pw,h.T9,h.N9⟩
def kR.ah(o:Nat)(now:Int):∀(f:Nat) {s:Sv} {B:Nat},kR s B->kR (s.ag o now f).1 (B+4*f)/\(s.ag o now f).2.length+((s.ag o now f).1.waits o).length<=(s.waits o).length
 |0,s,B,h=>⟨h,by simp[Sv.ag]⟩
 |f+1,s,B,h=>by
  unfold Sv.ag;split;exact⟨h.e ak,aY⟩;let ⟨a,_⟩:=h.j o now
  let ⟨b,_⟩:=jM s o now
  split;exact⟨a.e ak,by simp[b]⟩;split;exact⟨a.e ak,by simp[b]⟩;rename_i m rest c;have d:=a.Z m o (a.i o m (by rw[c];exact dj ..));let ⟨k1,_⟩:=j9 (s.e o now).1 m o
  split;exact⟨d.e ak,by simp[k1,b]⟩;have g:=d.an (o:=o) (m:=m) (rest:=rest) (k1▸c);let ⟨k,l⟩:=kR.ah o now f g
  refine⟨k.e ak,?_⟩

  rw[<-b,c];simp;rw[show ({ ((s.e o now).1.I m o).1 with waits:=cq ((s.e o now).1.I m o).1.waits o rest}:Sv).waits o=rest from da]at l;omega
def kR.h{s:Sv}(h:kR s B)(o:Nat)(now:Int):kR (s.H o now).1 (B+44)/\(s.H o now).2.length<=10:=by
 have c:=h.b o;let ⟨a,d⟩:=kR.ah o now ((s.waits o).length+1) h
 exact⟨a.e ak,by unfold Sv.H;omega⟩
def kR.H{s:Sv}(h:kR s B):kR (s.a3 c o) B:=⟨h.t,h.p,h.n,h.Ey,h.Cs,h.D1,h.i,h.b,h.oG,h.oH,h.Ab,h.Pw,h.T9,h.N9⟩
def kR.ab{s:Sv}(h:kR s B)(c:Px o m):kR (s.aU m o).1 B:=by
 unfold Sv.aU;split;exact h;split;exact h;rename_i f;refine⟨h.t,h.p,h.n,h.Ey,h.Cs,h.D1,λx y d=>?_,λx=>?_,h.oG,h.oH,h.Ab,h.Pw,h.T9,h.N9⟩;have a:y∈cq s.waits o (s.waits o++[m]) x:=d;unfold cq at a;split at a;rename_i e;subst e;rcases cI.1 a with q|q
 exact h.i x y q;rw[bA.1 q];exact c;exact h.i x y a;show (cq s.waits o (s.waits o++[m]) x).length<=10;unfold cq;split;simp;omega;exact h.b x
def XG(D:Lease.j1)(c o:Int):Int:=match D.atKey (kk c o) (Lease.Cd 0) with
 |.lit (.int _ x)=>x
 |_=>0
def Sv.a4(s:Sv)(m:M)(o:Nat):M:=⟨5,m.c,m.n,s.bR,s.iK (bK m.c:Nat),o,s.vv o,decide ((s.waits o).length=0),s.vd o⟩
def Sv.a5(s:Sv)(m:M)(o:Nat)(now:Int):Sv:=if (s.waits o).length=0 then {s with D:=s.D.put (kk (bK m.c:Nat) o) (Lease.Cd (mx (XG s.D (bK m.c:Nat) o) (now+s.i))),n:=s.n+1} else s
def Sv.aw(s:Sv)(m:M)(o:Nat)(now:Int):Sv×List M:=(s.a5 m o now,[s.a4 m o])
def Sv.ah(s:Sv)(m:M)(now:Int):Sv×List M:=
 if (s.j (bK m.c:Nat) now 8).2.length≠0 then s.j (bK m.c:Nat) now 8
 else if m.e≠(s.j (bK m.c:Nat) now 8).1.bR\/m.s≠(s.j (bK m.c:Nat) now 8).1.iK (bK m.c:Nat) then ((s.j (bK m.c:Nat) now 8).1,[(s.j (bK m.c:Nat) now 8).1.ao 8 m])
 else ({ (s.j (bK m.c:Nat) now 8).1 with oQ:=ic (s.j (bK m.c:Nat) now 8).1.oQ (bK m.c:Nat) (mx ((s.j (bK m.c:Nat) now 8).1.oQ (bK m.c:Nat)) (now+(s.j (bK m.c:Nat) now 8).1.b))},[(s.j (bK m.c:Nat) now 8).1.ao 7 m])
def Sv.a2(s:Sv)(o:Nat)(now:Int):Sv×List M:=(((s.H o now).1.e o now).1,(s.H o now).2++((s.H o now).1.e o now).2.map λc=>((s.H o now).1.e o now).1.Z c o)
def Sv.ab(s:Sv)(m:M)(o:Nat)(now:Int):Sv×List M:=
 if m.c=(s.last (bK m.c)).c/\m.n=(s.last (bK m.c)).n then (s,[s.av m (s.last (bK m.c)).v])
 else if vm m.c m.n (s.last (bK m.c))=false then (s,[])
 else if (s.aU m o).2=false then ((s.aU m o).1,[])
 else (s.aU m o).1.a2 o now
def Sv.an(s:Sv)(m:M)(now:Int):Sv×List M:=
 if s.jw=true\/m.c<0\/m.o<0\/8<=m.o then (s,[])
 else if m.k=1 then s.aw m m.o.toNat now
 else if m.k=2 then s.ab m m.o.toNat now
 else if m.k=3 then s.ah m now
 else if m.k=4 then s.aq m m.o.toNat now
 else (s,[])
def Sv.ac(s:Sv)(now:Int):Nat->Sv×List M
 |0=>(s,[])
 |k+1=>(((s.ac now k).1.H k now).1,(s.ac now k).2++((s.ac now k).1.H k now).2)
variable{s:Sv}
def kR.ap(h:kR s B)(m:M)(o:Nat)(now:Int):kR (s.aw m o now).1 (B+1)/\(s.aw m o now).2.length<=1:=by
 refine⟨?_,by simp[Sv.aw]⟩;unfold Sv.aw Sv.a5

 split;exact⟨h.t,λc=>by have:=h.p c;show s.iK c<=_;omega,by have:=h.n;show s.n+1<=_;omega,h.Ey,h.Cs,h.D1,h.i,h.b,h.oG,h.oH,h.Ab,h.Pw,h.T9,h.N9⟩;exact h.e ak
def kR.al(h:kR s B)(m:M)(now:Int):kR (s.ah m now).1 (B+32)/\(s.ah m now).2.length<=8:=by
 obtain⟨a,d⟩:=kR.ac h (bK m.c:Nat) now 8;unfold Sv.ah;split;exact⟨a,d⟩;split;exact⟨a,aY⟩;exact⟨⟨a.t,a.p,a.n,a.Ey,a.Cs,a.D1,a.i,a.b,a.oG,a.oH,a.Ab,a.Pw,a.T9,a.N9⟩,aY⟩
def kR.aq(h:kR s B)(o:Nat)(now:Int):kR (s.a2 o now).1 (B+48)/\(s.a2 o now).2.length<=14:=by
 let ⟨a,c⟩:=h.h o now
 let ⟨b,d⟩:=a.j o now
 exact⟨b.e ak,by unfold Sv.a2;simp;omega⟩
def kR.ao(h:kR s B)(a:Px o m)(now:Int):kR (s.ab m o now).1 (B+48)/\(s.ab m o now).2.length<=14:=by
 unfold Sv.ab;split;exact⟨h.e ak,aY⟩;split;exact⟨h.e ak,aY⟩;split;exact⟨(h.ab a).e ak,aY⟩;exact(h.ab a).aq o now
def kR.ag(h:kR s B)(m:M)(o:Nat)(now:Int):kR (s.aq m o now).1 (B+44)/\(s.aq m o now).2.length<=10:=by
 unfold Sv.aq;split;exact(h.H).h o now;exact⟨h.e ak,aY⟩
def ZS(m:M):Prop:=fH m.c=true/\fH m.n=true/\m.d.size<=20
def kR.ae(h:kR s B)(b:ZS m)(now:Int):kR (s.an m now).1 (B+48)/\(s.an m now).2.length<=14:=by
 unfold Sv.an;split;exact⟨h.e ak,aY⟩;rename_i d;split;let ⟨a,c⟩:=h.ap m m.o.toNat now
 exact⟨a.e ak,ak⟩;split;exact h.ao ⟨ak,b.1,b.2.1,b.2.2,ak⟩ now;split;let ⟨a,c⟩:=h.al m now
 exact⟨a.e ak,ak⟩;split;let ⟨a,c⟩:=h.ag m m.o.toNat now
 exact⟨a.e ak,ak⟩;exact⟨h.e ak,aY⟩
def kR.I(h:kR s B)(now:Int):∀k,kR (s.ac now k).1 (B+44*k)/\(s.ac now k).2.length<=10*k
 |0=>⟨h,by simp[Sv.ac]⟩
 |k+1=>by
  let ⟨a,c⟩:=kR.I h now k
  let ⟨b,d⟩:=a.h k now
  refine⟨b.e ak,?_⟩;show ((s.ac now k).2++_).length<=_;rw[aL];omega
end Wld
namespace Gen
variable{ops:Array Oper}{Q:Exit->Act->Ba->Prop}{P:Ft}{md:Region.Mode}{S:Ba->Prop}
def oneG{i:Nat}{o:Oper}{d:Option Tmp}{e:Op}{f:DU}{k:String}{af:Array Edge}{g:Nat×Bool}{c:Nat}{b:Array Bool}{a:Act}{w:Ba}(m:Region.ready md ops b=[i])(q:ops[i]?=some o)(l:o=⟨d,e,f,k,af,some g⟩)(r:Region.wanted ⟨d,e,f,k,af,some g⟩ (yielded ops a.tmps)=true)(h:∀K:Act->Ba->Prop,Shut (∀a w,S w->(S w->anyM P md ops Q S c (b.setIfInBounds i true) a w)->K a w)->Oper.wp P ⟨d,e,f,k,af,some g⟩ a w K Q):anyM P md ops Q S (c+1) b a w:=by
 subst l;refine⟨λh0=>(by rw[m]at h0;cases h0),λj n=>?_⟩;rw[m]at n;obtain rfl:=bA.1 n;unfold wpOp;simp only[q,r,dG];exact .inl (h _ (λa w p s=>⟨λ_=>p,s p⟩))
end Gen
end Go.Proofs.YtbebfliimjjohabGreatDoor
