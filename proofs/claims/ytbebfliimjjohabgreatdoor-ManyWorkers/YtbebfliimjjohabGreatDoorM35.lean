/- Parts of the proof. -/
import Derived.Test.YtbebfliimjjohabGreatDoorM34
set_option maxRecDepth 100000
set_option maxHeartbeats 8000000
set_option linter.all false
open Go.Proofs.Tryz
namespace Go.Proofs.YtbebfliimjjohabGreatDoor
open Go.RowKit Go.Maps
open Lease (de Ob fN ic cy jm fY eI bQ dW mx)
open Cache (tp aZ bq)
open Bare (iZ)
open Net (jW)
namespace Wld
variable{k:Int}{l:List Int}{B:Nat}{A:Wa}{s:Wd}{w:Ba}
def Fz.Z{w':Ba}{a:Wa}{s':Wd}(b:Fz A s w a s' w')(h:Ex 1 w A s)(c:A.Q<w.heap.size)(d:iZ w):iZ w':=Bare.iZ.e d (Fz.I b h c) ak
def Ex.q(h:Ex 1 w A s):0<A.Q:=h A.Q (.Q rfl)
def Oi(C rounds:Nat)(h:bF w A s)(hB:fV s C)(hC:C+18000*rounds<=800000000)(hlaid:iZ w)(hlow:Ex 1 w A s):
  Calls prog 12 #[tp A.Q,iI rounds] w λe w'=>e=.returned (.tuple #[])/\∃a,bF w' {A with a:=a} (s.a4 rounds)/\Fz A s w {A with a:=a} (s.a4 rounds) w':=by
 have n4:=h.B;have hQl:=h.I;have hQ0:=hlow.q;have HLD:Hid (∀{A':Wa} {s':Wd} {w':Ba},Fz A s w A' s' w'->iZ w'):=λhf=>Fz.Z hf hlow hQl hlaid

 have n1:=h.F;have hb1:FF w (w.alloc (.cells #[iI 1] 3)):=(au _ _).alloc (aj _) _;have hc1:(w.alloc (.cells #[iI 1] 3)).cell? (FI w 0)=some (iI 1):=aY;have hg1:w.heap.size<(w.alloc (.cells #[iI 1] 3)).heap.size:=aY;have hre:=Kb w.heap.size (s.n+1) ak hc1 hg1;have hcast:((s.n+1:Nat):Int)=1+(s.n:Int):=ak;rw[hcast]at hre;have hw1:IntKind.i64.wrap (1+(s.n:Int))=1+(s.n:Int):=jA ak ak;let ⟨x1,x2⟩:=h.h hb1
 have sts:=x1.b.h;have sts0:=h.b.h;have HB:Hid (∀r,r<=rounds->fV (s.a4 r) (C+18000*r)):=λr _=>hB.ap n4 r;have HX:Hid (bF (w.alloc (.cells #[iI 1] 3)) A s/\Fz A s w A s (w.alloc (.cells #[iI 1] 3))):=⟨x1,x2⟩

 go_in;go_wp2_with fail
 apply hre.mono;rintro e w2⟨v,rfl,hrow,hb2⟩;have HS0:Hid (Ca w w2 A s s (w.alloc (.cells #[iI 1] 3)).heap.size v A.a):=by
  let ⟨x1,x2⟩:=HX.out
  let ⟨y1,y2⟩:=x1.h hb2
  exact⟨y1,x2.e y2,hrow⟩
 generalize (w.alloc (.cells #[iI 1] 3)).heap.size=B at *

 go_wp2;go_loopw [15] (λi wr=>∃(r:Nat) (a:Ad),r<=rounds/\i=iI r/\Ca w wr A s (s.a4 r) B v a) (λi _=>rounds-(intOf i).toNat)
 case atStart=>exact⟨0,A.a,ak,rfl,HS0.out⟩
 case round=>
  obtain⟨r,a,hr,rfl,D⟩:=hrel;by_cases hlt:r<rounds
  .have hrI:(r:Int)<(rounds:Int):=ak;have HE:Hid (s.a4 (r+1)=(((s.a4 r).e.ap s.n).aq 1 λk=>if k<s.n then 1 else 0).ag):=by
    unfold Hid;show (s.a4 r).b2=_;unfold Wd.b2;rw[D6]
   have hBr:=HB.out r ak;have hnr:=D6 s r;generalize s.a4 r=t at *;have hre:=vr {A with a:=a} t _ wr D.b hBr ak (HLD.out D.i) hQ0;have HBK:Hid (∀k,k<=s.n->fV (t.e.ap k) (C+18000*r+1+3562*k)):=λk hk=>hBr.ac.al k (by rw[oM,hnr];exact hk);have HNK:Hid (∀k,(t.e.ap k).n=s.n):=λk=>by rw[uZ,oM,hnr]
   have HD:Hid (Ca w wr A s t B v a):=D

   go_wp2_with fail
   apply hre.mono;rintro e w3⟨he,a3,W3,Z3⟩;generalize eV (if t.sv.isSome=true then 6 else 0)=ev at he;subst he;have HD3:Hid (Ca w w3 A s (t.e.ap 0) B v a3):=HD.out.e W3 Z3;have sts:=W3.b.h;rw[show t.e.n=s.n from HNK.out 0]at sts

   go_wp2;go_loopw [24] (λi wr=>∃k:Nat,k<=s.n/\i=iI k/\Ca w wr A s (t.e.ap k) B v a3) (λi _=>s.n-(intOf i).toNat)
   case atStart=>exact⟨0,ak,rfl,HD3.out⟩
   case round=>
    obtain⟨k,hk,rfl,D⟩:=hrel;by_cases hkn:k<s.n
    .have hkI:(k:Int)<(s.n:Int):=ak;have hBk:=HBK.out k ak;have hnk:=HNK.out k;have HEK:Hid (t.e.ap (k+1)=((t.e.ap k).aw k).ag):=rfl;generalize t.e.ap k=u at *;have hag:=Af {A with a:=a3} u k _ _ D.b ak hBk ak;have hBa:=hBk.ai (i:=k) ak

     have HD:Hid (Ca w wr A s u B v a3):=D

     go_wp2_with fail
     apply hag.mono;rintro e w4⟨rfl,W4,Z4⟩;have HD4:Hid (Ca w w4 A s (u.aw k) B v a3):=HD.out.e W4 Z4;have hda:=rG {A with a:=a3} (u.aw k) _ w4 W4 hBa ak

     go_wp2_with fail
     apply hda.mono;rintro e w5⟨rfl,W5,Z5⟩;have HD5:Hid (Ca w w5 A s (u.aw k).ag B v a3):=HD4.out.e W5 Z5

     go_wp2;go_roundw
     case rel=>
      refine⟨k+1,ak,by go_num,?_⟩;rw[HEK.out];exact HD5.out
     case measure=>simp[intOf];omega
    .obtain rfl:k=s.n:=ak;have hBk:=HBK.out s.n ak;have hnk:=HNK.out s.n;generalize t.e.ap s.n=u at *;have hgo:=CG {A with a:=a3} u _ B v (List.replicate (s.n+1) 1) _ D.b hBk ak D.h (by rw[ni];omega) (λx hx=>by rw[(List.mem_replicate.1 hx).2];omega) 1 aY (λk=>if k<s.n then 1 else 0) (λk=>by
      rw[aD,eP];by_cases q:k<s.n;rw[aH ak,aH q];rfl;rw[ay ak,ay q];rfl)
     have hBa:=hBk.aq (b:=1) (f:=λk=>if k<s.n then 1 else 0) ak (λi _=>by split<;>omega);have HD:Hid (Ca w wr A s u B v a3):=D

     generalize (u.aq 1 λk=>if k<s.n then 1 else 0)=u2 at *;go_wp2_with fail
     apply hgo.mono;rintro e w4⟨rfl,W4,Z4⟩;have HD4:Hid (Ca w w4 A s u2 B v a3):=HD.out.e W4 Z4;have hda:=rG {A with a:=a3} u2 _ w4 W4 hBa ak

     go_wp2_with fail
     apply hda.mono;rintro e w5⟨rfl,W5,Z5⟩;have HD5:Hid (Ca w w5 A s u2.ag B v a3):=HD4.out.e W5 Z5

     go_wp2;go_roundw
     case rel=>
      refine⟨r+1,a3,ak,by go_num,?_⟩;rw[HE.out];exact HD5.out
     case measure=>simp[intOf];omega
  .obtain rfl:r=rounds:=ak;have HD:Hid (Ca w wr A s (s.a4 r) B v a):=D

   go_wp2;go_end0;exact⟨rfl,a,HD.out.b,HD.out.i⟩
def GI(h:bF w A s)(b:jW k s.dP.length=false):
  Calls prog 26 #[tp A.Q,iI k] w λe c=>e=.returned (.iface 59 (iI 2))/\FF w c:=by
 go_in;go_wp2_with fail
 refine(Net.yf k h.p (by rw[bz];exact b)).mono ?_;rintro e w2⟨rfl,a⟩;go_wp2;go_ret;exact⟨rfl,(λo=>a.alloc a.size o) _⟩
def Tf(h:bF w A s)(b:jW k s.dP.length=false):
  Calls prog 27 #[tp A.Q,iI k] w λe c=>e=.returned (.iface 59 (iI 2))/\FF w c:=by
 go_in;go_wp2_with fail
 refine(Net.yf k h.p (by rw[bz];exact b)).mono ?_;rintro e w2⟨rfl,a⟩;go_wp2;go_ret;exact⟨rfl,(λo=>a.alloc a.size o) _⟩
def Pj(h:bF w A s)(a:jW k s.dP.length=false):
  Calls prog 28 #[tp A.Q,iI k] w λe b=>e=.returned (.iface 59 (iI 2))/\b=w:=by
 go_in;go_wp2_with fail
 refine(Net.FT k h.p (by rw[bz];exact a)).mono ?_;rintro e w2⟨rfl,rfl⟩;go_wp2;go_ret;exact⟨rfl,rfl⟩
def Cx(f:Dv)(h:bF w A s)(b:s.ah k=false):
  Calls prog 40 #[tp A.Q,iI k,f] w λe c=>e=.returned (.iface 59 (iI 2))/\c=w:=by
 have a:=kJ k h;rw[b]at a;go_in;go_wp2_with fail
 apply a.mono;rintro e w2⟨rfl,rfl⟩;go_wp2;go_ret;exact⟨rfl,rfl⟩
def Tw(k o:Int)(h:bF w A s)(b:s.ah k=false):
  Calls prog 16 #[tp A.Q,iI k,iI o] w λe c=>e=.returned (.iface 59 (iI 2))/\FF w c:=by
 have a:FF w (w.alloc (.cells #[iI o] 3)):=(au _ _).alloc (aj _) _;let ⟨d,_⟩:=h.h a
 go_in;go_wp2_with fail
 apply ((λf=>Cx f d b) _).mono;rintro e w3⟨rfl,rfl⟩;go_wp2;go_ret;exact⟨rfl,a⟩
def Pr(k o:Int)(d:DS)(h:bF w A s)(b:s.ah k=false):
  Calls prog 23 #[tp A.Q,iI k,iI o,.string d] w λe c=>e=.returned (.iface 59 (iI 2))/\FF w c:=by
 have a:FF w ((w.alloc (.cells #[iI o] 3)).alloc (.cells #[.string d] 9)):=((au _ _).alloc (aj _) _).alloc aY _;let ⟨g,_⟩:=h.h a
 go_in;go_wp2_with fail
 apply ((λf=>Cx f g b) _).mono;rintro e w3⟨rfl,rfl⟩;go_wp2;go_ret;exact⟨rfl,a⟩
def J7(h:bF w A s)(b:s.ah k=false):
  Calls prog 32 #[tp A.Q,iI k] w λe c=>e=.returned (.iface 59 (iI 2))/\c=w:=by
 have a:=kJ k h;rw[b]at a;go_in;go_wp2_with fail
 refine a.mono ?_;rintro e w2⟨rfl,rfl⟩;go_wp2;go_ret;exact⟨rfl,rfl⟩
def qz(n:Int):Bool:=decide (n<0)||decide (137438953472<n)
def ST(n:Int)(w:Ba):Calls prog 70 #[iI n] w λe a=>e=.returned (.bool (qz n))/\a=w:=by
 unfold qz;by_cases h0:n<0
 .have b:= aX h0;go_in;go_wp2;all_goals go_ret
  all_goals exact⟨by simp[h0],rfl⟩
 .have b:= aK h0;go_in;go_wp2;all_goals go_ret
  all_goals exact⟨aY,rfl⟩
def OO{v:Dv}(h:de w B v l)(F:l.length<=1000000):
  Calls prog 136 #[v,.func (.func 70) #[] #[]] w λe r=>(∃i:Int,e=.returned (iI i)/\(decide (0<=i)=l.any qz))/\r=w:=by
 obtain⟨ao,c,rfl,A⟩:=h.e;go_in;go_wp2;go_loopw [8] (λi C=>∃k:Nat,k<=l.length/\i=iI k/\C=w/\∀x∈l.take k,qz x=false) (λi _=>l.length-(intOf i).toNat)
 case atStart=>exact⟨0,ak,rfl,rfl,aY⟩
 case round=>
  obtain⟨k,G,rfl,rfl,m⟩:=hrel;have t :Hid _:= m;by_cases b:k<l.length
  .obtain⟨g,rfl,d⟩:=A ak;have n:(k:Int)<(l.length:Int):=ak;have hc:=d k b;have a:=λw=>ST l[k] w;obtain⟨y,u⟩:∃y,l[k]=y:=⟨_,rfl⟩;have z :Hid _:= u;rw[u]at hc a;by_cases f:qz y=true
   .rw[f]at a;have s:Hid (decide ((0:Int)<=(k:Int))=l.any qz):=by
     unfold Hid;rw[aX ak];exact(nI.2 ⟨l[k],bp b,z.out▸f⟩).symm
    go_wp2_with fail
    refine(a _).mono ?_;rintro e r⟨rfl,j⟩;rw[j];go_wp2;go_ret;exact⟨⟨_,rfl,s.out⟩,rfl⟩
   .have o:qz y=false:=dD f;rw[o]at a;have D:Hid (∀x∈l.take (k+1),qz x=false):=by
     intro x p;rw[bw b]at p;rcases cI.1 p with q|q
     exact t.out x q;rw[bA.1 q,z.out];exact o
    go_wp2_with fail
    refine(a _).mono ?_;rintro e r⟨rfl,j⟩;rw[j];go_wp2;go_roundw
    case rel=>exact⟨k+1,ak,by go_num,by first|trivial|rfl,D.out⟩
    case measure=>simp[intOf];omega
  .obtain rfl:k=l.length:=ak;have n:¬(l.length:Int)<(l.length:Int):=ak;have s:Hid (decide ((0:Int)<=-1)=l.any qz):=by
    unfold Hid;have E:l.any qz=false:=by
     rw[Ez];intro x p;rw[t.out x (fP▸p)];decide
    rw[E];rfl
   go_wp2;go_ret;exact⟨⟨_,rfl,s.out⟩,rfl⟩
def D8{v:Dv}(h:de w B v l)(b:l.length<=1000000):
  Calls prog 69 #[v,.func (.func 70) #[] #[]] w λe a=>e=.returned (.bool (l.any qz))/\a=w:=by
 go_in;go_wp2_with fail
 refine(OO h b).mono ?_;rintro e a⟨⟨i,rfl,c⟩,rfl⟩;have d :Hid _:= c;go_wp2;go_ret;exact⟨d.out▸rfl,rfl⟩
def SV{v:Dv}(h:bF w A s)(k:de w B v l)(m:l.length<=1000000)(a:l.length≠1+s.n\/l.any qz=true):
  Calls prog 37 #[tp A.Q,v] w λe o=>e=.returned (.iface 59 (iI 2))/\o=w:=by
 have t:=h.B;have p:=h.b.h;have d:=D8 k m;obtain⟨ao,cc,f,_⟩:=k.e;subst f;have r:IntKind.i64.wrap (1+(s.n:Int))=1+(s.n:Int):=jA ak ak;by_cases g:l.length=1+s.n
 .have c:= a.resolve_left (λq=>q g);rw[c]at d;have i:((l.length:Int) != 1+(s.n:Int))=false:=by rw[g];simp
  clear a c g;go_in;go_wp2_with fail
  refine d.mono ?_;rintro e w2⟨rfl,j⟩;rw[j];go_wp2;go_ret;exact⟨rfl,rfl⟩
 .have i:((l.length:Int) != 1+(s.n:Int))=true:=fS;go_in;go_wp2;go_ret;exact⟨rfl,rfl⟩
def Hm(o:Int)(h:bF w A s)(hs:s.sv=none):
  Calls prog 152 #[tp A.Q,iI o] w λe c=>e=.returned (.tuple #[.agg #[.string ⟨#[]⟩,iI 0],.iface 59 (iI 6)])/\FF w c:=by
 obtain⟨d,_⟩:=h.h (show FF w (w.alloc (.cells #[.string ⟨#[]⟩,iI 0] 41)) from(au _ _).alloc (aj _) _);have a:=pU d;rw[hs]at a;have f:Hid (FF w (w.alloc (.cells #[.string ⟨#[]⟩,iI 0] 41))):=(au _ _).alloc (aj _) _;go_in;go_wp2_with fail
 refine a.mono ?_;rintro e w2⟨rfl,b⟩;rw[b];go_wp2;exact bn (v:=.tuple #[.agg #[.string ⟨#[]⟩,iI 0],.iface 59 (iI 6)]) (by simp[results,results152,go_sem]) rfl ⟨rfl,f.out⟩
def Ay(tob tv td:Int):Bool:=decide (1<=tv)&&(decide (tv<=tob)&&(decide (tob<=274877906944)&&(decide (0<=td)&&decide (td<=500))))
def WL(tob tv td:Int)(w:Ba):
  Calls prog 56 #[.agg #[iI tob,iI tv,iI td]] w λe b=>e=.returned (.bool (Ay tob tv td))/\FF w b/\b.heap.size=w.heap.size+1:=by
 have a:FF w (w.alloc (.cells #[iI tob,iI tv,iI td] 29)):=(au _ _).alloc (aj _) _;by_cases c:1<=tv
 .by_cases d:tv<=tob
  .by_cases f:tob<=274877906944
   .by_cases g:0<=td
    .go_in;go_wp2;all_goals go_ret
     all_goals exact⟨by simp[Ay,c,d,f,g],a,aY⟩
    .go_in;go_wp2;all_goals go_ret
     all_goals exact⟨by simp[Ay];intros;omega,a,aY⟩
   .go_in;go_wp2;all_goals go_ret
    all_goals exact⟨by simp[Ay];intros;omega,a,aY⟩
  .go_in;go_wp2;all_goals go_ret
   all_goals exact⟨by simp[Ay];intros;omega,a,aY⟩
 .go_in;go_wp2;all_goals go_ret
  all_goals exact⟨by simp[Ay];intros;omega,a,aY⟩
def Tj(tob tv td n:Int)(w:Ba)(f:Ay tob tv td=false\/n<1\/4<n):
  Calls prog 22 #[.agg #[iI tob,iI tv,iI td],iI n] w λe j=>e=.returned (.tuple #[.pointer none,.iface 59 (iI 2)])/\FF w j:=by
 go_in;go_upto_region 1 with fail
 generalize g:w.alloc (.cells #[iI tob,iI tv,iI td] 29)=w1;have d:FF w w1:=by rw[<-g];exact(au _ _).alloc (aj _) _
 have k:w1.heap.size=w.heap.size+1:=by rw[<-g];simp
 have m:cC w1 (FI w 0) (iI tob):=by rw[<-g];exact bN _ _ _ _ _ _ (bo w _)
 have o:cC w1 (FI w 1) (iI tv):=by rw[<-g];exact bN _ _ _ _ _ _ (bo w _)
 have p:cC w1 (FI w 2) (iI td):=by rw[<-g];exact bN _ _ _ _ _ _ (bo w _)
 have a:=WL tob tv td w1;cases hm:Ay tob tv td with
 |false=>
  rw[hm]at a;go_wp2_with fail
  refine a.mono ?_;rintro e w2⟨rfl,b,h⟩;have i :Hid _:= d.trans (b.mono ak);go_wp2;exact bn (v:=.tuple #[.pointer none,.iface 59 (iI 2)]) (by simp[results,results22,go_sem]) rfl ⟨rfl,i.out⟩
 |true=>
  rw[hm]at a;have c:= f.resolve_left (by rw[hm];decide);by_cases l:n<1
  .clear c;go_wp2_with fail
   refine a.mono ?_;rintro e w2⟨rfl,b,h⟩;have i :Hid _:= d.trans (b.mono ak);go_wp2;exact bn (v:=.tuple #[.pointer none,.iface 59 (iI 2)]) (by simp[results,results22,go_sem]) rfl ⟨rfl,i.out⟩
  .have q:= c.resolve_left l;go_wp2_with fail
   refine a.mono ?_;rintro e w2⟨rfl,b,h⟩;have i :Hid _:= d.trans (b.mono ak);go_wp2;exact bn (v:=.tuple #[.pointer none,.iface 59 (iI 2)]) (by simp[results,results22,go_sem]) rfl ⟨rfl,i.out⟩
def GL(l:List Ev):∀u∈fq l,u.oneCell'=true:=by
 intro u a;simp only[fq,nJ]at a;let ⟨e,_,b⟩:=a
 simp[eE]at b;rcases b with rfl|rfl|rfl|rfl|rfl|rfl|rfl|rfl|rfl|rfl<;>rfl
def GT(w:Ba)(a:Option Addr)(n c:Nat):(binOp .eql 38 (.slice a n c) (.slice none 0 0)).run prog w=.ok (.bool a.isNone) w:=
 Lib.run_eql_slice_nil w 38 45 a n c 0 0 underlying38
def Jz:
  Calls prog 38 #[.slice none 0 0] w λe a=>e=.returned (.slice none 0 0)/\a=w:=by
 have b:=λw=>GT w none 0 0;go_in;go_wp2;go_ret;exact⟨rfl,rfl⟩
def Gz{g c:Nat}{l:List Ev}(f:w.ownsRow B 45 10 (.slice (some (aA g 0)) l.length c) l.length (fq l))(D:l.length<=100000000000):
  Calls prog 38 #[.slice (some (aA g 0)) l.length c] w λe s=>∃v,e=.returned v/\s.ownsRow w.heap.size 45 10 v l.length (fq l)/\FF w s:=by
 obtain⟨t,x,n,o,p⟩:=dg uc;have b:(w.alloc (.cells #[] 45)).ownsRow w.heap.size 45 10 (.slice (some (FI w 0)) 0 0) 0 []:=by simpa using Ku (base:=w.heap.size) (e:=45) (size:=10) w #[] 0 (aj _) cn rfl
 have d:∀j u,(fq l)[j]?=some u->(w.alloc (.cells #[] 45)).cell? (((aA g 0):Addr).add j)=some u:=λj u h=>by
  have:=f.cells rfl j u h;rw[aC _ _ _ (cz _ _ this)];exact this
 have y:0+l.length<=maxLen:=by unfold maxLen;omega
 have z:(0+l.length)*80<=140737488355328:=ak;have i:=jN l;have m:=GL l;have E:=λw=>GT w (some (aA g 0)) l.length c;go_in;go_wp2_with (at_builtin;refine eO _ rfl _ _ 38 rfl w.heap.size 45 t (.agg #[iI 0,iI 0,iI 0,.string ⟨#[]⟩,iI 0,.bool false,.bool false,iI 0,iI 0,iI 0]) 10 80 underlying38 x n o p rfl cn _ _ _ rfl b (aA g 0) _ _ (fq l) rfl i d m y z ?r5 ?_)
 case r5=>simp
 intro A w1 a q _;have r:= ((au _ _).alloc (aj _) _).grown q aY (λk C=>by simp[Value.ownBlock]at C;omega);go_wp2;go_ret;exact⟨A,rfl,(by first|exact a|simpa using a),r⟩
def JI(h:bF w A s)(f:s.bO.length<=100000000000):
  Calls prog 13 #[tp A.Q] w λe d=>∃v,e=.returned v/\d.ownsRow w.heap.size 45 10 v s.bO.length (fq s.bO)/\FF w d:=by
 let ⟨v,m,a⟩:=h.x
 generalize s.bO=l at *;rcases a.2 with⟨rfl,h0⟩|⟨g,i,j,rfl,_⟩
 .have c:= uq.1 h0;subst c;go_in;go_wp2_with fail
  apply (Jz).mono;rintro e w1⟨rfl,rfl⟩;go_wp2;go_ret;exact⟨_,rfl,i6 _ _ _ _,au _ _⟩
 .go_in;go_wp2_with fail
  apply (Gz a f).mono;rintro e w1⟨v,rfl,b,k⟩;go_wp2;go_ret;exact⟨_,rfl,b,k⟩
end Wld
end Go.Proofs.YtbebfliimjjohabGreatDoor
