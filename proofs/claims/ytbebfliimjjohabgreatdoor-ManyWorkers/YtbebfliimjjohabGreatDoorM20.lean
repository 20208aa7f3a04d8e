/- Parts of the proof. -/
import Derived.Lib.EndianBits
import Derived.Test.YtbebfliimjjohabGreatDoorM19
set_option maxRecDepth 100000
set_option maxHeartbeats 8000000
set_option linter.all false
open Go.Proofs.Tryz
namespace Go.Proofs.YtbebfliimjjohabGreatDoor
open Go.RowKit
namespace Num
variable{l r:List Int}{i n:Nat}
def AU:List Int->Int
 | []=>0
 |x::a=>x%128+128*AU a
def FY(x:Int):∀l:List Int,AU (l++[x])=AU l+x%128*128^l.length
 | []=>by simp[AU]
 |y::l=>by
  have h:=FY x l;simp only[dh,AU,bJ,h,Int.pow_succ];rw[Int.mul_add,Int.add_assoc];congr 2;rw[XO (128^l.length) 128,<-nV,<-nV,XO 128 (x%128)]
def Jg:∀l:List Int,0<=AU l/\AU l<128^l.length
 | []=>by simp[AU]
 |y::l=>by
  have h:=Jg l;simp only[AU,bJ,Int.pow_succ];generalize (128:Int)^l.length=q at *;omega
def Jh(f:Nat):∀n:Nat,n<=f->AU (nb n)=n:=by
 induction f with
 |zero=>intro n h;rw[sR ak];simp[AU];omega
 |succ f b=>
  intro n h;by_cases a:n<128;rw[sR a];simp[AU];omega;rw[Ci a,AU,b (n/128) ak];omega
def uU(f:Nat):∀n:Nat,n<=f->∃a c,nb n=a++[c]/\(∀x∈a,128<=x)/\0<=c/\c<128:=by
 induction f with
 |zero=>intro n h;exact⟨[],n,by rw[sR ak];rfl,aY,ak,ak⟩
 |succ f e=>
  intro n h;by_cases d:n<128;exact⟨[],n,by rw[sR d];rfl,aY,ak,ak⟩;obtain⟨a,c,g,i,j⟩:=e (n/128) ak;refine⟨((n%128+128:Nat):Int)::a,c,by rw[Ci d,g];rfl,λx b=>?_,j⟩;rcases bG.1 b with rfl|b
  omega;exact i x b
def DV(g:i<l.length)(k:l.getD i 0<128)(d:∀j,j<i->128<=l.getD j 0)(h:l=nb n++r):l.take (i+1)=nb n/\l.drop (i+1)=r:=by
 obtain⟨a,c,f,m,s,t⟩:=uU n n (aj _);rw[f]at h;have o:∀j,j<a.length->128<=l.getD j 0:=λj e=>by
  rw[h,aD,bP,bE e,aE e];exact m _ (bp e)
 have hc:l.getD a.length 0=c:=by
  rw[h,aD,bP,bg (aj _)];simp
 have p:i=a.length:=by
  rcases EE i a.length with b|b|b
  have:=o i b;omega;exact b;have:=d _ b;omega
 have q:i+1=(a++[c]).length:=by simp[p]
 rw[f,h,q];exact⟨List.take_left,List.drop_left⟩
def FX(b:∀j,j<l.length->128<=l.getD j 0)(h:l=nb n++r):False:=by
 obtain⟨a,c,d,_,_,e⟩:=uU n n (aj _);rw[d]at h;have hc:l.getD a.length 0=c:=by
  rw[h,aD,bP,bg (aj _)];simp
 have:=b a.length (by rw[h];simp);omega
def Y5{a b:Nat}{x y:List Int}(h:nb a++x=nb b++y):a=b/\x=y:=by
 obtain⟨d,c,f,o,r,p⟩:=uU a a (aj _);have i:∀j,j<d.length->128<=(nb a++x).getD j 0:=λj g=>by
  rw[f,aD,bP,bE g,aE g];exact o _ (bp g)
 have hc:(nb a++x).getD d.length 0<128:=by
  rw[f,aD,bP,bg (aj _)];simpa using p
 have k:d.length<(nb a++x).length:=by rw[f];simp
 have l:=DV (n:=a) k hc i rfl;have m:=DV (n:=b) k hc i h;have e:= l.1.symm.trans m.1;have q:=cr AU e;rw[Jh a a (aj _),Jh b b (aj _)]at q;exact⟨ak,l.2.symm.trans m.2⟩
def zX(l:List Int)(x:Int)(rest:List Int):Prop:=∀(n:Nat) (r:List Int),n<=1099511627776->l=nb n++r->x=n/\rest=r
def Cg(l:List Int):Prop:=∀(n:Nat) (r:List Int),l≠nb n++r
def RH{x:Int}(e:i<l.length)(a:l.getD i 0<128)(b:∀j,j<i->128<=l.getD j 0)(f:i<=5->x=AU (l.take (i+1))):zX l x (l.drop (i+1)):=by
 intro n r k h;have c:=DV e a b h;refine⟨?_,c.2⟩;have d:(nb n).length<=6:=rZ 5 n (by
                           have:(128:Nat)^(5+1)=4398046511104:=cn;omega)
 have g:i<=5:=by
  have:=cr List.length c.1;rw[cx]at this;omega
 rw[f g,c.1,Jh n n (aj _)]
def sS(l:List Int){k:Nat}(h:k<l.length):AU (l.take (k+1))=AU (l.take k)+l.getD k 0%128*128^k:=by
 rw[bw h,FY,aD,aE h,cx];rw[show min k l.length=k by omega];rfl
end Num
namespace Wire
variable{y:Int}{k:Nat}
def oD(n:Int)(h0:0<=n)(a:n<2^63):IntKind.i64.wrap n=n:=by
 rw[IntKind.wrap_i64];omega
def Se(a:k<=5):(128:Int)^k<=34359738368/\(0:Int)<128^k:=by
 match k,a with
 |0,_=>decide
 |1,_=>decide
 |2,_=>decide
 |3,_=>decide
 |4,_=>decide
 |5,_=>decide
def DY(k:Nat):(2:Int)^(7*k)=128^k:=Int.pow_mul▸rfl
def Lf(a:k<=5)(b:0<=y)(c:y<128):0<=y*128^k/\y*128^k<2^63:=by
 let ⟨d,e⟩:=Se a
 generalize (128:Int)^k=q at *;have h:y*q<=127*34359738368:=PA ak d ak ak;exact⟨qG b ak,ak⟩
def Wp(P:Ft)(y:Int)(k:Nat)(c:0<=y)(a:y<128):∃z:Int,(∀w,(Op.shift .shl .i64 y .i64 (7*(k:Int))).run P w=.ok (iI z) w)/\(k<=5->z=y*128^k):=by
 refine⟨IntKind.i64.wrap (y*2^min (7*(k:Int)).toNat IntKind.i64.bits),λw=>?_,λd=>?_⟩;have h:¬(7*(k:Int)<0):=ak;simp only[Op.shift,ay h,Sem.run_pure];have e:min (7*(k:Int)).toNat IntKind.i64.bits=7*k:=by
  show min (7*(k:Int)).toNat 64=7*k;omega
 have b:=Lf d c a;rw[e,DY];exact oD _ b.1 b.2
def Sc{x z:Int}(d:k<=5)(a:0<=x/\x<128^k)(f:0<=y)(b:y<128)(g:z=y*128^k):bits .or .i64 x z=x+y*128^k:=by
 subst g;have e:=Lf d f b;have c:x<2^63:=by
  have h:=a.2;have i:=(Se d).1;generalize (128:Int)^k=q at *;omega
 exact bits_join_low .i64 63 (by decide) oD (7*k) x (y*128^k) a.1 (by rw[DY];exact a.2) c e.1 (by rw[DY];exact Int.mul_emod_left _ _) e.2
end Wire
open Num (AU zX Cg)
namespace Wire
variable{l:List Int}{b off:Nat}{w:Ba}
def ru(w:World)(B:Nat)(v:Value)(l:List Int):Prop:=
 ∃ao c,v=.slice ao l.length c/\l.length<=c/\c<=9223372036854775807/\(∀x∈l,0<=x/\x<256) /\
  (0<l.length->∃b off,ao=some ⟨b,off,none⟩/\b<B/\∀j,j<l.length->w.cell? ⟨b,off+j,none⟩=some (.int .u8 (l.getD j 0)))
def acw(w:World)(b:Nat)(l:List Int)(x:Int)(v:Value):Prop:=
 ∃rest ao c,v=.slice ao rest.length c/\rest.length<=l.length/\zX l x rest/\rest.length<=c/\c<=9223372036854775807/\(∀x∈rest,0<=x/\x<256) /\
  (0<rest.length->∃off,ao=some ⟨b,off,none⟩/\∀j,j<rest.length->w.cell? ⟨b,off+j,none⟩=some (.int .u8 (rest.getD j 0)))
def Wj{k:Nat}{x y z:Int}(a:k<l.length)(c:y<128)(d:∀x∈l,0<=x/\x<256)(e:l.getD k 0=y)(m:k<=6->x=AU (l.take k))(n:∀j,j<k->128<=l.getD j 0)(o:∀j,j<l.length->cC w (aA b (off+j)) (.int .u8 (l.getD j 0)))(p:k<=5->z=y%128*128^k)(f:0<=y)(g:y<256):
  zX l (bits .or .i64 x z) (l.drop (k+1))/\(∀x∈l.drop (k+1),0<=x/\x<256)/\∀j,j<(l.drop (k+1)).length->w.cell? (aA b (off+(k+1)+j))=some (.int .u8 ((l.drop (k+1)).getD j 0)):=by
 refine⟨Num.RH a (e▸c) n (λq=>?_),λx r=>d x (yr r),λj s=>?_⟩;have i:=Num.Jg (l.take k);rw[cx,show min k l.length=k by omega]at i;rw[Num.sS l a,e,m ak];exact Sc ak i ak ak (p q);rw[cN]at s;have h:=o (k+1+j) ak;rw[<-ir]at h;rw[h];simp
def R7{c:Nat}(N:0<l.length)(B:l.length<=300)(J:l.length<=c)(K:c<=9223372036854775807)(g:∀x∈l,0<=x/\x<256)(a:∀j,j<l.length->cC w (aA b (off+j)) (.int .u8 (l.getD j 0))):
  Calls prog 181 #[.slice (some (aA b off)) l.length c] w λe w'=>FF w w' /\
   (
    (e=.returned (.tuple #[iI 0,.slice none 0 0,.bool false])/\Cg l) \/
    (∃x C,e=.returned (.tuple #[iI x,C,.bool true])/\acw w b l x C)):=by
 go_in;go_wp2;go_loop [2,9] (λn i=>∃(k:Nat) (x:Int),k<=l.length/\i=iI k/\n=iI x/\(k<=6->x=AU (l.take k))/\∀j,j<k->128<=l.getD j 0) (λ_ i=>l.length-(intOf i).toNat)
 case atStart=>exact⟨0,0,ak,rfl,rfl,λ_=>rfl,λj D=>ak⟩
 case round=>
  obtain⟨k,x,O,rfl,rfl,E,f⟩:=hrel;by_cases d:k<l.length
  .have s:=a k d;let ⟨y,p⟩:∃y,l.getD k 0=y:=⟨_,rfl⟩
   have t:0<=y/\y<256:=by
    rw[<-p,aD,aE d];exact g _ (bp _)
   rw[p]at s;have u:Hid (l.getD k 0=y):=p;have G:Hid (k<=6->x=AU (l.take k)):=E;have q:Hid (∀j,j<k->128<=l.getD j 0):=f;have L:Hid (∀j,j<l.length->cC w (aA b (off+j)) (.int .u8 (l.getD j 0))):=a;clear p E f a;obtain⟨v,A⟩:=t;obtain⟨z,P,m⟩:=Wp prog (y%128) k ak ak;have H:Hid (k<=5->z=y%128*128^k):=m;clear m;by_cases o:y<128
   .go_wp2;go_region;all_goals go_wp2
    all_goals go_ret3
    all_goals
     have F:=Wj d o g u.out G.out q.out L.out H.out v A;refine⟨(au _ _).drew,.inr ⟨_,_,rfl,l.drop (k+1),_,_,by rw[cN];rfl,by rw[cN];omega,F.1,by rw[cN];omega,by omega,F.2.1,λM=>?_⟩⟩;first|exact⟨off+(k+1),rfl,F.2.2⟩|exact absurd M (by rw[cN];omega)
   .go_wp2;go_round
    case rel=>
     refine⟨k+1,bits .or .i64 x z,ak,by go_num,rfl,λQ=>?_,λj D=>?_⟩;have I:=Num.Jg (l.take k);rw[cx,show min k l.length=k by omega]at I;rw[Num.sS l d,u.out,G.out ak];exact Sc ak I ak ak (H.out ak);rcases bX j k with h|h
     exact q.out j h;obtain rfl:j=k:=ak;rw[u.out];omega
    case measure=>simp[intOf];omega
  .have q:Hid (Cg l):=λn r h=>Num.FX (λj D=>f j ak) h;go_wp2_with fail
   go_ret3;exact⟨au _ _,.inl ⟨rfl,q.out⟩⟩
end Wire
open Num (lY nb jK iJ fO M iH lZ)
namespace Wire
variable{d:DS}{n:Int}{l:List Int}{m:M}{B:Nat}{t:DU}{w:Ba}
def Wh{x:Int}{b:List Int}{v:Dv}(d:jK x=true)(f:b.length<=1000)(g:B<=w.heap.size)(a:tS w B v b):
  Calls prog 183 #[v,.int .i64 x] w λe w'=>∃c,e=.returned c/\tS w' B c (b++nb x.toNat)/\Below B w w':=by
 have h:=Num.eo d;obtain⟨n,rfl⟩:=un h.1;exact Wf n ak f g a
def tS.I{B':Nat}{v:Dv}(h:tS w B v l)(e:B'<=B):tS w B' v l:=by
 refine⟨h.1,?_⟩;rcases h.2 with h|⟨g,a,b,c,f,d⟩
 exact .inl h;exact .inr ⟨g,a,b,c,ak,d⟩
def Cn(b:Nat):∀k:Nat,k<7->∀w,(Instr.index 275 (.agg (Sf b)) (.int .i64 (k:Int))).run prog w=.ok (.pointer (some ⟨b,k,none⟩)) w:=by
 apply Gg<;>(intro w;kernel_rfl)
def N0(ns:List Int)(k:Nat)(h:k<ns.length):iJ (ns.take (k+1))=iJ (ns.take k)++nb (ns.getD k 0).toNat:=by
 rw[bw h,Num.NB,aD,aE h];rfl
def RY{ns:List Int}(h:ns.all jK=true)(k:Nat):(ns.take k).all jK=true:=by
 rw[cM]at h⊢;exactλx a=>h x (ZU a)
def Lg(w:Ba){x y:Dv}:∀j u,[x,y][j]?=some u->(w.alloc (.cells #[x,y] t)).cell? ((⟨w.heap.size,0,none⟩:Addr).add j)=some u:=by
 intro j u a;match j,a with
 |0,a=>simp at a;subst a;simp[Addr.add]
 |1,a=>simp at a;subst a;simp[Addr.add]
 |n+2,a=>simp at a
def Gh{k:IntKind}{m:Int}:∀u∈[Value.int k m,Value.int k n],u.oneCell'=true:=by intro u a;simp at a;rcases a with rfl|rfl<;>rfl
def Ld(w:Ba)(b:m.d.size<=1000)(f:iH m=false):
  Calls prog 129 #[M.ab m] w λe w'=>e=.returned (.tuple #[.slice none 0 0,.iface 59 (.int .i64 1)])/\FF w w':=by
 have g :Hid _:= f;have a:=λw=>Cp m w b;rw[g.out]at a;obtain⟨k,c,n,e,s,o,v,l,d⟩:=m;unfold M.ab at *;dsimp only at *;go_in;go_wp2_with (go_at_call 182;refine(a _).mono ?_;rintro e w'⟨rfl,h⟩)
 go_ret2;exact⟨rfl,((au _ _).alloc (aj _) _).trans (h.mono aY)⟩
def N1{w1 w2:Ba}{k c e s o v:Int}{l:Bool}(a:Below (w.alloc (.cells #[.int .i64 k,.int .i64 c,.int .i64 n,.int .i64 e,.int .i64 s,.int .i64 o,.int .i64 v,.bool l,.string d] t)).heap.size (w.alloc (.cells #[.int .i64 k,.int .i64 c,.int .i64 n,.int .i64 e,.int .i64 s,.int .i64 o,.int .i64 v,.bool l,.string d] t)) w1)(b:FF w1 w2):
  (∀j,j<7->w2.cell? ⟨w.heap.size,j,none⟩=some (.int .i64 ([k,c,n,e,s,o,v].getD j 0)))/\w2.cell? ⟨w.heap.size,7,none⟩=some (.bool l)/\w2.cell? ⟨w.heap.size,8,none⟩=some (.string d)/\w.heap.size<w2.heap.size/\FF w w2:=by
 have f:=a.size;simp at f;have g:=b.size;have hc:∀j,w2.cell? (FI w j)=(w.alloc (.cells #[iI k,iI c,iI n,iI e,iI s,iI o,iI v,.bool l,.string d] t)).cell? (FI w j):=by
  intro j;rw[(iv b).1 _ _ ak,(iv a).1 _ _ aY]
 refine⟨?_,by rw[hc];simp,by rw[hc];simp,ak,(((au _ _).alloc (aj _) _).trans (a.mono aY)).trans (b.mono ak)⟩;intro j h;rw[hc];revert j;apply Gg<;>simp
def tS.j{v:Dv}(h:w.ownsRow B 5 1 v (l.length+d.size) (l.map (Value.int .u8)++Lib.strCells d)):tS w B v (l++fO d):=by
 unfold tS;rw[aL,Num.dB,dE];have e:(fO d).map (Value.int .u8)=Lib.strCells d:=by unfold Num.fO Lib.strCells;rw[kO];rfl
 rw[e];exact h
def R9(w:Ba)(hd:m.d.size<=1000)(T:iH m=true):
  Calls prog 129 #[M.ab m] w λe w'=>∃v',e=.returned (.tuple #[v',.nilIface])/\tS w' w.heap.size v' m.h/\FF w w':=by
 obtain⟨i0,hi,A,B,C⟩:=dg Co;have U:=λw=>Cp m w hd;rw[T]at U;have cj:m.d.size<=20:=by simp[iH]at T;exact T.1.2
 have V:m.j.all jK=true:=by simp only[iH,aR]at T;exact T.2
 obtain⟨k,c,n,e,s,o,v,l,d⟩:=m;unfold M.ab at *;dsimp only at *;obtain⟨ns,D⟩:∃ns,ns=[k,c,n,e,s,o,v]:=⟨_,rfl⟩;have E:M.h ⟨k,c,n,e,s,o,v,l,d⟩=iJ ns++[lZ l,(d.size:Int)]++fO d:=D▸rfl;rw[E];have q:ns.all jK=true:=D▸V;have ci:ns.length=7:=D▸rfl;go_in;go_wp2_with (first|(go_at_call 182;refine(U _).mono ?_;rintro e w1⟨rfl,ad⟩)|(go_at_call 180;refine(rx).mono ?_;rintro e w2⟨rfl,aS⟩))
 let ⟨r,F,b,t,W⟩:=N1 ad aS
 rw[<-D]at r;have X:=Cn w.heap.size;go_loopw [4,13] (λv i wr=>∃j:Nat,j<=7/\i=iI j/\tS wr w2.heap.size v (iJ (ns.take j))/\FF w2 wr) (λ_ i _=>7-(intOf i).toNat)
 case atStart=>exact⟨0,ak,rfl,by simpa[iJ] using tS.O,au _ _⟩
 case round=>
  obtain⟨j,hj,rfl,a,f⟩:=hrel;have J:=f.size;have a0:=Num.mY _ (RY q j);have K:(iJ (ns.take j)).length<=42:=by have:=a0.1;rw[cx]at this;omega
  by_cases Y:j<7
  .have ck:=X j Y;have a1:= ((iv f).1 _ _ t).trans (r j Y);have Z:jK (ns.getD j 0)=true:=by
    rw[aD,aE ak];exact cM.1 q _ (bp _)
   have HT :Hid _:= N0 ns j ak;obtain⟨x,hx⟩:∃x,ns.getD j 0=x:=⟨_,rfl⟩;obtain⟨zs,G⟩:∃zs,iJ (ns.take j)=zs:=⟨_,rfl⟩;rw[hx]at a1 Z HT;rw[G]at a K HT;go_wp2_with (go_at_call 183;refine(Wh Z ak J a).mono ?_;rintro e w3⟨v3,rfl,bm,bO⟩)
   go_roundw
   case rel=>exact⟨j+1,ak,by go_num,HT.out▸bm,f.trans bO⟩
   case measure=>simp[intOf];omega
  .obtain rfl:j=7:=ak;have hT:ns.take 7=ns:=jC ak;rw[hT]at a K;have cl:= ((iv f).1 _ _ t).trans F;have cm:= ((iv f).1 _ _ t).trans b;obtain⟨zs,G⟩:∃zs,iJ ns=zs:=⟨_,rfl⟩;rw[G]at a K;have HZ :Hid _:= G;cases l with
   |true=>
    go_wp2_with (at_builtin;refine eO _ rfl _ _ 61 rfl w2.heap.size 5 i0 (.int .u8 0) 1 1 underlying61 hi A B C rfl cn _ _ _ rfl (a.e) (FI wr 0) 2 2 [.int .u8 1,.int .u8 (d.size:Int)] rfl rfl (Lg _) (Gh) ?atrue ?btrue ?ctrue ?_)
    case atrue=>unfold maxLen;omega
    case btrue=>omega
    case ctrue=>simp;omega
    intro v4 w4 g L _;have R:=a.H (news:=[1,(d.size:Int)]) f J rfl g L;let ⟨N,P⟩:=R
    have u:(zs++[1,(d.size:Int)]).length<=44:=by rw[aL];simp;omega
    obtain⟨ys,y⟩:∃ys,zs++[1,(d.size:Int)]=ys:=⟨_,rfl⟩;rw[y]at N u;have Q :Hid _:= y;have z:=P.size;have bR:= ((iv P).1 _ _ t).trans b;go_wp2_with (at_builtin;refine Lib.wpList_append_own_string _ rfl _ _ 61 9 rfl w2.heap.size 5 i0 underlying61 underlying9 hi A B C _ _ _ rfl N.h d rfl ?dtrue ?etrue ?ftrue ?_)
    case dtrue=>unfold maxLen;omega
    case etrue=>omega
    case ftrue=>omega
    intro v5 w5 p S _;have R3:=tS.j p;have R4:=P.grown S z (λk hk=>(N.h.lt k hk).1);go_wp2;go_ret2;refine⟨_,rfl,?_,W.trans (R4.mono ak)⟩;rw[HZ.out];show tS w5 _ v5 (zs++[1,(d.size:Int)]++fO d);rw[Q.out];exact R3.I ak
   |false=>
    go_wp2_with (at_builtin;refine eO _ rfl _ _ 61 rfl w2.heap.size 5 i0 (.int .u8 0) 1 1 underlying61 hi A B C rfl cn _ _ _ rfl (a.e) (FI wr 0) 2 2 [.int .u8 0,.int .u8 (d.size:Int)] rfl rfl (Lg _) (Gh) ?afalse ?bfalse ?cfalse ?_)
    case afalse=>unfold maxLen;omega
    case bfalse=>omega
    case cfalse=>simp;omega
    intro v4 w4 g L _;have R:=a.H (news:=[0,(d.size:Int)]) f J rfl g L;obtain⟨N,P⟩:=R;have u:(zs++[0,(d.size:Int)]).length<=44:=by rw[aL];simp;omega
    obtain⟨ys,y⟩:∃ys,zs++[0,(d.size:Int)]=ys:=⟨_,rfl⟩;rw[y]at N u;have Q :Hid _:= y;have z:=P.size;have bR:= ((iv P).1 _ _ t).trans b;go_wp2_with (at_builtin;refine Lib.wpList_append_own_string _ rfl _ _ 61 9 rfl w2.heap.size 5 i0 underlying61 underlying9 hi A B C _ _ _ rfl N.h d rfl ?dfalse ?efalse ?ffalse ?_)
    case dfalse=>unfold maxLen;omega
    case efalse=>omega
    case ffalse=>omega
    intro v5 w5 p S _;have R3:=tS.j p;have R4:=P.grown S z (λk hk=>(N.h.lt k hk).1);go_wp2;go_ret2;refine⟨_,rfl,?_,W.trans (R4.mono ak)⟩;rw[HZ.out];show tS w5 _ v5 (zs++[0,(d.size:Int)]++fO d);rw[Q.out];exact R3.I ak
end Wire
namespace Num
variable{l ns rest:List Int}
def dq(l:List Int):ByteArray:=l.foldl (λr n=>r.push (UInt8.ofNat n.toNat)) ByteArray.empty
def zZ:∀(l:List Int) (r:DS),l.foldl (λr n=>r.push (UInt8.ofNat n.toNat)) r=⟨r.data++(l.map λn=>UInt8.ofNat n.toNat).toArray⟩
 | [],r=>aY
 |x::l,r=>by
  rw[lM,zZ l];simp[ByteArray.push]
def zY(l:List Int):dq l=⟨(l.map λn=>UInt8.ofNat n.toNat).toArray⟩:=by
 unfold dq;rw[zZ];have e:ByteArray.empty.data=#[]:=rfl;rw[e,qC]
def Jf(l:List Int):(dq l).size=l.length:=by
 rw[zY];simp[ByteArray.size]
def tR(h:∀x∈l,0<=x/\x<256):fO (dq l)=l:=by
 rw[zY];unfold fO;rw[kO];conv=>rhs;rw[<-ZT l]
 apply gl;intro x a;have:=h x a;simp only[Function.comp,id];rw[UInt8.toNat_ofNat'];omega
def pA(d:DS):dq (fO d)=d:=by
 rw[zY];unfold fO;rw[kO];have e:(d.data.toList.map ((λn:Int=>UInt8.ofNat n.toNat)∘λb=>((b.toNat:Nat):Int)))=d.data.toList:=by
  conv=>rhs;rw[<-ZT d.data.toList]
  apply gl;intro b _;simp
 rw[e]
def NF{a b:List Int}(c:∀x∈a,0<=x/\x<256)(d:∀x∈b,0<=x/\x<256)(h:dq a=dq b):a=b:=by
 rw[<-tR c,<-tR d,h]
def M.I(m:M):List Int:=[lZ m.l,(m.d.size:Int)]++fO m.d
variable{m:M}
def M.H(m:M):m.h=iJ m.j++m.I:=by simp[M.h,M.I]
def tQ(h:iH m=true):∀x∈m.h,0<=x/\x<256:=by
 simp only[iH,aR,f9]at h;intro x a;rw[M.H,cI]at a;rcases a with a|a
 exact(mY _ h.2).2 x a;simp only[M.I,dh,cS,bG]at a;rcases a with rfl|rfl|a
 unfold lZ;split<;>omega;omega;exact wy x a
def qj(l:List Int):Prop:=∀m:M,iH m=true->l≠m.h
def FU(l:List Int)(m:M):Prop:=m.d.size<=l.length/\∀a:M,iH a=true->l=a.h->m=a
def NA(l:List Int)(j:Nat)(ns rest:List Int):Prop:=∀a:M,iH a=true->l=a.h->ns=a.j.take j/\rest=iJ (a.j.drop j)++a.I
def NA.start(l:List Int):NA l 0 [] l:=λa _ h=>⟨rfl,h.trans a.H⟩
def ww(ns:List Int){j:Nat}(h:j<ns.length):iJ (ns.drop j)=nb (ns.getD j 0).toNat++iJ (ns.drop (j+1)):=by
 rw[TT h,aD,aE h];unfold iJ;rw[List.flatMap_cons];rfl
def K9(h:iH m=true){j:Nat}(a:j<7):jK (m.j.getD j 0)=true:=by
 simp only[iH,aR]at h;have b:m.j.length=7:=rfl;rw[aD,aE ak];exact cM.1 h.2 _ (bp _)
def NA.H{a:List Int}{j:Nat}{x:Int}(h:NA l j ns rest)(g:j<7)(hc:zX rest x a):NA l (j+1) (ns++[x]) a:=by
 intro d b i;let ⟨k,e⟩:=h d b i
 have f:d.j.length=7:=rfl;have c:=eo (K9 b g);rw[ww _ ak,bP]at e;let ⟨m,n⟩:=hc _ _ ak e
 refine⟨?_,n⟩;rw[k,bw ak,m];rw[aD,aE ak]at c⊢;simp only[di]at c⊢;rw[kY c.1]
def NA.I{j:Nat}(h:NA l j ns rest)(f:j<7)(hc:Cg rest):qj l:=by
 intro b a e;let ⟨_,c⟩:=h b a e
 have d:b.j.length=7:=rfl;rw[ww _ ak,bP]at c;exact hc _ _ c
def NA.h(h:NA l 7 ns rest)(hs:rest.length<2):qj l:=by
 intro b a c;let ⟨_,d⟩:=h b a c
 have:=cr List.length d;simp[M.I]at this;omega
def NA.e(h:NA l 7 ns rest)(hs:(rest.length:Int)-2≠rest.getD 1 0):qj l:=by
 intro b a d;let ⟨_,c⟩:=h b a d
 have f:iJ (b.j.drop 7)=[]:=rfl;rw[f,cS]at c;apply hs;rw[c];simp[M.I,dB];omega
def NA.j{k c n e s o v:Int}(h:NA l 7 [k,c,n,e,s,o,v] rest)(y:rest.length<=l.length):
  FU l ⟨k,c,n,e,s,o,v,rest.getD 0 0==1,dq (rest.drop 2)⟩:=by
 refine⟨?_,λa b p=>?_⟩;show (dq (rest.drop 2)).size<=l.length;rw[Jf,cN];omega;let ⟨f,g⟩:=h a b p
 have i:iJ (a.j.drop 7)=[]:=rfl;rw[i,cS]at g;have q:a.j.take 7=[a.k,a.c,a.n,a.e,a.s,a.o,a.v]:=rfl;rw[q]at f;simp only[gr,lD]at f;let ⟨r,t,r3,r4,r5,u,w⟩:=f
 have m:(rest.getD 0 0==1)=a.l:=by
  rw[g];simp only[M.I,lZ];cases a.l<;>rfl
 have x:dq (rest.drop 2)=a.d:=by
  rw[g];show dq (fO a.d)=a.d;exact pA _
 rw[m,x,r,t,r3,r4,r5,u,w]
end Num
open Num (dq)
namespace Wire
variable{w:Ba}
def ln(a:Addr)(l:List Int)(b:Nat)(h:∀j v,(l.map (Value.int .u8))[j]?=some v->w.cell? (a.add j)=some v):
  (convert 61 9 (.slice (some a) l.length b)).run prog w=.ok (.string (dq l)) w:=by
 rw[Zt w 61 9 5 (some a) l.length b underlying61 underlying5 underlying9];have c:=run_loadCells_list (P:=prog) (w:=w) a (l.map (Value.int .u8)) h;rw[bz]at c;exact run_bytesToString w a l.length b l c
def Ge{a:Nat}:(convert 61 9 (.slice none 0 a)).run prog w=.ok (.string (dq [])) w:=by
 rw[Zt w 61 9 5 none 0 a underlying61 underlying5 underlying9];rfl
def R5{B:Nat}{v:Dv}{l:List Int}(h:tS w B v l):(convert 61 9 v).run prog w=.ok (.string (dq l)) w:=by
 have hc:=@Ep w B 5 1 v l.length (l.map (Value.int .u8)) h;rcases h.2 with⟨rfl,h0⟩|⟨g,a,b,rfl,_⟩
 have:= dX h0;subst this;exact Ge;exact ln _ l a (hc rfl)
end Wire
open Num (NA qj FU)
namespace Wire
variable{k0 k1 k2 k3 k4 k5 k6:Int}{l zs:List Int}{B:Nat}{u0 u1 u2 u3 u4 u5 u6 u7 u8:Dv}{w w' a W:Ba}
def ru.e{C:Nat}{v:Dv}(h:ru w B v l)(a:Below C w w')(s:B<=C):ru w' B v l:=by
 let ⟨ao,c,d,f,g,i,k⟩:=h
 refine⟨ao,c,d,f,g,i,λm=>?_⟩;let ⟨b,off,n,o,q⟩:=k m
 exact⟨b,off,n,o,λj r=>(a.cell (p:=(aA b (off+j))) (by show b<C;omega)).trans (q j r)⟩
def R6(ao:Option Addr)(c:Nat)(w:Ba):
  Calls prog 181 #[.slice ao 0 c] w λe w'=>e=.returned (.tuple #[.int .i64 0,.slice none 0 0,.bool false])/\w'=w:=by
 go_in;go_wp2;apply wp_loop_rounds 1;rw[rounds_succ];go_wp2;go_ret3;exact⟨rfl,rfl⟩
def RU(w:World)(B:Nat)(l:List Int)(x:Int)(v:Value)(rest:List Int):Prop:=rest.length<=l.length/\zX l x rest/\ru w B v rest
def Wi{v:Dv}(h:ru w B v l)(a:l.length<=300):
  Calls prog 181 #[v] w λe w'=>∃x f ok,e=.returned (.tuple #[.int .i64 x,f,.bool ok])/\FF w w'/\(ok=false->Cg l)/\(ok=true->∃rest,RU w B l x f rest):=by
 obtain⟨ao,c,rfl,j,k,m,o⟩:=h;by_cases p:l.length=0;have:= dX p;subst this;apply (R6 ao c w).mono;rintro e w'⟨rfl,rfl⟩;refine⟨_,_,_,rfl,au _ _,λ_ n r h=>?_,λh=>by cases h⟩;have:=cr List.length h;have E:=Num.Y6 n;simp at this;omega;obtain⟨b,off,rfl,q,s⟩:=o ak;apply (R7 ak a j k m s).mono;rintro e w'⟨i,⟨rfl,g⟩|⟨x,f,rfl,rest,ao,t,rfl,u,y,r3,r4,r5,z⟩⟩;exact⟨_,_,_,rfl,i,λ_=>g,λh=>by cases h⟩;refine⟨_,_,_,rfl,i,λh=>absurd h cn,λ_=>⟨rest,u,y,ao,t,rfl,r3,r4,r5,λA=>?_⟩⟩;let ⟨d,C,D⟩:=z A
 exact⟨b,d,C,q,D⟩
def Box(w:World)(q:Nat)(zs:List Int):Prop:=
 zs.length=7/\(∀i,i<7->w.cell? ⟨q,i,none⟩=some (.int .i64 (zs.getD i 0)))/\w.cell? ⟨q,7,none⟩=some (.bool false)/\w.cell? ⟨q,8,none⟩=some (.string ByteArray.empty)/\(∀i,w.frozen? ⟨q,i,none⟩=false)/\q<w.heap.size
def At(w wr:World)(q B:Nat)(l:List Int)(v:Value)(j:Nat)(zs rest:List Int):Prop:=
 Box wr q zs/\ru wr B v rest/\rest.length<=l.length/\NA l j (zs.take j) rest/\FF w wr
def Box.h{q:Nat}(h:Box w q zs)(d:FF w w'):Box w' q zs:=by
 let ⟨e,b,f,g,c,a⟩:=h
 let ⟨hc,j⟩:=iv d
 exact⟨e,λi k=>(hc _ _ a).trans (b i k),(hc _ _ a).trans f,(hc _ _ a).trans g,λi=>(j _ _ a).trans (c i),by have:=d.size;omega⟩
def Box.e{q:Nat}(h:Box w q zs)(j:Nat)(x:Int):
  ∃u0 u1 u2 u3 u4 u5 u6 u7 u8,(w.setCell ⟨q,j,none⟩ (.int .i64 x)).cell? ⟨q,0,none⟩=some u0/\(w.setCell ⟨q,j,none⟩ (.int .i64 x)).cell? ⟨q,1,none⟩=some u1/\(w.setCell ⟨q,j,none⟩ (.int .i64 x)).cell? ⟨q,2,none⟩=some u2/\(w.setCell ⟨q,j,none⟩ (.int .i64 x)).cell? ⟨q,3,none⟩=some u3/\(w.setCell ⟨q,j,none⟩ (.int .i64 x)).cell? ⟨q,4,none⟩=some u4 /\
   (w.setCell ⟨q,j,none⟩ (.int .i64 x)).cell? ⟨q,5,none⟩=some u5/\(w.setCell ⟨q,j,none⟩ (.int .i64 x)).cell? ⟨q,6,none⟩=some u6/\(w.setCell ⟨q,j,none⟩ (.int .i64 x)).cell? ⟨q,7,none⟩=some u7/\(w.setCell ⟨q,j,none⟩ (.int .i64 x)).cell? ⟨q,8,none⟩=some u8:=by
 let ⟨_,a,b,c,_,_⟩:=h
 let ⟨u0,d⟩:=dC (w:=w) (p:=(aA q j)) (x:=iI x) (a 0 ak)
 let ⟨u1,f⟩:=dC (w:=w) (p:=(aA q j)) (x:=iI x) (a 1 ak)
 let ⟨u2,g⟩:=dC (w:=w) (p:=(aA q j)) (x:=iI x) (a 2 ak)
 let ⟨u3,i⟩:=dC (w:=w) (p:=(aA q j)) (x:=iI x) (a 3 ak)
 let ⟨u4,k⟩:=dC (w:=w) (p:=(aA q j)) (x:=iI x) (a 4 ak)
 let ⟨u5,l⟩:=dC (w:=w) (p:=(aA q j)) (x:=iI x) (a 5 ak)
 let ⟨u6,m⟩:=dC (w:=w) (p:=(aA q j)) (x:=iI x) (a 6 ak)
 let ⟨u7,n⟩:=dC (w:=w) (p:=(aA q j)) (x:=iI x) b
 let ⟨u8,o⟩:=dC (w:=w) (p:=(aA q j)) (x:=iI x) c
 exact⟨u0,u1,u2,u3,u4,u5,u6,u7,u8,d,f,g,i,k,l,m,n,o⟩
def lI:M:=⟨0,0,0,0,0,0,0,false,⟨#[]⟩⟩
def kG{q:Nat}:∀(b:List Dv) (o:Nat) (w:Ba),Below q a w->Below q a (w.setCells q o b)
 | [],_,_,h=>h
 |v::b,o,w,h=>by
  rw[World.setCells];exact kG b (o+1) _ (h.setCell (aj _) _)
def sf{q:Nat}(a b c d e f g k l:Dv)(g0:w.cell? ⟨q,0,none⟩=some u0)(g1:w.cell? ⟨q,1,none⟩=some u1)(n:w.cell? ⟨q,2,none⟩=some u2)(o:w.cell? ⟨q,3,none⟩=some u3)(p:w.cell? ⟨q,4,none⟩=some u4)(r:w.cell? ⟨q,5,none⟩=some u5)(s:w.cell? ⟨q,6,none⟩=some u6)(t:w.cell? ⟨q,7,none⟩=some u7)(u:w.cell? ⟨q,8,none⟩=some u8):
  ∀j (m:j<9),(w.setCells q 0 [a,b,c,d,e,f,g,k,l]).cell? ⟨q,j,none⟩=some ([a,b,c,d,e,f,g,k,l][j]'m):=by
 intro j m;have h:=World.cell?_setCells_in q [a,b,c,d,e,f,g,k,l] 0 w (λi v=>by
  rw[bY];match i,v with
  |0,_=>rw[g0];rfl
  |1,_=>rw[g1];rfl
  |2,_=>rw[n];rfl
  |3,_=>rw[o];rfl
  |4,_=>rw[p];rfl
  |5,_=>rw[r];rfl
  |6,_=>rw[s];rfl
  |7,_=>rw[t];rfl
  |8,_=>rw[u];rfl) j m
 rw[bY]at h;exact h
def ig(w:World)(q:Nat):World:=w.setCells q 0 [.int .i64 0,.int .i64 0,.int .i64 0,.int .i64 0,.int .i64 0,.int .i64 0,.int .i64 0,.bool false,.string ⟨#[]⟩]
def j7{q:Nat}(h:Below q a w):Below q a (ig w q):=kG _ _ _ h
def j8{q:Nat}(g0:w.cell? ⟨q,0,none⟩=some u0)(g1:w.cell? ⟨q,1,none⟩=some u1)(a:w.cell? ⟨q,2,none⟩=some u2)(b:w.cell? ⟨q,3,none⟩=some u3)(c:w.cell? ⟨q,4,none⟩=some u4)(d:w.cell? ⟨q,5,none⟩=some u5)(e:w.cell? ⟨q,6,none⟩=some u6)(f:w.cell? ⟨q,7,none⟩=some u7)(g:w.cell? ⟨q,8,none⟩=some u8):
  (ig w q).cell? ⟨q,0,none⟩=some (.int .i64 0)/\(ig w q).cell? ⟨q,1,none⟩=some (.int .i64 0)/\(ig w q).cell? ⟨q,2,none⟩=some (.int .i64 0)/\(ig w q).cell? ⟨q,3,none⟩=some (.int .i64 0)/\(ig w q).cell? ⟨q,4,none⟩=some (.int .i64 0) /\
   (ig w q).cell? ⟨q,5,none⟩=some (.int .i64 0)/\(ig w q).cell? ⟨q,6,none⟩=some (.int .i64 0)/\(ig w q).cell? ⟨q,7,none⟩=some (.bool false)/\(ig w q).cell? ⟨q,8,none⟩=some (.string ⟨#[]⟩):=by
 have h:=sf (iI 0) (iI 0) (iI 0) (iI 0) (iI 0) (iI 0) (iI 0) (.bool false) (.string ⟨#[]⟩) g0 g1 a b c d e f g;exact⟨h 0 cn,h 1 cn,h 2 cn,h 3 cn,h 4 cn,h 5 cn,h 6 cn,h 7 cn,h 8 cn⟩
def lH(w:World)(q:Nat)(k0 k1 k2 k3 k4 k5 k6:Int)(l:Bool)(d:ByteArray):World:=
 (((w.setCell ⟨q,7,none⟩ (.bool l)).setCell ⟨q,8,none⟩ (.string d)).setCells q 0 [.int .i64 k0,.int .i64 k1,.int .i64 k2,.int .i64 k3,.int .i64 k4,.int .i64 k5,.int .i64 k6,.bool l,.string d]).drew
def xw{q:Nat}{l:Bool}{d:DS}(h:Below q a w):Below q a (lH w q k0 k1 k2 k3 k4 k5 k6 l d):=
 (kG _ _ _ ((h.setCell (aj _) _).setCell (aj _) _)).drew
def xx{q:Nat}(l:Bool)(d:DS)(g0:w.cell? ⟨q,0,none⟩=some u0)(g1:w.cell? ⟨q,1,none⟩=some u1)(b:w.cell? ⟨q,2,none⟩=some u2)(c:w.cell? ⟨q,3,none⟩=some u3)(e:w.cell? ⟨q,4,none⟩=some u4)(f:w.cell? ⟨q,5,none⟩=some u5)(g:w.cell? ⟨q,6,none⟩=some u6)(i:w.cell? ⟨q,7,none⟩=some u7)(j:w.cell? ⟨q,8,none⟩=some u8):
  (lH w q k0 k1 k2 k3 k4 k5 k6 l d).cell? ⟨q,0,none⟩=some (.int .i64 k0)/\(lH w q k0 k1 k2 k3 k4 k5 k6 l d).cell? ⟨q,1,none⟩=some (.int .i64 k1)/\(lH w q k0 k1 k2 k3 k4 k5 k6 l d).cell? ⟨q,2,none⟩=some (.int .i64 k2)/\(lH w q k0 k1 k2 k3 k4 k5 k6 l d).cell? ⟨q,3,none⟩=some (.int .i64 k3) /\
   (lH w q k0 k1 k2 k3 k4 k5 k6 l d).cell? ⟨q,4,none⟩=some (.int .i64 k4)/\(lH w q k0 k1 k2 k3 k4 k5 k6 l d).cell? ⟨q,5,none⟩=some (.int .i64 k5)/\(lH w q k0 k1 k2 k3 k4 k5 k6 l d).cell? ⟨q,6,none⟩=some (.int .i64 k6)/\(lH w q k0 k1 k2 k3 k4 k5 k6 l d).cell? ⟨q,7,none⟩=some (.bool l)/\(lH w q k0 k1 k2 k3 k4 k5 k6 l d).cell? ⟨q,8,none⟩=some (.string d):=by
 have a:∀(x:Addr) (u:Dv),cC w x u->∃k,cC ((w.setCell (aA q 7) (.bool l)).setCell (aA q 8) (.string d)) x k:=λx u h=>by
  let ⟨u1,m⟩:=dC (p:=(aA q 7)) (x:=.bool l) h
  exact dC (p:=(aA q 8)) (x:=.string d) m
 let ⟨_,n⟩:=a _ _ g0
 let ⟨_,o⟩:=a _ _ g1
 let ⟨_,r⟩:=a _ _ b
 let ⟨_,r3⟩:=a _ _ c
 let ⟨_,r4⟩:=a _ _ e
 let ⟨_,r5⟩:=a _ _ f
 let ⟨_,s⟩:=a _ _ g
 let ⟨_,t⟩:=a _ _ i
 let ⟨_,v⟩:=a _ _ j
 have h:=sf (iI k0) (iI k1) (iI k2) (iI k3) (iI k4) (iI k5) (iI k6) (.bool l) (.string d) n o r r3 r4 r5 s t v;unfold lH;simp;exact⟨h 0 cn,h 1 cn,h 2 cn,h 3 cn,h 4 cn,h 5 cn,h 6 cn,h 7 cn,h 8 cn⟩
def At.e{wr w2:Ba}{j:Nat}{rest a:List Int}{x:Int}{q:Dv}(t:B<=w.heap.size)(f:Box w2 w.heap.size zs)(r:j<7)(hc:RU wr B rest x q a)(g:FF wr w2)(u:rest.length<=l.length)(k:NA l j (zs.take j) rest)(c:FF w wr):
  At w (w2.setCell ⟨w.heap.size,j,none⟩ (.int .i64 x)) w.heap.size B l q (j+1) (zs.set j x) a:=by
 obtain⟨s,b,v,y,n,o⟩:=f;have d:∀i,i≠j->(w2.setCell (FI w j) (iI x)).cell? (FI w i)=w2.cell? (FI w i):=λi m=>
  am _ _ _ _ (by intro h;injection h with _ z;exact m z.symm)
 refine⟨⟨dD s,λi m=>?_,?_,?_,λi=>?_,?_⟩,(hc.2.2.e g (jd c.size)).e ((au B w2).setCell (p:=(FI w j)) t _) (aj _),by have:=hc.1;omega,?_,(c.trans (g.mono c.size)).setCell (aj _) _⟩;by_cases h:i=j;subst h;rw[az _ _ _ (b i m)];simp[aD,s,r];rw[d i h,b i m];simp[aD,show j≠i by omega];rw[d 7 ak,v];rw[d 8 ak,y];simpa using n i;simpa using o;have e:(zs.set j x).take (j+1)=zs.take j++[x]:=by
  rw[bw fS,nh,List.take_set_of_le (aj _)]
 rw[e];exact k.H r hc.2.1
def RX(l:List Int)(w:World)(e:Ending)(w':World):Prop:=∃m ok,e=.returned (.tuple #[M.ab m,.bool ok])/\FF w w'/\(ok=false->qj l)/\(ok=true->FU l m)
def RX.h(a:FF w W)(h:qj l):RX l w (.returned (.tuple #[M.ab lI,.bool false])) W:=⟨lI,false,rfl,a,λ_=>h,λh=>by cases h⟩
def RX.e{m:M}(a:FF w W)(h:FU l m):RX l w (.returned (.tuple #[M.ab m,.bool true])) W:=⟨m,true,rfl,a,λh=>absurd h cn,λ_=>h⟩
def Jq{b off:Nat}(h:∀j,j<l.length->w.cell? ⟨b,off+j,none⟩=some (.int .u8 (l.getD j 0))):∀j v,((l.drop 2).map (Value.int .u8))[j]?=some v->w.drew.cell? ((⟨b,off+2,none⟩:Addr).add j)=some v:=by
 intro j v a;have d:j<(l.drop 2).length:=by
  have:=(bB.1 a).1;simpa using this
 rw[cN]at d;have c:=h (2+j) ak;rw[cU,qI]at a;rw[aD]at c;obtain⟨y,f⟩:∃y,l[2+j]?=some y:=⟨_,aE ak⟩;rw[f]at a c;simp at a c;subst a;rw[<-ir]at c;have e:((aA b (off+2)):Addr).add j=(aA b (off+2+j)):=by unfold Addr.add;split<;>simp_all
 rw[e];exact c
def aa2(h:zs.length=7):∃k0 k1 k2 k3 k4 k5 k6,zs=[k0,k1,k2,k3,k4,k5,k6]:=by
 match zs,h with
 | [k0,k1,k2,k3,k4,k5,k6],_=>exact⟨k0,k1,k2,k3,k4,k5,k6,rfl⟩
def At.start{w1:Ba}{v:Dv}{t:DU}(d:B<=w.heap.size)(h:ru w B v l)(a:Below (w.alloc (.cells #[.int .i64 0,.int .i64 0,.int .i64 0,.int .i64 0,.int .i64 0,.int .i64 0,.int .i64 0,.bool false,.string ⟨#[]⟩] t)).heap.size (w.alloc (.cells #[.int .i64 0,.int .i64 0,.int .i64 0,.int .i64 0,.int .i64 0,.int .i64 0,.int .i64 0,.bool false,.string ⟨#[]⟩] t)) w1):
  At w w1 w.heap.size B l v 0 (List.replicate 7 0) l:=by
 obtain⟨hc,f⟩:=iv a;have c:=a.size;simp at c;have b:= ((au _ _).alloc (aj _) _).trans (a.mono aY);refine⟨⟨rfl,?_,?_,?_,?_,ak⟩,h.e b d,aj _,Num.NA.start l,b⟩;intro i g;rw[hc _ _ aY];revert i;apply Gg<;>simp;rw[hc _ _ aY];simp;rw[hc _ _ aY];simp;rfl;intro i;rw[f _ _ aY];simp
def Sg{v:Dv}(h:ru w B v l)(h300:l.length<=300)(hB:B<=w.heap.size):
  Calls prog 128 #[v] w (RX l w):=by
 go_in;go_wp2_with (go_at_call 180;refine(rx).mono ?_;rintro e w1⟨rfl,hb1⟩)
 have hidx:=Cn w.heap.size;go_loopw [0,3,7] (λv o i wr=>∃(j:Nat) (zs rest:List Int) (ok:Bool),j<=7/\i = iI j/\o=.bool ok/\At w wr w.heap.size B l v j zs rest) (λ_ _ i _=>7-(intOf i).toNat)
 case atStart=>exact⟨0,List.replicate 7 0,l,false,ak,rfl,rfl,At.start hB h hb1⟩
 case round=>
  obtain⟨j,zs,rest,ok,hj,rfl,rfl,hat⟩:=hrel

  by_cases hlt:j<7
  .have hij:=hidx j hlt

   let ⟨hbox,hsee,hrl,hpar,hbl⟩:=hat
   go_wp2_with (go_at_call 181;refine(Wi hsee ak).mono ?_;rintro e w2⟨x,v2,o2,rfl,hb2,hno,hyes⟩;have hbox2:=hbox.h hb2;have hcj:=hbox2.2.1 j hlt;have hfz2:=hbox2.2.2.2.2.1;let ⟨u0,u1,u2,u3,u4,u5,u6,u7,u8,g0,g1,g2,g3,g4,g5,g6,g7,g8⟩:=hbox2.e j x)
   .have ho:(!o2)=true:=by assumption
    have ho':o2=false:=dD ho;change bodyPost _ _ _ _ _ (ig (w2.setCell ⟨w.heap.size,j,none⟩ (.int .i64 x)) w.heap.size);let ⟨z0,z1,z2,z3,z4,z5,z6,z7,z8⟩:=j8 g0 g1 g2 g3 g4 g5 g6 g7 g8
    have hB2:FF w (ig (w2.setCell (aA w.heap.size j) (iI x)) w.heap.size):=j7 ((hbl.trans (hb2.mono hbl.size)).setCell (aj _) _);have hnm:=hpar.I hlt (hno ho');generalize ig (w2.setCell ⟨w.heap.size,j,none⟩ (.int .i64 x)) w.heap.size=W at *

    exact bn (v:=.tuple #[M.ab lI,.bool false]) (by simp[lI,results,results128,go_sem,M.ab,z0,z1,z2,z3,z4,z5,z6,z7,z8]) rfl (RX.h hB2 hnm)
   .have ho:(!o2)=false:=by assumption
    have ho':o2=true:=dD ho;let ⟨rest',hr⟩:=hyes ho'
    have R:=At.e hB hbox2 hlt hr hb2 hrl hpar hbl;go_roundw
    case rel=>exact⟨j+1,zs.set j x,rest',o2,ak,by go_num,rfl,R⟩
    case measure=>simp[intOf];omega
  .obtain rfl:j=7:=ak;obtain⟨⟨hz,hcell,h7,h8,hfz,hsz⟩,⟨ao,cp,rfl,hc1,hc2,hby,hee⟩,hrl,hpar,hbl⟩:=hat;obtain⟨k0,k1,k2,k3,k4,k5,k6,rfl⟩:=aa2 hz;have g0:wr.cell? (FI w 0)=some (iI k0):=hcell 0 ak;have g1:wr.cell? (FI w 1)=some (iI k1):=hcell 1 ak;have g2:wr.cell? (FI w 2)=some (iI k2):=hcell 2 ak;have g3:wr.cell? (FI w 3)=some (iI k3):=hcell 3 ak;have g4:wr.cell? (FI w 4)=some (iI k4):=hcell 4 ak;have g5:wr.cell? (FI w 5)=some (iI k5):=hcell 5 ak;have g6:wr.cell? (FI w 6)=some (iI k6):=hcell 6 ak;have hpar':NA l 7 [k0,k1,k2,k3,k4,k5,k6] rest:=hpar

   have HP:Hid (NA l 7 [k0,k1,k2,k3,k4,k5,k6] rest):=hpar';by_cases hsh:rest.length<2
   .have hnm:=hpar'.h hsh

    go_wp2_with fail
    change bodyPost _ _ _ _ _ (ig wr w.heap.size);let ⟨z0,z1,z2,z3,z4,z5,z6,z7,z8⟩:=j8 g0 g1 g2 g3 g4 g5 g6 h7 h8
    have hB2:FF w (ig wr w.heap.size):=j7 hbl;generalize ig wr w.heap.size=W at *

    exact bn (v:=.tuple #[M.ab lI,.bool false]) (by simp[lI,results,results128,go_sem,M.ab,z0,z1,z2,z3,z4,z5,z6,z7,z8]) rfl (RX.h hB2 hnm)
   .obtain⟨b,off,rfl,hbB,hcl⟩:=hee ak;have hcl0:=hcl 0 ak;have hcl1:=hcl 1 ak;rw[qq]at hcl0;let ⟨y0,hy0⟩:∃y,rest.getD 0 0=y:=⟨_,rfl⟩
    let ⟨y1,hy1⟩:∃y,rest.getD 1 0=y:=⟨_,rfl⟩
    have hyb:0<=y1/\y1<256:=by
     rw[<-hy1,aD,aE ak];exact hby _ (bp _)
    let ⟨hyb0,hyb1⟩:=hyb
    rw[hy0]at hcl0;rw[hy1]at hcl1;by_cases hne:(rest.length:Int)-2=y1
    .have hne2:((rest.length:Int)-2 != y1)=false:=dD hne;have hread:=hpar'.j hrl;rw[hy0]at hread;have hby2:∀x∈rest.drop 2,0<=x/\x<256:=λx hx=>hby x (yr hx);by_cases hcp:cp=2
     .have hl2:rest.length=2:=ak;have hdn:rest.drop 2=[]:=XP ak;rw[hdn]at hread;have hconv:(convert 61 9 (.slice (some (aA b off)) 0 0)).run prog wr.drew=.ok (.string (dq [])) wr.drew:=ln (w:=wr.drew) (aA b off) [] 0 (λj v hj=>by simp at hj);obtain⟨st,hst⟩:∃st,dq []=st:=⟨_,rfl⟩;rw[hst]at hconv hread;clear hpar' hcl hby hby2 hy0 hy1 hst HP hdn;subst hcp;go_wp2;go_region;all_goals go_wp2
      change bodyPost _ _ _ _ _ (lH wr w.heap.size k0 k1 k2 k3 k4 k5 k6 (y0==1) st);obtain⟨z0,z1,z2,z3,z4,z5,z6,z7,z8⟩:=xx (y0==1) st g0 g1 g2 g3 g4 g5 g6 h7 h8;have hB2:FF w (lH wr w.heap.size k0 k1 k2 k3 k4 k5 k6 (y0==1) st):=xw hbl;generalize lH wr w.heap.size k0 k1 k2 k3 k4 k5 k6 (y0==1) st=W at *

      exact bn (v:=.tuple #[M.ab ⟨k0,k1,k2,k3,k4,k5,k6,y0==1,st⟩,.bool true]) (by simp[results,results128,go_sem,M.ab,z0,z1,z2,z3,z4,z5,z6,z7,z8]) rfl (RX.e hB2 hread)
     .have hconv:(convert 61 9 (.slice (some (aA b (off+2))) (rest.length-2) (cp-2))).run prog wr.drew=.ok (.string (dq (rest.drop 2))) wr.drew:=by
       have h9:=ln (w:=wr.drew) (aA b (off+2)) (rest.drop 2) (cp-2) (Jq hcl);rwa [cN]at h9
      let ⟨st,hst⟩:∃st,dq (rest.drop 2)=st:=⟨_,rfl⟩
      rw[hst]at hconv hread;clear hpar' hcl hby hby2 hy0 hy1 hst HP;go_wp2;go_region;all_goals go_wp2
      change bodyPost _ _ _ _ _ (lH wr w.heap.size k0 k1 k2 k3 k4 k5 k6 (y0==1) st);obtain⟨z0,z1,z2,z3,z4,z5,z6,z7,z8⟩:=xx (y0==1) st g0 g1 g2 g3 g4 g5 g6 h7 h8;have hB2:FF w (lH wr w.heap.size k0 k1 k2 k3 k4 k5 k6 (y0==1) st):=xw hbl;generalize lH wr w.heap.size k0 k1 k2 k3 k4 k5 k6 (y0==1) st=W at *

      exact bn (v:=.tuple #[M.ab ⟨k0,k1,k2,k3,k4,k5,k6,y0==1,st⟩,.bool true]) (by simp[results,results128,go_sem,M.ab,z0,z1,z2,z3,z4,z5,z6,z7,z8]) rfl (RX.e hB2 hread)
    .have hnm:=hpar'.e (hy1▸hne)

     have hneq:((rest.length:Int)-2 != y1)=true:=dD hne;go_wp2_with fail
     change bodyPost _ _ _ _ _ (ig wr w.heap.size);let ⟨z0,z1,z2,z3,z4,z5,z6,z7,z8⟩:=j8 g0 g1 g2 g3 g4 g5 g6 h7 h8
     have hB2:FF w (ig wr w.heap.size):=j7 hbl;generalize ig wr w.heap.size=W at *

     exact bn (v:=.tuple #[M.ab lI,.bool false]) (by simp[lI,results,results128,go_sem,M.ab,z0,z1,z2,z3,z4,z5,z6,z7,z8]) rfl (RX.h hB2 hnm)
end Wire
end Go.Proofs.YtbebfliimjjohabGreatDoor
