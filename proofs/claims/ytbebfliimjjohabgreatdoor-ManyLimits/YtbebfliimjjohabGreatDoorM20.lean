/- Parts of the proof. -/
import Derived.Test.YtbebfliimjjohabGreatDoorM19
import Derived.Lib.EndianBits
set_option maxRecDepth 100000
set_option maxHeartbeats 8000000
set_option linter.all false
open Go.Proofs.Tryz
namespace Go.Proofs.YtbebfliimjjohabGreatDoor
open Go.RowKit
open Num (m6 nb ko jk gy M iC m8)
namespace Wire
variable{n:Int}{ns:List Int}{b:Nat}{t:Bi}{w:A1}
abbrev Uq (b:Nat):Array Value:=#[.pointer (some ⟨b,0,none⟩),.pointer (some ⟨b,1,none⟩),.pointer (some ⟨b,2,none⟩),.pointer (some ⟨b,3,none⟩),.pointer (some ⟨b,4,none⟩),.pointer (some ⟨b,5,none⟩),.pointer (some ⟨b,6,none⟩)]
def sI:
  Calls prog 180 #[.pointer (some (aA b 0))] w λe a=>e=.returned (.agg (Uq b))/\Below w.heap.size w a:=by
 go_enter func180,ntmps180;go_wp2;go_still_tail 22,(by kernel_rfl);change wpList _ _ _ _ _ (World.drew (w.alloc _));go_wp2;refine bz (v:=.agg (Uq b)) (by simp[Uq,results,results180,go_sem]) rfl ⟨rfl,((au _ _).alloc (aa _) _).drew⟩
def yn{j:Nat}(hc:cC w (aA b j) (iI n)):
  Calls prog 222 #[.pointer (some (aA b j))] w λe a=>e=.returned (.bool (!ko n))/\a=w:=by
 unfold ko;by_cases h0:0<=n
 .by_cases c:n<=1099511627776
  .rw[Num.fX h0 c];go_enter func222,ntmps222;go_wp2;go_ret;refine⟨?_,rfl⟩;show Ending.returned (.bool (decide (n<0)||decide (1099511627776<n)))=_;rw[aK (by omega),aK (by omega)];rfl
  .rw[Num.kM (by omega)];go_enter func222,ntmps222;go_wp2;go_ret;exact⟨rfl,rfl⟩
 .rw[Num.kN (by omega)];go_enter func222,ntmps222;go_wp2;go_ret;exact⟨rfl,rfl⟩
def Ud(h:∀j,j<ns.length->ko (ns.getD j 0)=true):ns.all ko=true:=by
 rw[dh];intro x b;obtain⟨j,a,rfl⟩:=rg b;have:=h j a;rwa [aG,aB a]at this
def X6{j:Nat}(a:j<ns.length)(h:ko (ns.getD j 0)=false):ns.all ko=false:=by
 rw[aG,aB a]at h;rw[List.all_eq_false];exact⟨_,bA a,by simpa using h⟩
def P1{a:Nat}(ns:List Int)(t:ns.length=7)(o:∀k,k<7->w.cell? (aA a k)=some (.pointer (some (aA b k))))(hc:∀k,k<7->cC w (aA b k) (iI (ns.getD k 0))):
  Calls prog 253 #[.slice (some (aA a 0)) 7 7,.func (.func 222) #[] #[]] w λe g=>∃r:Int,e=.returned (iI r)/\decide (0<=r) = !(ns.all ko)/\g=w:=by
 go_enter func253,ntmps253;go_wp2;go_loop [8] (λi=>∃k:Nat,k<=7/\i=iI k/\∀j,j<k->ko (ns.getD j 0)=true) (λi=>7-(intOf i).toNat)
 case atStart=>exact⟨0,by omega,rfl,λj l=>by omega⟩
 case round=>
  obtain⟨k,u,rfl,c⟩:=hrel;by_cases f:k<7
  .have p:=o k f;have d:=hc k f;obtain⟨x,m⟩:∃x,ns.getD k 0=x:=⟨_,rfl⟩;rw[m]at d;have n :Hid _:= m;have q :Hid _:= c;cases hb:ko x with
   |true=>
    go_wp2_with (go_at_call 222;refine(yn d).mono ?_;rintro e g⟨rfl,rfl⟩)
    go_round
    case rel=>
     refine⟨k+1,by omega,by go_num,λj l=>?_⟩;rcases cz j k with h|h
     exact q.out j h;obtain rfl:j=k:=by omega
     rw[n.out];exact hb
    case measure=>simp[intOf];omega
   |false=>
    go_wp2_with (go_at_call 222;refine(yn d).mono ?_;rintro e g⟨rfl,rfl⟩)
    go_ret;exact⟨k,rfl,by rw[X6 (j:=k) (by omega) (by rw[n.out];exact hb)];simp,rfl⟩
  .have s :Hid _:= Ud (λj l=>c j (by omega));go_wp2;go_ret;exact⟨-1,rfl,by rw[s.out];rfl,rfl⟩
def Fd(a b:Nat)(ns:List Int)(w:A1)(d:ns.length=7)(f:∀k,k<7->w.cell? (aA a k)=some (.pointer (some (aA b k))))(hc:∀k,k<7->cC w (aA b k) (iI (ns.getD k 0))):
  Calls prog 221 #[.slice (some (aA a 0)) 7 7,.func (.func 222) #[] #[]] w λe c=>e=.returned (.bool (!(ns.all ko)))/\c=w:=by
 go_enter func221,ntmps221;go_wp2_with (go_at_call 253;refine(P1 ns d f hc).mono ?_;rintro e c⟨r,rfl,g,rfl⟩)
 go_ret;exact⟨by rw[<-g];rfl,rfl⟩
def i5{W w1:A1}(a:Below W.heap.size W w1):(∀b o,b<W.heap.size->w1.cell? ⟨b,o,none⟩=W.cell? ⟨b,o,none⟩)/\(∀b o,b<W.heap.size->w1.frozen? ⟨b,o,none⟩=W.frozen? ⟨b,o,none⟩):=
 ⟨λb o h=>a.cell (p:=(aA b o)) h,λb o h=>a.frozen (p:=(aA b o)) h⟩
def Hv{Q:Nat->Prop}(h0:Q 0)(a:Q 1)(b:Q 2)(c:Q 3)(d:Q 4)(e:Q 5)(f:Q 6):∀k,k<7->Q k:=by
 intro k g;match k,g with
 |0,_=>exact h0
 |1,_=>exact a
 |2,_=>exact b
 |3,_=>exact c
 |4,_=>exact d
 |5,_=>exact e
 |6,_=>exact f
def P3(w:A1):∀k,k<7->(w.alloc (.cells (Uq b) t)).cell? ⟨w.heap.size,k,none⟩=some (.pointer (some ⟨b,k,none⟩)):=by
 apply Hv<;>simp
def P2(w w':A1){k c e s o v:Int}{l:Bool}{d:Bh}{b:Bi}{x:Array Bg}(a:Below (w.alloc (.cells #[.int .i64 k,.int .i64 c,.int .i64 n,.int .i64 e,.int .i64 s,.int .i64 o,.int .i64 v,.bool l,.string d] t)).heap.size (w.alloc (.cells #[.int .i64 k,.int .i64 c,.int .i64 n,.int .i64 e,.int .i64 s,.int .i64 o,.int .i64 v,.bool l,.string d] t)) w'):
  ∀j,j<7->(w'.alloc (.cells x b)).cell? ⟨w.heap.size,j,none⟩=some (.int .i64 ([k,c,n,e,s,o,v].getD j 0)):=by
 have f:=a.size;simp at f;intro j g;rw[aH _ _ (aA w.heap.size j) (by show w.heap.size<_;omega),(i5 a).1 _ _ (by simp)];revert j;apply Hv<;>simp
def M.ab(m:M):Value:=.agg #[.int .i64 m.k,.int .i64 m.c,.int .i64 m.n,.int .i64 m.e,.int .i64 m.s,.int .i64 m.o,.int .i64 m.v,.bool m.l,.string m.d]
def Dr(m:M)(w:A1)(hd:m.d.size<=1000):
  Calls prog 182 #[M.ab m] w λe q=>e=.returned (.bool (iC m))/\Below w.heap.size w q:=by
 let ⟨k,c,n,e,s,o,v,l,d⟩:=m
 unfold M.ab;dsimp only at *;by_cases b:m6 k 1 9=true
 .have ⟨r,t⟩:=Num.eY b;by_cases f:d.size<=20
  .have a:iC ⟨k,c,n,e,s,o,v,l,d⟩=[k,c,n,e,s,o,v].all ko:=by simp[iC,b,f,M.j]
   rw[a];go_enter func182,ntmps182;go_wp2_with (go_at_call 180;refine(sI).mono ?_;rintro e q⟨rfl,g⟩;let ⟨hc,x⟩:=i5 g)
   refine(Fd _ w.heap.size [k,c,n,e,s,o,v] _ rfl (P3 _) (P2 _ _ g)).mono ?_;rintro e w2⟨rfl,rfl⟩;go_wp2;go_ret;refine⟨by simp,?_⟩;have u:=g.size;simp at u;exact(((au _ _).alloc (aa _) _).trans (g.mono (by simp))).alloc (by omega) _
  .have a:iC ⟨k,c,n,e,s,o,v,l,d⟩=false:=by simp[iC,b,f]
   rw[a];go_enter func182,ntmps182;go_wp2_with fail
   go_ret;exact⟨rfl,(au _ _).alloc (aa _) _⟩
 .have a:iC ⟨k,c,n,e,s,o,v,l,d⟩=false:=by simp[iC,b]
  rw[a];have i:k<1\/9<k:=by
   by_cases h:k<1;exact .inl h;refine .inr ?_;rcases Int.lt_or_le 9 k with p|p
   exact p;exact absurd (Num.fX (by omega) p) b
  rcases i with h|h
  .go_enter func182,ntmps182;go_wp2_with fail
   go_ret;exact⟨rfl,(au _ _).alloc (aa _) _⟩
  .go_enter func182,ntmps182;go_wp2_with fail
   go_ret;exact⟨rfl,(au _ _).alloc (aa _) _⟩
end Wire
namespace Num
variable{l r:List Int}{i n:Nat}
def BP:List Int->Int
 | []=>0
 |x::xs=>x%128+128*BP xs
def Hn(x:Int):∀l:List Int,BP (l++[x])=BP l+x%128*128^l.length
 | []=>by simp[BP]
 |y::l=>by
  have h:=Hn x l;simp only[dB,BP,bT,h,Int.pow_succ];rw[Int.mul_add,Int.add_assoc];congr 2;rw[Zx (128^l.length) 128,<-pv,<-pv,Zx 128 (x%128)]
def Kz:∀l:List Int,0<=BP l/\BP l<128^l.length
 | []=>by simp[BP]
 |y::l=>by
  have h:=Kz l;simp only[BP,bT,Int.pow_succ];generalize (128:Int)^l.length=q at *;omega
def KA(f:Nat):∀n:Nat,n<=f->BP (nb n)=n:=by
 induction f with
 |zero=>intro n h;rw[ug (by omega)];simp[BP];omega
 |succ f b=>
  intro n h;by_cases a:n<128;rw[ug a];simp[BP];omega;rw[Di a,BP,b (n/128) (by omega)];omega
def wm(f:Nat):∀n:Nat,n<=f->∃a c,nb n=a++[c]/\(∀x∈a,128<=x)/\0<=c/\c<128:=by
 induction f with
 |zero=>intro n h;exact⟨[],n,by rw[ug (by omega)];rfl,by simp,by omega,by omega⟩
 |succ f e=>
  intro n h;by_cases d:n<128;exact⟨[],n,by rw[ug d];rfl,by simp,by omega,by omega⟩;obtain⟨a,c,g,i,j⟩:=e (n/128) (by omega);refine⟨((n%128+128:Nat):Int)::a,c,by rw[Di d,g];rfl,λx b=>?_,j⟩;rcases bN.1 b with rfl|b
  omega;exact i x b
def Fb(g:i<l.length)(k:l.getD i 0<128)(d:∀j,j<i->128<=l.getD j 0)(h:l=nb n++r):l.take (i+1)=nb n/\l.drop (i+1)=r:=by
 obtain⟨a,c,f,m,s,t⟩:=wm n n (aa _);rw[f]at h;have o:∀j,j<a.length->128<=l.getD j 0:=λj e=>by
  rw[h,aG,bQ,bn e,aB e];exact m _ (bA e)
 have hc:l.getD a.length 0=c:=by
  rw[h,aG,bQ,aQ (aa _)];simp
 have p:i=a.length:=by
  rcases FZ i a.length with b|b|b
  have:=o i b;omega;exact b;have:=d _ b;omega
 have q:i+1=(a++[c]).length:=by simp[p]
 rw[f,h,q];exact⟨List.take_left,List.drop_left⟩
def Hm(b:∀j,j<l.length->128<=l.getD j 0)(h:l=nb n++r):False:=by
 obtain⟨a,c,d,_,_,e⟩:=wm n n (aa _);rw[d]at h;have hc:l.getD a.length 0=c:=by
  rw[h,aG,bQ,aQ (aa _)];simp
 have:=b a.length (by rw[h];simp);omega
def aaZ{a b:Nat}{x y:List Int}(h:nb a++x=nb b++y):a=b/\x=y:=by
 obtain⟨d,c,f,o,r,p⟩:=wm a a (aa _);have i:∀j,j<d.length->128<=(nb a++x).getD j 0:=λj g=>by
  rw[f,aG,bQ,bn g,aB g];exact o _ (bA g)
 have hc:(nb a++x).getD d.length 0<128:=by
  rw[f,aG,bQ,aQ (aa _)];simpa using p
 have k:d.length<(nb a++x).length:=by rw[f];simp
 have l:=Fb (n:=a) k hc i rfl;have m:=Fb (n:=b) k hc i h;have e:= l.1.symm.trans m.1;have q:=bY BP e;rw[KA a a (aa _),KA b b (aa _)]at q;exact⟨by omega,l.2.symm.trans m.2⟩
def Ba(l:List Int)(x:Int)(rest:List Int):Prop:=∀(n:Nat) (r:List Int),n<=1099511627776->l=nb n++r->x=n/\rest=r
def Dh(l:List Int):Prop:=∀(n:Nat) (r:List Int),l≠nb n++r
def TO{x:Int}(e:i<l.length)(a:l.getD i 0<128)(b:∀j,j<i->128<=l.getD j 0)(f:i<=5->x=BP (l.take (i+1))):Ba l x (l.drop (i+1)):=by
 intro n r k h;have c:=Fb e a b h;refine⟨?_,c.2⟩;have d:(nb n).length<=6:=tA 5 n (by
                           have:(128:Nat)^(5+1)=4398046511104:=by decide
                           omega)
 have g:i<=5:=by
  have:=bY List.length c.1;rw[cu]at this;omega
 rw[f g,c.1,KA n n (aa _)]
def uh(l:List Int){k:Nat}(h:k<l.length):BP (l.take (k+1))=BP (l.take k)+l.getD k 0%128*128^k:=by
 rw[bF h,Hn,aG,aB h,cu];rw[show min k l.length=k by omega];rfl
end Num
namespace Wire
variable{y:Int}{k:Nat}
def pT(n:Int)(h0:0<=n)(a:n<2^63):IntKind.i64.wrap n=n:=by
 rw[IntKind.wrap_i64];omega
def Uo(a:k<=5):(128:Int)^k<=34359738368/\(0:Int)<128^k:=by
 match k,a with
 |0,_=>decide
 |1,_=>decide
 |2,_=>decide
 |3,_=>decide
 |4,_=>decide
 |5,_=>decide
def Fe(k:Nat):(2:Int)^(7*k)=128^k:=by rw[Int.pow_mul];rfl
def M6(a:k<=5)(b:0<=y)(c:y<128):0<=y*128^k/\y*128^k<2^63:=by
 let ⟨d,e⟩:=Uo a
 generalize (128:Int)^k=q at *;have h:y*q<=127*34359738368:=Rj (by omega) d (by omega) (by omega);exact⟨rI b (by omega),by omega⟩
def X8(P:Bo)(y:Int)(k:Nat)(c:0<=y)(a:y<128):∃z:Int,(∀w,(Op.shift .shl .i64 y .i64 (7*(k:Int))).run P w=.ok (iI z) w)/\(k<=5->z=y*128^k):=by
 refine⟨IntKind.i64.wrap (y*2^min (7*(k:Int)).toNat IntKind.i64.bits),λw=>?_,λd=>?_⟩;have h:¬(7*(k:Int)<0):=by omega
 simp only[Op.shift,ax h,Sem.run_pure];have e:min (7*(k:Int)).toNat IntKind.i64.bits=7*k:=by
  show min (7*(k:Int)).toNat 64=7*k;omega
 have b:=M6 d c a;rw[e,Fe];exact pT _ b.1 b.2
def Un{x z:Int}(d:k<=5)(a:0<=x/\x<128^k)(f:0<=y)(b:y<128)(g:z=y*128^k):bits .or .i64 x z=x+y*128^k:=by
 subst g;have e:=M6 d f b;have c:x<2^63:=by
  have h:=a.2;have i:=(Uo d).1;generalize (128:Int)^k=q at *;omega
 exact bits_join_low .i64 63 (by decide) pT (7*k) x (y*128^k) a.1 (by rw[Fe];exact a.2) c e.1 (by rw[Fe];exact Int.mul_emod_left _ _) e.2
end Wire
open Num (BP Ba Dh)
namespace Wire
variable{d:Bh}{x n:Int}{l:List Int}{m:M}{b off B:Nat}{t:Bi}{w:A1}
def sH(w:World)(B:Nat)(v:Value)(l:List Int):Prop:=
 ∃ao c,v=.slice ao l.length c/\l.length<=c/\c<=9223372036854775807/\(∀x∈l,0<=x/\x<256) /\
  (0<l.length->∃b off,ao=some ⟨b,off,none⟩/\b<B/\∀j,j<l.length->w.cell? ⟨b,off+j,none⟩=some (.int .u8 (l.getD j 0)))
def aeA(w:World)(b:Nat)(l:List Int)(x:Int)(v:Value):Prop:=
 ∃rest ao c,v=.slice ao rest.length c/\rest.length<=l.length/\Ba l x rest/\rest.length<=c/\c<=9223372036854775807/\(∀x∈rest,0<=x/\x<256) /\
  (0<rest.length->∃off,ao=some ⟨b,off,none⟩/\∀j,j<rest.length->w.cell? ⟨b,off+j,none⟩=some (.int .u8 (rest.getD j 0)))
def X2{k:Nat}{y z:Int}(a:k<l.length)(c:y<128)(d:∀x∈l,0<=x/\x<256)(e:l.getD k 0=y)(m:k<=6->x=BP (l.take k))(n:∀j,j<k->128<=l.getD j 0)(o:∀j,j<l.length->cC w (aA b (off+j)) (.int .u8 (l.getD j 0)))(p:k<=5->z=y%128*128^k)(f:0<=y)(g:y<256):
  Ba l (bits .or .i64 x z) (l.drop (k+1))/\(∀x∈l.drop (k+1),0<=x/\x<256)/\∀j,j<(l.drop (k+1)).length->w.cell? (aA b (off+(k+1)+j))=some (.int .u8 ((l.drop (k+1)).getD j 0)):=by
 refine⟨Num.TO a (by rw[e];exact c) n (λq=>?_),λx r=>d x (py r),λj s=>?_⟩;have i:=Num.Kz (l.take k);rw[cu,show min k l.length=k by omega]at i;rw[Num.uh l a,e,m (by omega)];exact Un (by omega) i (by omega) (by omega) (p q);rw[cK]at s;have h:=o (k+1+j) (by omega);rw[<-iZ]at h;rw[h];simp
def Uh{c:Nat}(O:0<l.length)(B:l.length<=300)(J:l.length<=c)(K:c<=9223372036854775807)(g:∀x∈l,0<=x/\x<256)(a:∀j,j<l.length->cC w (aA b (off+j)) (.int .u8 (l.getD j 0))):
  Calls prog 181 #[.slice (some (aA b off)) l.length c] w λe L=>Below w.heap.size w L /\
   (
    (e=.returned (.tuple #[iI 0,.slice none 0 0,.bool false])/\Dh l) \/
    (∃x C,e=.returned (.tuple #[iI x,C,.bool true])/\aeA w b l x C)):=by
 go_enter func181,ntmps181;go_wp2;go_loop [2,9] (λn i=>∃(k:Nat) (x:Int),k<=l.length/\i=iI k/\n=iI x/\(k<=6->x=BP (l.take k))/\∀j,j<k->128<=l.getD j 0) (λ_ i=>l.length-(intOf i).toNat)
 case atStart=>exact⟨0,0,by omega,rfl,rfl,λ_=>rfl,λj D=>by omega⟩
 case round=>
  obtain⟨k,x,P,rfl,rfl,E,f⟩:=hrel;by_cases d:k<l.length
  .have s:=a k d;let ⟨y,p⟩:∃y,l.getD k 0=y:=⟨_,rfl⟩
   have t:0<=y/\y<256:=by
    rw[<-p,aG,aB d];exact g _ (bA _)
   rw[p]at s;have u:Hid (l.getD k 0=y):=p;have G:Hid (k<=6->x=BP (l.take k)):=E;have q:Hid (∀j,j<k->128<=l.getD j 0):=f;have M:Hid (∀j,j<l.length->cC w (aA b (off+j)) (.int .u8 (l.getD j 0))):=a;clear p E f a;obtain⟨v,A⟩:=t;obtain⟨z,Q,m⟩:=X8 prog (y%128) k (by omega) (by omega);have H:Hid (k<=5->z=y%128*128^k):=m;clear m;by_cases o:y<128
   .go_wp2_with fail
    go_region;all_goals go_wp2
    all_goals go_ret3
    all_goals
     have F:=X2 d o g u.out G.out q.out M.out H.out v A;refine⟨(au _ _).drew,.inr ⟨_,_,rfl,l.drop (k+1),_,_,by rw[cK];rfl,by rw[cK];omega,F.1,by rw[cK];omega,by omega,F.2.1,λN=>?_⟩⟩;first|exact⟨off+(k+1),rfl,F.2.2⟩|exact absurd N (by rw[cK];omega)
   .go_wp2_with fail
    go_round
    case rel=>
     refine⟨k+1,bits .or .i64 x z,by omega,by go_num,rfl,λR=>?_,λj D=>?_⟩;have I:=Num.Kz (l.take k);rw[cu,show min k l.length=k by omega]at I;rw[Num.uh l d,u.out,G.out (by omega)];exact Un (by omega) I (by omega) (by omega) (H.out (by omega));rcases cz j k with h|h
     exact q.out j h;obtain rfl:j=k:=by omega
     rw[u.out];omega
    case measure=>simp[intOf];omega
  .have q:Hid (Dh l):=λn r h=>Num.Hm (λj D=>f j (by omega)) h;go_wp2_with fail
   go_ret3;exact⟨au _ _,.inl ⟨rfl,q.out⟩⟩
def X0{xs:List Int}{v:Bg}(d:ko x=true)(f:xs.length<=1000)(g:B<=w.heap.size)(a:uJ w B v xs):
  Calls prog 183 #[v,.int .i64 x] w λe b=>∃c,e=.returned c/\uJ b B c (xs++nb x.toNat)/\Below B w b:=by
 have h:=Num.eY d;obtain⟨n,rfl⟩:=vl h.1;exact XZ n (by omega) f g a
def uJ.I{B':Nat}{v:Bg}(h:uJ w B v l)(e:B'<=B):uJ w B' v l:=by
 refine⟨h.1,?_⟩;rcases h.2 with h|⟨g,a,b,c,f,d⟩
 exact .inl h;exact .inr ⟨g,a,b,c,by omega,d⟩
def Dp(b:Nat):∀k:Nat,k<7->∀w,(Instr.index 275 (.agg (Uq b)) (.int .i64 (k:Int))).run prog w=.ok (.pointer (some ⟨b,k,none⟩)) w:=by
 apply Hv<;>(intro w;kernel_rfl)
def PY(ns:List Int)(k:Nat)(h:k<ns.length):jk (ns.take (k+1))=jk (ns.take k)++nb (ns.getD k 0).toNat:=by
 rw[bF h,Num.PB,aG,aB h];rfl
def Uc{ns:List Int}(h:ns.all ko=true)(k:Nat):(ns.take k).all ko=true:=by
 rw[dh]at h⊢;exactλx a=>h x (List.mem_of_mem_take a)
def M7(w:A1){x y:Bg}:∀j u,[x,y][j]?=some u->(w.alloc (.cells #[x,y] t)).cell? ((⟨w.heap.size,0,none⟩:Addr).add j)=some u:=by
 intro j u a;match j,a with
 |0,a=>simp at a;subst a;simp[Addr.add]
 |1,a=>simp at a;subst a;simp[Addr.add]
 |n+2,a=>simp at a
def Hw{k:IntKind}{m:Int}:∀u∈[Value.int k m,Value.int k n],u.oneCell'=true:=by intro u a;simp at a;rcases a with rfl|rfl<;>rfl
def M4(w:A1)(hd:m.d.size<=1000)(f:iC m=false):
  Calls prog 129 #[M.ab m] w λe b=>e=.returned (.tuple #[.slice none 0 0,.iface 59 (.int .i64 1)])/\Below w.heap.size w b:=by
 have g :Hid _:= f;have a:=λw=>Dr m w hd;rw[g.out]at a;obtain⟨k,c,n,e,s,o,v,l,d⟩:=m;unfold M.ab at *;dsimp only at *;go_enter func129,ntmps129;go_wp2_with (go_at_call 182;refine(a _).mono ?_;rintro e b⟨rfl,h⟩)
 go_ret2;exact⟨rfl,((au _ _).alloc (aa _) _).trans (h.mono (by simp))⟩
def PZ{w1 w2:A1}{k c e s o v:Int}{l:Bool}(a:Below (w.alloc (.cells #[.int .i64 k,.int .i64 c,.int .i64 n,.int .i64 e,.int .i64 s,.int .i64 o,.int .i64 v,.bool l,.string d] t)).heap.size (w.alloc (.cells #[.int .i64 k,.int .i64 c,.int .i64 n,.int .i64 e,.int .i64 s,.int .i64 o,.int .i64 v,.bool l,.string d] t)) w1)(b:Below w1.heap.size w1 w2):
  (∀j,j<7->w2.cell? ⟨w.heap.size,j,none⟩=some (.int .i64 ([k,c,n,e,s,o,v].getD j 0)))/\w2.cell? ⟨w.heap.size,7,none⟩=some (.bool l)/\w2.cell? ⟨w.heap.size,8,none⟩=some (.string d)/\w.heap.size<w2.heap.size/\Below w.heap.size w w2:=by
 have f:=a.size;simp at f;have g:=b.size;have hc:∀j,w2.cell? (aA w.heap.size j)=(w.alloc (.cells #[iI k,iI c,iI n,iI e,iI s,iI o,iI v,.bool l,.string d] t)).cell? (aA w.heap.size j):=by
  intro j;rw[(i5 b).1 _ _ (by omega),(i5 a).1 _ _ (by simp)]
 refine⟨?_,by rw[hc];simp,by rw[hc];simp,by omega,(((au _ _).alloc (aa _) _).trans (a.mono (by simp))).trans (b.mono (by omega))⟩;intro j h;rw[hc];revert j;apply Hv<;>simp
def uJ.j{v:Bg}(h:w.ownsRow B 5 1 v (l.length+d.size) (l.map (Value.int .u8)++Lib.strCells d)):uJ w B v (l++gy d):=by
 unfold uJ;rw[aM,Num.dL,dQ];have e:(gy d).map (Value.int .u8)=Lib.strCells d:=by unfold Num.gy Lib.strCells;rw[lK];rfl
 rw[e];exact h
def Uj(w:A1)(hd:m.d.size<=1000)(U:iC m=true):
  Calls prog 129 #[M.ab m] w λe w'=>∃v',e=.returned (.tuple #[v',.nilIface])/\uJ w' w.heap.size v' m.h/\Below w.heap.size w w':=by
 obtain⟨i0,hi,B,C,D⟩:=dw Dq;have V:=λw=>Dr m w hd;rw[U]at V;have bO:m.d.size<=20:=by simp[iC]at U;exact U.1.2
 have W:m.j.all ko=true:=by simp only[iC,bh]at U;exact U.2
 obtain⟨k,c,n,e,s,o,v,l,d⟩:=m;unfold M.ab at *;dsimp only at *;obtain⟨ns,E⟩:∃ns,ns=[k,c,n,e,s,o,v]:=⟨_,rfl⟩;have F:M.h ⟨k,c,n,e,s,o,v,l,d⟩=jk ns++[m8 l,(d.size:Int)]++gy d:=by rw[E];rfl
 rw[F];have q:ns.all ko=true:=by rw[E];exact W
 have bK:ns.length=7:=by rw[E];rfl
 go_enter func129,ntmps129;go_wp2_with (first|(go_at_call 182;refine(V _).mono ?_;rintro e w1⟨rfl,aI⟩)|(go_at_call 180;refine(sI).mono ?_;rintro e w2⟨rfl,aS⟩))
 let ⟨r,G,b,t,X⟩:=PZ aI aS
 rw[<-E]at r;have Y:=Dp w.heap.size;go_loopw [4,13] (λv i wr=>∃j:Nat,j<=7/\i=iI j/\uJ wr w2.heap.size v (jk (ns.take j))/\Below w2.heap.size w2 wr) (λ_ i _=>7-(intOf i).toNat)
 case atStart=>exact⟨0,by omega,rfl,by simpa[jk] using uJ.O,au _ _⟩
 case round=>
  obtain⟨j,hj,rfl,a,f⟩:=hrel;have K:=f.size;have a0:=Num.nZ _ (Uc q j);have L:(jk (ns.take j)).length<=42:=by have:=a0.1;rw[cu]at this;omega
  by_cases Z:j<7
  .have bR:=Y j Z;have a1:= ((i5 f).1 _ _ t).trans (r j Z);have ad:ko (ns.getD j 0)=true:=by
    rw[aG,aB (by omega)];exact dh.1 q _ (bA _)
   have HT :Hid _:= PY ns j (by omega);obtain⟨x,hx⟩:∃x,ns.getD j 0=x:=⟨_,rfl⟩;obtain⟨u,J⟩:∃u,jk (ns.take j)=u:=⟨_,rfl⟩;rw[hx]at a1 ad HT;rw[J]at a L HT;go_wp2_with (go_at_call 183;refine(X0 ad (by omega) K a).mono ?_;rintro e w3⟨v3,rfl,ba,bc⟩)
   go_roundw
   case rel=>exact⟨j+1,by omega,by go_num,by rw[HT.out];exact ba,f.trans bc⟩
   case measure=>simp[intOf];omega
  .obtain rfl:j=7:=by omega
   have hT:ns.take 7=ns:=iT (by omega);rw[hT]at a L;have b1:= ((i5 f).1 _ _ t).trans G;have b2:= ((i5 f).1 _ _ t).trans b;obtain⟨u,J⟩:∃u,jk ns=u:=⟨_,rfl⟩;rw[J]at a L;have HZ :Hid _:= J;cases l with
   |true=>
    go_wp2_with (at_builtin;refine fC _ rfl _ _ 61 rfl w2.heap.size 5 i0 (.int .u8 0) 1 1 underlying61 hi B C D rfl (by decide) _ _ _ rfl (a.e) (aA wr.heap.size 0) 2 2 [.int .u8 1,.int .u8 (d.size:Int)] rfl rfl (M7 _) (Hw) ?atrue ?btrue ?ctrue ?_)
    case atrue=>unfold maxLen;omega
    case btrue=>omega
    case ctrue=>simp;omega
    intro v4 w4 g N _;have R:=a.H (news:=[1,(d.size:Int)]) f K rfl g N;let ⟨P,Q⟩:=R
    have y:(u++[1,(d.size:Int)]).length<=44:=by rw[aM];simp;omega
    obtain⟨ys,z⟩:∃ys,u++[1,(d.size:Int)]=ys:=⟨_,rfl⟩;rw[z]at P y;have S :Hid _:= z;have A:=Q.size;have bg:= ((i5 Q).1 _ _ t).trans b;go_wp2_with (at_builtin;refine Lib.wpList_append_own_string _ rfl _ _ 61 9 rfl w2.heap.size 5 i0 underlying61 underlying9 hi B C D _ _ _ rfl P.h d rfl ?dtrue ?etrue ?ftrue ?_)
    case dtrue=>unfold maxLen;omega
    case etrue=>omega
    case ftrue=>omega
    intro v5 w5 p T _;have R3:=uJ.j p;have R4:=Q.grown T A (λk hk=>(P.h.lt k hk).1);go_wp2;go_ret2;refine⟨_,rfl,?_,X.trans (R4.mono (by omega))⟩;rw[HZ.out];show uJ w5 _ v5 (u++[1,(d.size:Int)]++gy d);rw[S.out];exact R3.I (by omega)
   |false=>
    go_wp2_with (at_builtin;refine fC _ rfl _ _ 61 rfl w2.heap.size 5 i0 (.int .u8 0) 1 1 underlying61 hi B C D rfl (by decide) _ _ _ rfl (a.e) (aA wr.heap.size 0) 2 2 [.int .u8 0,.int .u8 (d.size:Int)] rfl rfl (M7 _) (Hw) ?afalse ?bfalse ?cfalse ?_)
    case afalse=>unfold maxLen;omega
    case bfalse=>omega
    case cfalse=>simp;omega
    intro v4 w4 g N _;have R:=a.H (news:=[0,(d.size:Int)]) f K rfl g N;obtain⟨P,Q⟩:=R;have y:(u++[0,(d.size:Int)]).length<=44:=by rw[aM];simp;omega
    obtain⟨ys,z⟩:∃ys,u++[0,(d.size:Int)]=ys:=⟨_,rfl⟩;rw[z]at P y;have S :Hid _:= z;have A:=Q.size;have bg:= ((i5 Q).1 _ _ t).trans b;go_wp2_with (at_builtin;refine Lib.wpList_append_own_string _ rfl _ _ 61 9 rfl w2.heap.size 5 i0 underlying61 underlying9 hi B C D _ _ _ rfl P.h d rfl ?dfalse ?efalse ?ffalse ?_)
    case dfalse=>unfold maxLen;omega
    case efalse=>omega
    case ffalse=>omega
    intro v5 w5 p T _;have R3:=uJ.j p;have R4:=Q.grown T A (λk hk=>(P.h.lt k hk).1);go_wp2;go_ret2;refine⟨_,rfl,?_,X.trans (R4.mono (by omega))⟩;rw[HZ.out];show uJ w5 _ v5 (u++[0,(d.size:Int)]++gy d);rw[S.out];exact R3.I (by omega)
end Wire
namespace Num
variable{l ns rest:List Int}
def dD(l:List Int):ByteArray:=l.foldl (λr n=>r.push (UInt8.ofNat n.toNat)) ByteArray.empty
def Bc:∀(l:List Int) (r:Bh),l.foldl (λr n=>r.push (UInt8.ofNat n.toNat)) r=⟨r.data++(l.map λn=>UInt8.ofNat n.toNat).toArray⟩
 | [],r=>by simp
 |x::l,r=>by
  rw[gQ,Bc l];simp[ByteArray.push]
def Bb(l:List Int):dD l=⟨(l.map λn=>UInt8.ofNat n.toNat).toArray⟩:=by
 unfold dD;rw[Bc];have e:ByteArray.empty.data=#[]:=rfl;rw[e,rF]
def Ky(l:List Int):(dD l).size=l.length:=by
 rw[Bb];simp[ByteArray.size]
def uI(h:∀x∈l,0<=x/\x<256):gy (dD l)=l:=by
 rw[Bb];unfold gy;rw[lK];conv=>rhs;rw[<-List.map_id l]
 apply gL;intro x a;have:=h x a;simp only[Function.comp,id];rw[UInt8.toNat_ofNat'];omega
def qM(d:Bh):dD (gy d)=d:=by
 rw[Bb];unfold gy;rw[lK];have e:(d.data.toList.map ((λn:Int=>UInt8.ofNat n.toNat)∘λb=>((b.toNat:Nat):Int)))=d.data.toList:=by
  conv=>rhs;rw[<-List.map_id d.data.toList]
  apply gL;intro b _;simp
 rw[e]
def PE{a b:List Int}(c:∀x∈a,0<=x/\x<256)(d:∀x∈b,0<=x/\x<256)(h:dD a=dD b):a=b:=by
 rw[<-uI c,<-uI d,h]
def M.I(m:M):List Int:=[m8 m.l,(m.d.size:Int)]++gy m.d
variable{m:M}
def M.H(m:M):m.h=jk m.j++m.I:=by simp[M.h,M.I]
def uH(h:iC m=true):∀x∈m.h,0<=x/\x<256:=by
 simp only[iC,bh,fv]at h;intro x a;rw[M.H,bq]at a;rcases a with a|a
 exact(nZ _ h.2).2 x a;simp only[M.I,dB,cH,bN]at a;rcases a with rfl|rfl|a
 unfold m8;split<;>omega;omega;exact xx x a
def rp(l:List Int):Prop:=∀m:M,iC m=true->l≠m.h
def Hk(l:List Int)(m:M):Prop:=m.d.size<=l.length/\∀a:M,iC a=true->l=a.h->m=a
def PA(l:List Int)(j:Nat)(ns rest:List Int):Prop:=∀a:M,iC a=true->l=a.h->ns=a.j.take j/\rest=jk (a.j.drop j)++a.I
def PA.start(l:List Int):PA l 0 [] l:=λa _ h=>⟨rfl,h.trans a.H⟩
def xw(ns:List Int){j:Nat}(h:j<ns.length):jk (ns.drop j)=nb (ns.getD j 0).toNat++jk (ns.drop (j+1)):=by
 rw[VG h,aG,aB h];unfold jk;rw[List.flatMap_cons];rfl
def M0(h:iC m=true){j:Nat}(a:j<7):ko (m.j.getD j 0)=true:=by
 simp only[iC,bh]at h;have b:m.j.length=7:=rfl;rw[aG,aB (by omega)];exact dh.1 h.2 _ (bA _)
def PA.H{a:List Int}{j:Nat}{x:Int}(h:PA l j ns rest)(g:j<7)(hc:Ba rest x a):PA l (j+1) (ns++[x]) a:=by
 intro d b i;let ⟨k,e⟩:=h d b i
 have f:d.j.length=7:=rfl;have c:=eY (M0 b g);rw[xw _ (by omega),bQ]at e;let ⟨m,n⟩:=hc _ _ (by omega) e
 refine⟨?_,n⟩;rw[k,bF (by omega),m];rw[aG,aB (by omega)]at c⊢;simp only[bP]at c⊢;rw[lS c.1]
def PA.I{j:Nat}(h:PA l j ns rest)(f:j<7)(hc:Dh rest):rp l:=by
 intro b a e;let ⟨_,c⟩:=h b a e
 have d:b.j.length=7:=rfl;rw[xw _ (by omega),bQ]at c;exact hc _ _ c
def PA.h(h:PA l 7 ns rest)(hs:rest.length<2):rp l:=by
 intro b a c;let ⟨_,d⟩:=h b a c
 have:=bY List.length d;simp[M.I]at this;omega
def PA.e(h:PA l 7 ns rest)(hs:(rest.length:Int)-2≠rest.getD 1 0):rp l:=by
 intro b a d;let ⟨_,c⟩:=h b a d
 have f:jk (b.j.drop 7)=[]:=rfl;rw[f,cH]at c;apply hs;rw[c];simp[M.I,dL];omega
def PA.j{k c n e s o v:Int}(h:PA l 7 [k,c,n,e,s,o,v] rest)(x:rest.length<=l.length):
  Hk l ⟨k,c,n,e,s,o,v,rest.getD 0 0==1,dD (rest.drop 2)⟩:=by
 refine⟨?_,λa b p=>?_⟩;show (dD (rest.drop 2)).size<=l.length;rw[Ky,cK];omega;let ⟨f,g⟩:=h a b p
 have i:jk (a.j.drop 7)=[]:=rfl;rw[i,cH]at g;have q:a.j.take 7=[a.k,a.c,a.n,a.e,a.s,a.o,a.v]:=rfl;rw[q]at f;simp only[gP,mh]at f;let ⟨r,t,r3,r4,r5,u,w⟩:=f
 have m:(rest.getD 0 0==1)=a.l:=by
  rw[g];simp only[M.I,m8];cases a.l<;>rfl
 have hd:dD (rest.drop 2)=a.d:=by
  rw[g];show dD (gy a.d)=a.d;exact qM _
 rw[m,hd,r,t,r3,r4,r5,u,w]
end Num
open Num (dD)
namespace Wire
variable{w:A1}
def lY(a:Addr)(l:List Int)(cap:Nat)(h:∀j v,(l.map (Value.int .u8))[j]?=some v->w.cell? (a.add j)=some v):
  (convert 61 9 (.slice (some a) l.length cap)).run prog w=.ok (.string (dD l)) w:=by
 rw[run_convert_bytes_string w 61 9 5 (some a) l.length cap underlying61 underlying5 underlying9];have b:=run_loadCells_list (P:=prog) (w:=w) a (l.map (Value.int .u8)) h;rw[bH]at b;exact run_bytesToString w a l.length cap l b
def Ht{cap:Nat}:(convert 61 9 (.slice none 0 cap)).run prog w=.ok (.string (dD [])) w:=by
 rw[run_convert_bytes_string w 61 9 5 none 0 cap underlying61 underlying5 underlying9];rfl
def Uf{B:Nat}{v:Bg}{l:List Int}(h:uJ w B v l):(convert 61 9 v).run prog w=.ok (.string (dD l)) w:=by
 have hc:=@FS w B 5 1 v l.length (l.map (Value.int .u8)) h;rcases h.2 with⟨rfl,h0⟩|⟨g,a,b,rfl,_⟩
 have:= dG h0;subst this;exact Ht;exact lY _ l a (hc rfl)
end Wire
end Go.Proofs.YtbebfliimjjohabGreatDoor
