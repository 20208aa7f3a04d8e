/- Parts of the proof. -/
import Derived.Test.YtbebfliimjjohabGreatDoorM22
set_option maxRecDepth 100000
set_option maxHeartbeats 8000000
set_option linter.all false
open Go.Proofs.Tryz
namespace Go.Proofs.YtbebfliimjjohabGreatDoor
open Go.RowKit Go.Maps
open Wire (uJ i5)
open Lease (Ob gv gV de cP mx bX eE m5 yL gv.e lD mf nY)
open Cache (cq E tp kp fq lP qm)
open Num (M m6 gy)
namespace Net
variable{s:Bh}{k:Int}{ps:List (Int×Bh)}{n B sz i:Nat}{o1 o2:Obj}{x:Bg}{w w1:A1}
def kF(k:Int)(n:Nat):Bool:=decide (0<=k/\k<(n:Int))
def xu(h0:0<=k)(a:k<(n:Int)):kF k n=true:=by simp[kF,h0,a]
def TG(h0:k<0):kF k n=false:=by simp[kF];omega
def Py(h0:(n:Int)<=k):kF k n=false:=by simp[kF];omega
def cZ{e:Bi}{s:Nat}{v:Bg}{xs:List Bg}(h:w.ownsRow B e s v n xs):∃ao c,v=.slice ao n c/\n<=c/\(ao=none->n=0/\c=0):=by
 rcases h.2 with⟨rfl,rfl⟩|⟨g,a,b,rfl,_,_,d,_⟩
 exact⟨none,0,rfl,aa _,λ_=>⟨rfl,rfl⟩⟩;exact⟨_,a,rfl,d,λh=>by cases h⟩
def ze{q:Nat}{ao:Option Addr}{c:Nat}(k:Int)(b:n<=200)(hc:cC w (aA q 12405) (.slice ao n c)):
  Calls prog 126 #[.pointer (some (aA q 12405)),iI k] w λe d=>e=.returned (.bool (kF k n))/\d=w:=by
 by_cases h0:0<=k
 .by_cases a:k<(n:Int)
  .rw[xu h0 a];go_enter func126,ntmps126;go_wp2;go_ret;exact⟨rfl,rfl⟩
  .rw[Py (by omega)];have f:= aK a;go_enter func126,ntmps126;go_wp2;go_ret;exact⟨rfl,rfl⟩
 .rw[TG (by omega)];have f:= aK h0;go_enter func126,ntmps126;go_wp2;go_ret;exact⟨rfl,rfl⟩
def TD{q:Nat}{tz:Int}(h:fm w B q ps)(j:ps.length=200):
  Calls prog 133 #[.pointer (some (aA q 12405)),.agg #[iI tz,.string s]] w λe k=>e=.returned (.tuple #[])/\fm k B q ps/\ik B 201 q w k:=by
 obtain⟨⟨v,l,b⟩,⟨m,d⟩,f,g,n,_⟩:=h;obtain⟨ao,c,rfl,o,_⟩:=cZ b;have p:=f 12406;rw[j]at l b;have r:q<w.heap.size:=by omega
 go_enter func133,ntmps133;go_wp2_with fail
 refine bz (v:=.tuple #[]) (by simp[results,results133]) rfl ⟨rfl,?_,((ik.O).H (by omega) (by omega)).e⟩;refine⟨⟨.slice ao 200 c,?_,?_⟩,?_,λi=>?_,g,by simp;omega,by omega⟩;rw[aH _ _ (aA q 12405) (by simp;omega),ak _ _ _ _ (by simp),l];rw[j];exact(iB b (a:=(aA q 12406)) g _).alloc _;exact⟨_,(aH _ _ (aA q 12406) (by simp;omega)).trans (ay _ _ _ d)⟩;rw[dq _ _ _ (by simp;omega)];simpa using f i
def TJ(w:A1){y:Bg}{o:Obj}:∀j u,[x,y][j]?=some u->((w.alloc o).alloc (.cells #[x,y] 201)).drew.cell? (((aA (w.heap.size+1) 0):Addr).add j)=some u:=by
 intro j u a;match j,a with
 |0,a=>simp at a;subst a;simp[Addr.add]
 |1,a=>simp at a;subst a;simp[Addr.add]
 |n+2,a=>simp at a
def TK{tz:Int}:∀u∈[Value.int .i64 tz,Value.string s],u.oneCell'=true:=by intro u a;simp at a;rcases a with rfl|rfl<;>rfl
def De{q:Nat}{e:Bi}{v:Bg}{xs:List Bg}(a:w.ownsRow B e sz v n xs)(b:((w.alloc o1).alloc o2).drew.grownBy w1 v.ownBlock)(c:q<w.heap.size)(d:q<B):w1.heap[q]?=w.heap[q]?:=by
 rw[b.block q (by simp;omega) (λh=>by have:=(a.lt q h.symm).1;omega)];show ((w.alloc o1).alloc o2).heap[q]?=_;rw[fJ _ _ _ (by simp;omega),fJ _ _ _ c]
def Hf{q:Nat}{e:Bi}{v:Bg}{xs:List Bg}(a:w.ownsRow B e sz v n xs)(b:((w.alloc o1).alloc o2).drew.grownBy w1 v.ownBlock)(c:q<w.heap.size)(d:q<B)(hc:cC w (aA q i) x):cC w1 (aA q i) x:=
 (aj (De a b c d)).trans hc
def Hg{q:Nat}{e:Bi}{v:Bg}{xs:List Bg}(a:w.ownsRow B e sz v n xs)(b:((w.alloc o1).alloc o2).drew.grownBy w1 v.ownBlock)(c:q<w.heap.size)(d:q<B)(hc:w.frozen? (aA q i)=false):w1.frozen? (aA q i)=false:=
 (aJ (De a b c d)).trans hc
def XJ{q:Nat}{tz:Int}{v d u:Bg}(h:w.ownsRow B 201 2 v ps.length (cF ps))(m:w1.ownsRow B 201 2 d (ps.length+1) (cF ps++[iI tz,.string s]))(f:((w.alloc o1).alloc o2).drew.grownBy w1 v.ownBlock)(l:q<w.heap.size)(g:q<B)(n:B<=w.heap.size){b:Int}(c:cC w (aA q 12406) (iI b))(j:∀i,w.frozen? (aA q i)=false)(hc:cC w1 (aA q 12405) u)(r:ps.length<200):
  fm (w1.setCell (aA q 12405) d) B q (ps++[(tz,s)])/\ik B 201 q w (w1.setCell (aA q 12405) d):=by
 have k:=f.size;simp at k;refine⟨⟨⟨d,ay _ _ _ hc,?_⟩,?_,λi=>?_,g,by simp;omega,by simp;omega⟩,?_⟩;rw[aM,Hh];exact iB m (a:=(aA q 12405)) g _;exact⟨b,(ak _ _ _ _ (by simp)).trans (Hf h f l g c)⟩;simpa using Hg h f l g (j i);have p:= (h.alloc o1).alloc o2;exact ik.H (ik.ab ((((ik.O).e (o:=o1)).e (o:=o2)).ac) p f) (by omega) (by omega)
def TE{q:Nat}{tz:Int}(h:fm w B q ps)(x:ps.length<200):
  Calls prog 133 #[.pointer (some (aA q 12405)),.agg #[iI tz,.string s]] w λe t=>e=.returned (.tuple #[])/\fm t B q (ps++[(tz,s)])/\ik B 201 q w t:=by
 let ⟨⟨v,y,b⟩,⟨u,f⟩,j,g,l,_⟩:=h
 obtain⟨ao,c,rfl,z,_⟩:=cZ b;have i:q<w.heap.size:=by omega
 let ⟨A,C,m,n,o⟩:=dw yh
 have a:=b;have D:∀o1 o2,B<=((w.alloc o1).alloc o2).drew.heap.size:=λo1 o2=>by simp;omega
 go_enter func133,ntmps133;go_wp2_with fail
 go_region_law (refine Wire.Us rfl (wp_append_own _ (.tmp 21) (.tmp 23) 75 rfl B 201 A (.agg #[iI 0,.string ⟨#[]⟩]) 2 24 underlying75 C m n o rfl (by decide) _ _ _ (by simp[Act.eval]) ((b.alloc _).alloc _) (aA (w.heap.size+1) 0) 1 1 [iI tz,.string s] (by simp[Act.eval]) rfl (TJ _) (TK) (by unfold maxLen;omega) (by omega) (D _ _) ?_);intro G w1 d p _;have r:= Hf a p i g y;have E:= Hg a p i g (j 12405);let ⟨F,c1,k,_,_⟩:=cZ d;rw[k]at d;rw[k]);all_goals
  go_wp2;go_end0;exact⟨rfl,(XJ a d p i g l f j r x)⟩
end Net
namespace Wld
variable{ml:Bool}{d md:Bh}{now mc mn me ms mo mv:Int}{l:List M}{m c:Nat}{o:Obj}{w:A1}
def iy.I{w1:A1}{B:Nat}{b:Bg}{m:M}(a:w1.ownsRow B 129 9 b (l.length+1) (dK l++f8 m)):iy w1 B b (l++[m]):=by
 unfold iy;rw[aM,IU];exact a
def bt.ao{w2:A1}{k:K}{row:Option Nat}(h:bt w c m k)(a:(w.alloc o).grownBy w2 row)(hc:row≠some c)(d:row≠some m):bt w2 c m k:=by
 have b:=h.H;exact h.j ((a.block c (by simp;omega) (λe=>hc e.symm)).trans (fJ w o c b.1)) ((a.block m (by simp;omega) (λe=>d e.symm)).trans (fJ w o m b.2))
def Ob.ac{bs:List Nat}{a b c:A1}{row:Option Nat}(h:Ob bs a b)(f:(b.alloc o).grownBy c row)(l:∀g,row=some g->a.heap.size<=g):Ob bs a c:=by
 have d:=h.h o;exact⟨f.os.trans d.s,f.tape.trans d.p,f.output.trans d.o,aP d.i f.size,λk j m=>by
  rw[f.block k (aO j d.i) (λe=>by have:=l k e.symm;omega)];exact d.b k j m⟩
def ox(w:A1)(m:M):∀j u,(f8 m)[j]?=some u->(w.alloc (.cells #[iI m.k,iI m.c,iI m.n,iI m.e,iI m.s,iI m.o,iI m.v,.bool m.l,.string m.d] 129)).cell? (((aA w.heap.size 0):Addr).add j)=some u:=by
 intro j u a;rw[Addr.add_mid,b9,bS _ _ _ _ _ _ (bw w _),<-a];exact bo
def K.a6(k:K):Value:=.agg #[.int .i64 k.gY,.int .i64 k.io,.string k.d,.int .i64 k.zk,.bool k.gW,.bool k.H0]
def UE{k:K}(h:bt w c m k):
  Calls prog 140 #[tp c] w λe a=>e=.returned k.a6/\Below w.heap.size w a:=by
 have c4:=h.c4;have c5:=h.c5;have c6:=h.c6;have c7:=h.c7;have c8:=h.c8;have c9:=h.c9;have b:=h.H.1;have f:c≠w.heap.size:=by omega
 unfold K.a6;go_enter func140,ntmps140;go_wp2;exact bz (v:=.agg #[iI k.gY,iI k.io,.string k.d,iI k.zk,.bool k.gW,.bool k.H0]) (by simp[results,results140,go_sem]) rfl ⟨rfl,(au _ _).alloc (aa _) _⟩
def Bn{n:Int}(h:n≠0):eV n=.iface 59 (iI n):=ax h
def K.H(k:K)(o:Int)(d:ByteArray):Int:=if k.I o≠0 then k.I o else if 20<d.size then 4 else 0
def P4{k:K}{o:Int}(now:Int)(h:bt w c m k)(hd:d.size<=1000000)(f:k.H o d≠0):
  Calls prog 60 #[tp c,iI o,.string d,iI now] w λe j=>e=.returned (eV (k.H o d))/\j=w:=by
 have a:=wy o h;by_cases h0:k.I o=0
 .rw[h0,show eV 0=.nilIface from rfl]at a;have g:Hid (k.H o d=4):=by
   unfold K.H at f⊢;rw[h0]at f⊢;rw[ax (by simp)]at f⊢;by_cases b:20<d.size;rw[az b];rfl;rw[ax b]at f;exact absurd rfl f
  have b:20<d.size:=by
   have i:=g.out;unfold K.H at i;rw[h0,ax (by simp)]at i;by_cases b:20<d.size;exact b;rw[ax b]at i;simp at i
  have l:(20:Int)<(d.size:Int):=by omega
  go_enter func60,ntmps60;go_wp2_with (go_at_call 74;refine a.mono ?_;rintro x j⟨rfl,rfl⟩)
  go_ret;exact⟨by rw[g.out];rfl,rfl⟩
 .have g:Hid (k.H o d=k.I o):=az h0;rw[Bn h0]at a;go_enter func60,ntmps60;go_wp2_with (go_at_call 74;refine a.mono ?_;rintro x j⟨rfl,rfl⟩)
  go_ret;exact⟨by rw[g.out,Bn h0];rfl,rfl⟩
def Ux{k:K}{o:Int}(h:bt w c m k)(b:k.H o d=0)(h0:0<=k.mg)(l:k.mg<=4611686018427387904):
  Calls prog 60 #[tp c,iI o,.string d,iI now] w λe g=>e=.returned .nilIface/\bt g c m (k.O 2 o d 0 false false now)/\Ob [c,m] w g:=by
 have a:=wy o h;have i:k.I o=0:=by
  unfold K.H at b;by_cases h0:k.I o≠0;rw[az h0]at b;exact absurd b h0;omega
 have j:¬(20:Int)<(d.size:Int):=by
  unfold K.H at b;rw[i,ax (by simp)]at b;by_cases j:20<d.size;rw[az j]at b;simp at b;omega
 rw[i,show eV 0=.nilIface from rfl]at a;have f:=DB 2 o d 0 false false now h h0 l;go_enter func60,ntmps60;go_wp2_with (first|(go_at_call 74;refine a.mono ?_;rintro x g⟨rfl,rfl⟩)|(go_at_call 75;refine f.mono ?_;rintro x w1⟨rfl,G,n⟩))
 go_ret;exact⟨rfl,G,n⟩
def K.ae(k:K)(now:Int):List M:=(if k.Fg<=now+2 then [k.aw] else [])++(if k.h=true then [k.ac] else [])
def K.ag(k:K)(now:Int):K:=if k.Fg<=now+2 then k.ap now else k
def H7{k:K}(h:bt w c m k)(h0:0<=k.dV)(T:k.dV<=4611686018427387904)(U:0<=now)(V:now<=4611686018427387904)(ht:k.Fg<=now+2)(W:Hid ([k.aw]++(if k.h=true then [k.ac] else [])=l)):
  Calls prog 125 #[tp c,iI now] w λe L=>∃v,e=.returned v/\iy L w.heap.size v l/\bt L c m (k.ap now)/\Ob [c,m] w L:=by
 let ⟨P,Q,u,y,z⟩:=dw kw
 have X:=h.H;have Y:=h.aq;go_enter func125,ntmps125;go_wp2_with fail
 apply (QX now h h0 T).mono;rintro x w1⟨rfl,G,R⟩;have Z:=R.i;let ⟨d,A⟩:∃d,k.aw=d:=⟨_,rfl⟩
 rw[A];go_wp2_with (first|refine ej rfl 16 rfl d rfl ?_|(at_builtin;refine fC _ rfl _ _ 141 rfl w.heap.size 129 P (.agg #[iI 0,iI 0,iI 0,iI 0,iI 0,iI 0,iI 0,.bool false,.string ⟨#[]⟩]) 9 80 underlying141 Q u y z rfl (by decide) _ _ _ rfl ((iy.h)) (aA w1.heap.size 0) 1 1 (f8 d) rfl rfl (ox w1 d) (jZ) ?r3 ?r4 ?r5 ?_))
 case r3=>simp[maxLen]
 case r4=>simp
 case r5=>simp;omega
 intro v2 w2 a f _;have M:= iy.I a;have J:=G.ao f (by simp[Value.ownBlock]) (by simp[Value.ownBlock]);have n:=Ob.ac R f (by simp[Value.ownBlock]);have ad:=n.i;rw[cH]at M;have o:=sR J;have B:(k.ap now).h=k.h:=rfl;have p:=yy J;have C:(k.ap now).ac=k.ac:=rfl;rw[B]at o;rw[C]at p;let ⟨b,S⟩:∃b,k.h=b:=⟨_,rfl⟩
 let ⟨t,D⟩:∃t,k.ac=t:=⟨_,rfl⟩
 rw[S]at o;rw[D]at p;have E:Hid ([d]++(if b=true then [t] else [])=l):=by rw[<-S,<-D];exact(by rw[<-A];exact W)
 go_wp2_with fail
 apply o.mono;rintro x w3⟨rfl,rfl⟩;cases b with
 |false=>
  go_wp2_with fail
  go_ret;have e:= E.out.symm;rw[e];exact⟨_,rfl,M,J,n⟩
 |true=>
  go_wp2_with fail
  apply p.mono;rintro x w4⟨rfl,q⟩;have G4:=J.ab q;have r:=M.j q;have F:=n.j (Ob.O q);have aI:=F.i;obtain⟨ao,cc,rfl,aS,_⟩:=Net.cZ r;go_wp2_with (first|refine ej rfl 23 rfl t rfl ?_|(at_builtin;refine fC _ rfl _ _ 141 rfl w.heap.size 129 P (.agg #[iI 0,iI 0,iI 0,iI 0,iI 0,iI 0,iI 0,.bool false,.string ⟨#[]⟩]) 9 80 underlying141 Q u y z rfl (by decide) _ _ _ rfl (r.alloc _) (aA w4.heap.size 0) 1 1 (f8 t) rfl rfl (ox w4 t) (jZ) ?r3 ?r4 ?r5 ?_))
  case r3=>simp[maxLen]
  case r4=>simp
  case r5=>simp;omega
  intro v5 w5 a f _;have N:= iy.I a;have s:∀g,(Value.slice ao [d].length cc).ownBlock=some g->w.heap.size<=g:=λg f=>(bv r g f).1;go_wp2_with fail
  go_ret;have e:= E.out.symm;rw[e];exact⟨_,rfl,N,(G4.ao f (λe=>by have:=s _ e;omega) (λe=>by have:=s _ e;omega)),(Ob.ac F f s)⟩
def H9{k:K}(h:bt w c m k)(A:0<=now)(B:now<=4611686018427387904)(M:¬k.Fg<=now+2)(C:Hid ((if k.h=true then [k.ac] else [])=l)):
  Calls prog 125 #[tp c,iI now] w λe q=>∃v,e=.returned v/\iy q w.heap.size v l/\bt q c m k/\Ob [c,m] w q:=by
 let ⟨D,E,r,s,t⟩:=dw kw
 have F:=h.H;have G:=h.aq;have d:=sR h;have f:=yy h;let ⟨b,y⟩:∃b,k.h=b:=⟨_,rfl⟩
 let ⟨a,g⟩:∃a,k.ac=a:=⟨_,rfl⟩
 rw[y]at d;rw[g]at f;have j:Hid ((if b=true then [a] else [])=l):=by rw[<-y,<-g];exact C

 go_enter func125,ntmps125;go_wp2_with fail
 apply d.mono;rintro x w3⟨rfl,rfl⟩

 cases b with
 |false=>
  go_wp2_with fail
  go_ret;have e:l=[]:=j.out.symm;rw[e];exact⟨_,rfl,iy.h,h,Ob.V _ _⟩
 |true=>
  go_wp2_with fail
  apply f.mono;rintro x w4⟨rfl,n⟩;have J:=h.ab n;have o:Ob [c,m] w3 w4:=Ob.O n;have L:=o.i;go_wp2_with (first|refine ej rfl 23 rfl a rfl ?_|(at_builtin;refine fC _ rfl _ _ 141 rfl w3.heap.size 129 D (.agg #[iI 0,iI 0,iI 0,iI 0,iI 0,iI 0,iI 0,.bool false,.string ⟨#[]⟩]) 9 80 underlying141 E r s t rfl (by decide) _ _ _ rfl (iy.h) (aA w4.heap.size 0) 1 1 (f8 a) rfl rfl (ox w4 a) (jZ) ?r3 ?r4 ?r5 ?_))
  case r3=>simp[maxLen]
  case r4=>simp
  case r5=>simp;omega
  intro N P p z _;have u:= iy.I p;go_wp2_with fail
  go_ret;have e:= j.out.symm;rw[e];exact⟨_,rfl,u,(J.ao z (by simp[Value.ownBlock]) (by simp[Value.ownBlock])),(Ob.ac o z (by simp[Value.ownBlock]))⟩
def P8{k:K}(h:bt w c m k)(h0:0<=k.dV)(g:k.dV<=4611686018427387904)(b:0<=now)(d:now<=4611686018427387904):
  Calls prog 125 #[tp c,iI now] w λe f=>∃v,e=.returned v/\iy f w.heap.size v (k.ae now)/\bt f c m (k.ag now)/\Ob [c,m] w f:=by
 unfold K.ae K.ag;by_cases a:k.Fg<=now+2;rw[az a,az a];exact H7 h h0 g b d a rfl;rw[ax a,ax a,cH];exact H9 h b d a rfl
def K.al(k:K)(o now:Int):K:=
 match (k.O 1 o ⟨#[]⟩ 0 false false now).av o now with
 |none=>(k.O 1 o ⟨#[]⟩ 0 false false now).e o
 |some x=>({ (k.O 1 o ⟨#[]⟩ 0 false false now).e o with H0:=true}:K).ab x.d x.v
def Uw{k:K}(o now:Int)(h:bt w c m k)(d:k.I o≠0):
  Calls prog 42 #[tp c,iI o,iI now] w λe b=>e=.returned (eV (k.I o))/\b=w:=by
 have a:=wy o h;rw[Bn d]at a⊢;go_enter func42,ntmps42;go_wp2_with (go_at_call 74;refine a.mono ?_;rintro x b⟨rfl,rfl⟩)
 go_ret;exact⟨rfl,rfl⟩
def Cg(k:K)(o:Int):(k.e o).io=k.io/\(k.e o).n=k.n:=by
 unfold K.e;split<;>exact⟨rfl,rfl⟩
def Ya{k:K}(o now:Int)(h:bt w c m k)(R:k.I o=0)(h0:0<=k.mg)(S:k.mg<=4611686018427387904)(T:0<=o)(t:o<=7)(hn:k.n<1000000000000)(z:∀x∈k.fY,gv x.v){A:K}(B:Hid (k.al o now=A)):
  Calls prog 42 #[tp c,iI o,iI now] w λe C=>e=.returned .nilIface/\bt C c m A/\Ob [c,m] w C:=by
 have a:=wy o h;have f:=DB 1 o ⟨#[]⟩ 0 false false now h h0 S;rw[R,show eV 0=.nilIface from rfl]at a;have U:=h.H;go_enter func42,ntmps42;go_wp2_with fail
 apply a.mono;rintro x C⟨rfl,rfl⟩;go_wp2_with fail
 apply f.mono;rintro x w1⟨rfl,G,L⟩;have M:(k.O 1 o ⟨#[]⟩ 0 false false now).io=o:=rfl;have V:(k.O 1 o ⟨#[]⟩ 0 false false now).n=k.n:=rfl;have D:(k.O 1 o ⟨#[]⟩ 0 false false now).fY=k.fY:=rfl;have E:Hid ((match (k.O 1 o ⟨#[]⟩ 0 false false now).av o now with
  |none=>(k.O 1 o ⟨#[]⟩ 0 false false now).e o
  |some x=>({ (k.O 1 o ⟨#[]⟩ 0 false false now).e o with H0:=true}:K).ab x.d x.v)=A):=B.out

 generalize k.O 1 o ⟨#[]⟩ 0 false false now=k1 at *;have N:=Yn o now G T t;have W:=Cg k1 o;have g:∀x,k1.av o now=some x->gv x.v:=by
  intro x b;unfold K.av at b;split at b;exact absurd b (by simp);rename_i y X;split at b;exact absurd b (by simp);injection b with b
  subst b;exact z _ (by rw[<-D];exact eK X)
 let ⟨r,F⟩:∃r,k1.av o now=r:=⟨_,rfl⟩
 rw[F]at N g E;go_wp2_with fail
 apply N.mono;rintro x w2⟨rfl,s,l⟩;have Y:=L.i;have Z:=l.i;have p:=L.j l;cases r with
 |none=>
  dsimp only[uT];go_wp2_with fail
  go_ret;have e:= E.out.symm;rw[e];exact⟨rfl,s.h _,p.h _⟩
 |some x=>
  dsimp only[uT];have d9:=s.c9;have hf:=s.ae;have P:c≠w2.heap.size:=by omega
  have Q:c<w2.heap.size:=by omega
  have e :Hid _:= E.out.symm;go_wp2_with fail
  refine(oy x.d ((λo=>(s.s9 true).h o) _) (by show 0<=(k1.e o).io;omega) (by show (k1.e o).io<=7;omega) (g x rfl) (by show (k1.e o).n<_;omega)).mono ?_;rintro y w3⟨rfl,G5,J⟩;go_wp2_with fail
  go_ret;rw[e.out];exact⟨rfl,G5,((λob=>(p.H (q:=c) (i:=9) (by simp) (u:=.bool true)).h ob) _).j J⟩
def K.V(k:K)(m:M):K×List M:=
 if m.k=9 then (k.ao m,[k.a5 m])
 else if m.c≠k.id then (k,[])
 else if m.k=7/\m.n=k.dV then (k.an m.e m.s,[])
 else if m.k=8/\m.n=k.dV then (k.aU m.e m.s,[])
 else if m.k=5/\k.waits 1 m.n=true then (k.a3 m,[])
 else if m.k=6/\k.waits 2 m.n=true then (k.ab k.d m.v,[])
 else (k,[])
structure KOk(k:K):Prop where
 b:0<=k.io
 e:k.io<=7
 n:k.n<1000000000000
 w:0<=k.mg
 y:k.mg<=1000000000000
 x:0<=k.dV
 A:k.dV<=1000000000000
 j:0<=k.Ff
 t:k.Ff<=1099511627776
 p:0<=k.KQ
 u:k.KQ<=1099511627776
 h:0<=k.qN
 o:k.qN<=1099511627776
 i:0<=k.nk
 s:k.nk<=1099511627776
abbrev dW (w:World) (mk mc mn me ms mo mv:Int) (ml:Bool) (md:ByteArray):World:=w.alloc (.cells #[.int .i64 mk,.int .i64 mc,.int .i64 mn,.int .i64 me,.int .i64 ms,.int .i64 mo,.int .i64 mv,.bool ml,.string md] 129)
def ie(w:A1){mk:Int}:MB (dW w mk mc mn me ms mo mv ml md) w.heap.size ⟨mk,mc,mn,me,ms,mo,mv,ml,md⟩:=by
 refine⟨?_,?_,?_,?_,?_,?_,?_,?_,?_⟩<;>(rw[bS _ _ _ _ _ _ (bw w _)];rfl)
def Lj{q:Nat}{k:K}(h:bt w c q k)(d:KOk k)(f:gv mv):
  Calls prog 132 #[tp c,Wire.M.ab ⟨9,mc,mn,me,ms,mo,mv,ml,md⟩] w λe a=>∃v,e=.returned v/\iy a w.heap.size v [k.a5 ⟨9,mc,mn,me,ms,mo,mv,ml,md⟩]/\bt a c q (k.ao ⟨9,mc,mn,me,ms,mo,mv,ml,md⟩)/\Ob [c,q] w a:=by
 have g:=h.H;have i:MB (dW w 9 mc mn me ms mo mv ml md) w.heap.size ⟨9,mc,mn,me,ms,mo,mv,ml,md⟩:=ie w;have F:bt (dW w 9 mc mn me ms mo mv ml md) c q k:=h.h _;have l:Ob [c,q] w (dW w 9 mc mn me ms mo mv ml md):=(Ob.V _ _).h _;have r:(dW w 9 mc mn me ms mo mv ml md).heap.size=w.heap.size+1:=by simp
 unfold dW at *;unfold Wire.M.ab;go_enter func132,ntmps132;go_wp2_with fail
 generalize (w.alloc (.cells #[iI 9,iI mc,iI mn,iI me,iI ms,iI mo,iI mv,.bool ml,.string md] 129))=w1 at *;have ⟨b0,m,n,b3,b4,b5,b6,b7,b8⟩:=i








 dsimp only at b0 m n b3 b4 b5 b6 b7 b8;have s:=F.c0;have t:=F.c6;have o:=F.aw;go_wp2_with fail
 apply (Lf ⟨9,mc,mn,me,ms,mo,mv,ml,md⟩ F).mono;rintro x w2⟨v,rfl,p,G,b⟩;go_wp2_with fail
 go_ret;exact⟨_,rfl,p.H (by omega),G,l.j b⟩
def U2{q:Nat}{k:K}(m:M)(h:bt w c q k)(r:KOk k)(Q:gv m.v):
  Calls prog 132 #[tp c,Wire.M.ab m] w λe T=>∃v,e=.returned v/\iy T w.heap.size v (k.V m).2/\bt T c q (k.V m).1/\Ob [c,q] w T:=by
 obtain⟨mk,mc,mn,me,ms,mo,mv,ml,md⟩:=m;obtain⟨kk,X,a⟩:∃kk X,k.V ⟨mk,mc,mn,me,ms,mo,mv,ml,md⟩=(kk,X):=⟨_,_,rfl⟩;rw[a];unfold K.V at a;dsimp only at Q a⊢;by_cases B:mk=9;rw[az B]at a;injection a with f g
 subst B f g;exact Lj h r Q;rw[ax B]at a;have N:(mk==9)=false:=by simpa using B
 have l:Hid _:=a;clear a;have Z:=h.H;have D:MB (dW w mk mc mn me ms mo mv ml md) w.heap.size ⟨mk,mc,mn,me,ms,mo,mv,ml,md⟩:=ie w;have F:bt (dW w mk mc mn me ms mo mv ml md) c q k:=h.h _;have C:Ob [c,q] w (dW w mk mc mn me ms mo mv ml md):=(Ob.V _ _).h _;have hs:(dW w mk mc mn me ms mo mv ml md).heap.size=w.heap.size+1:=by simp
 unfold dW at *;unfold Wire.M.ab;clear h;go_enter func132,ntmps132;go_wp2_with fail
 generalize (w.alloc (.cells #[.int .i64 mk,.int .i64 mc,.int .i64 mn,.int .i64 me,.int .i64 ms,.int .i64 mo,.int .i64 mv,.bool ml,.string md] 129))=w1 at *;have b0:=D.y;have b1:=D.i;have b2:=D.u;have b3:=D.j;have b4:=D.p;have b5:=D.h;have b6:=D.t;have b7:=D.x;have b8:=D.A;dsimp only at b0 b1 b2 b3 b4 b5 b6 b7 b8;have d0:=F.c0;have d6:=F.c6;have ad:=F.aw;clear D;by_cases hc:mc=k.id
 .subst hc;by_cases E:mk=7
  .subst E;by_cases J:mn=k.dV
   .subst J;have a:=l.out;clear l;rw[ax (λe=>e rfl),az ⟨rfl,rfl⟩]at a;injection a with f g
    subst f g;clear N B;go_wp2_with fail
    go_quiet (fail);go_wp2_with fail
    go_quiet (fail);go_wp2_with fail
    refine(IN me ms (F.e) (by have:=r.i;have:=r.p;omega) (by have:=r.s;have:=r.u;omega)).mono ?_;rintro x w2⟨rfl,G,z⟩;go_wp2_with fail
    go_ret;exact⟨_,rfl,iy.h,G,(C.e).j z⟩
   have a:=l.out;clear l;rw[ax (λe=>e rfl),ax (λe=>J e.2),ax (λe=>by have:=e.1;omega),ax (λe=>by have:=e.1;omega),ax (λe=>by have:=e.1;omega)]at a;injection a with f g
   subst f g;clear N B;have gn:(mn==k.dV)=false:=by simpa using J
   clear J;go_wp2_with fail
   go_quiet (fail);go_wp2_with fail
   go_quiet (fail);go_wp2_with fail
   go_quiet (fail);go_wp2_with fail
   go_ret;exact⟨_,rfl,iy.h,F.e,C.e⟩
  by_cases O:mk=8
  .subst O;by_cases J:mn=k.dV
   .subst J;have a:=l.out;clear l;rw[ax (λe=>e rfl),ax (λe=>by have:=e.1;omega),az ⟨rfl,rfl⟩]at a;injection a with f g
    subst f g;clear N B E;go_wp2_with fail
    go_quiet (fail);go_wp2_with fail
    go_quiet (fail);go_wp2_with fail
    go_quiet (fail);go_wp2_with fail
    refine(Qr me ms (F.e)).mono ?_;rintro x w2⟨rfl,G,z⟩;go_wp2_with fail
    go_ret;exact⟨_,rfl,iy.h,G,(C.e).j z⟩
   have a:=l.out;clear l;rw[ax (λe=>e rfl),ax (λe=>by have:=e.1;omega),ax (λe=>J e.2),ax (λe=>by have:=e.1;omega),ax (λe=>by have:=e.1;omega)]at a;injection a with f g
   subst f g;clear N B E;have gn:(mn==k.dV)=false:=by simpa using J
   clear J;go_wp2_with fail
   go_quiet (fail);go_wp2_with fail
   go_quiet (fail);go_wp2_with fail
   go_quiet (fail);go_wp2_with fail
   go_ret;exact⟨_,rfl,iy.h,F.e,C.e⟩
  by_cases P:mk=5
  .subst P;cases L:k.waits 1 mn with
   |true=>
    have a:=l.out;clear l;rw[ax (λe=>e rfl),ax (λe=>by have:=e.1;omega),ax (λe=>by have:=e.1;omega),az ⟨rfl,L⟩]at a;injection a with f g
    subst f g;clear N B E O;go_wp2_with fail
    go_quiet (fail);go_wp2_with fail
    go_quiet (fail);go_wp2_with fail
    go_quiet (fail);go_wp2_with fail
    refine(tK 1 mn (F.e)).mono ?_;rintro x w2⟨rfl,rfl⟩;rw[L];go_wp2_with fail
    refine(Vn ⟨5,k.id,mn,me,ms,mo,mv,ml,md⟩ (F.e) r.b r.e Q r.n (by have:=r.h;have:=r.j;omega) (by have:=r.o;have:=r.t;omega)).mono ?_;rintro x w3⟨rfl,G,z⟩;go_wp2_with fail
    go_ret;exact⟨_,rfl,iy.h,G,(C.e).j z⟩
   |false=>
    have a:=l.out;clear l;rw[ax (λe=>e rfl),ax (λe=>by have:=e.1;omega),ax (λe=>by have:=e.1;omega),ax (λe=>by rw[L]at e;simp at e),ax (λe=>by have:=e.1;omega)]at a;injection a with f g
    subst f g;clear N B E O;go_wp2_with fail
    go_quiet (fail);go_wp2_with fail
    go_quiet (fail);go_wp2_with fail
    go_quiet (fail);go_wp2_with fail
    refine(tK 1 mn (F.e)).mono ?_;rintro x w2⟨rfl,rfl⟩;rw[L];go_wp2_with fail
    go_ret;exact⟨_,rfl,iy.h,F.e,C.e⟩
  by_cases R:mk=6
  .subst R;cases L:k.waits 2 mn with
   |true=>
    have a:=l.out;clear l;rw[ax (λe=>e rfl),ax (λe=>by have:=e.1;omega),ax (λe=>by have:=e.1;omega),ax (λe=>by have:=e.1;omega),az ⟨rfl,L⟩]at a;injection a with f g
    subst f g;clear N B E O P;go_wp2_with fail
    go_quiet (fail);go_wp2_with fail
    go_quiet (fail);go_wp2_with fail
    go_quiet (fail);go_wp2_with fail
    refine(tK 2 mn (F.e)).mono ?_;rintro x w2⟨rfl,rfl⟩;rw[L];go_wp2_with fail
    generalize S:w1.drewN _=W;have Y:bt W c q k:=by rw[<-S];exact F.e
    have U:Ob [c,q] w W:=by rw[<-S];exact C.e
    have b6:W.cell? (aA w.heap.size 6)=some (iI mv):=by rw[<-S];exact b6
    have d6:=Y.c6;clear S F C;go_still_tail 10,(by kernel_rfl);go_wp2_with fail
    refine(oy k.d Y.I r.b r.e Q r.n).mono ?_;rintro x w3⟨rfl,G,z⟩;go_wp2_with fail
    go_ret;exact⟨_,rfl,iy.h,G,U.I.j z⟩
   |false=>
    have a:=l.out;clear l;rw[ax (λe=>e rfl),ax (λe=>by have:=e.1;omega),ax (λe=>by have:=e.1;omega),ax (λe=>by have:=e.1;omega),ax (λe=>by rw[L]at e;simp at e)]at a;injection a with f g
    subst f g;clear N B E O P;go_wp2_with fail
    go_quiet (fail);go_wp2_with fail
    go_quiet (fail);go_wp2_with fail
    go_quiet (fail);go_wp2_with fail
    refine(tK 2 mn (F.e)).mono ?_;rintro x w2⟨rfl,rfl⟩;rw[L];go_wp2_with fail
    go_ret;exact⟨_,rfl,iy.h,F.e,C.e⟩
  have a:=l.out;clear l;rw[ax (λe=>e rfl),ax (λe=>E e.1),ax (λe=>O e.1),ax (λe=>P e.1),ax (λe=>R e.1)]at a;injection a with f g
  subst f g;have g7:(mk==7)=false:=by simpa using E
  have g8:(mk==8)=false:=by simpa using O
  have g5:(mk==5)=false:=by simpa using P
  have g6:(mk==6)=false:=by simpa using R
  clear B E O P R;go_wp2_with fail
  go_quiet (fail);go_wp2_with fail
  go_quiet (fail);go_wp2_with fail
  go_quiet (fail);go_wp2_with fail
  go_ret;exact⟨_,rfl,iy.h,F.e,C.e⟩
 have a:=l.out;clear l;rw[az hc]at a;injection a with f g
 subst f g;have gc:(mc==k.id)=false:=by simpa using hc
 clear B hc;go_wp2_with fail
 go_quiet (fail);go_wp2_with fail
 go_ret;exact⟨_,rfl,iy.h,F.e,C.e⟩
def K.j(id obj a:Int):K:=⟨id,obj,a,0,0,0,⟨#[]⟩,0,false,false,0,0,0,0,0,0,0,[],λ_=>0,0⟩
variable{k:K}
def YA(o v d id:Int)(w:A1)(h:0<=o)(p:o<=1099511627776)(i:0<=v)(r:v<=1099511627776)(f:0<=d)(hd:d<=500):
  Calls prog 122 #[.agg #[iI o,iI v,iI d],iI id] w λe g=>∃c q,e=.returned (tp c)/\bt g c q (K.j id (o*(1000-d)/(1000+d)) (v*(1000-d)/(1000+d)))/\w.heap.size<=c/\w.heap.size<=q/\Below w.heap.size w g:=by
 have s:=λ(t:Bi) (w:A1)=>run_makeMap (P:=prog) t w;go_enter func122,ntmps122;go_wp2_with (go_at_call 15;refine(Clock.Db f hd (by assumption) (by assumption)).mono ?_;rintro e g⟨rfl,rfl⟩)
 go_ret;have k:∀a:Obj,(w.alloc a).heap.size=w.heap.size+1:=λa=>by simp
 have l:∀a b:Obj,((w.alloc a).alloc b).heap.size=w.heap.size+1+1:=λa b=>by simp
 have m:∀a b c:Obj,(((w.alloc a).alloc b).alloc c).heap[w.heap.size+1+1]?=some c:=λa b c=>by rw[<-l a b];exact bw _ _
 have n:∀a c:Obj,(((w.alloc a).alloc (.map #[] 0)).alloc c).ownsMap prog 3 (plainElem (H:=Unit) prog 3) (w.heap.size+1) 0 (.map []):=λa c=>by
  have:=(World.ownsMap_made (w.alloc a) prog 3 (plainElem (H:=Unit) prog 3)).alloc c;rw[k]at this;exact this
 refine⟨w.heap.size+1+1,w.heap.size+1,rfl,⟨⟨by simp[K.j],rfl,?_⟩,.nil,.map [],?_,tidy_empty,λ_ _ _=>rfl⟩,by omega,by omega,(((au _ _).alloc (aa _) _).alloc (by simp) _).alloc (by simp;omega) _⟩;rw[m];rfl;exact n _ _
end Wld
namespace Wal
variable{d:Bh}{n:Int}{t i:Nat}{w:A1}
structure R where
 c:Int
 n:Int
 o:Int
 v:Int
 d:ByteArray
 e:Int
abbrev R.H (r:R):Value:=.agg #[.int .i64 r.c,.int .i64 r.n,.int .i64 r.o,.int .i64 r.v,.string r.d,.int .i64 r.e]
variable{r:R}
def fo(n:Int):Bool:=m6 n 0 1099511627776
def iD(r:R):Bool:=fo r.e&&decide (r.c=0/\r.n=0/\r.v=0/\r.d.size=0)
def gp(r:R):Bool:=fo r.c&&fo r.n&&fo r.v&&decide (0<=r.o/\r.o<8/\r.d.size<=20/\r.e=0)
def jf(r:R):Bool:=if r.o = -1 then iD r else gp r
def iN:
  Calls prog 252 #[iI n] w λe b=>e=.returned (.bool (fo n))/\b=w:=by
 unfold fo;by_cases h0:0<=n
 .by_cases a:n<=1099511627776
  .rw[Num.fX h0 a];go_enter func252,ntmps252;go_wp2;go_ret;exact⟨rfl,rfl⟩
  .rw[Num.kM (by omega)];have c:= aK a;go_enter func252,ntmps252;go_wp2;go_ret;exact⟨rfl,rfl⟩
 .rw[Num.kN (by omega)];have c:= aK h0;go_enter func252,ntmps252;go_wp2;go_ret;exact⟨rfl,rfl⟩
def acU:(d.toList==[])=decide (d.size=0):=by
 rw[mt];simp only[j7,fv];constructor;intro h;have:=bY List.length h;rw[iw]at this;simpa using this;intro h;rw[iw];exact vo.1 (by rw[dH];exact h)
def PK{c v e:Int}:
  Calls prog 218 #[R.H ⟨c,n,-1,v,d,e⟩] w λx b=>x=.returned (.bool (iD ⟨c,n,-1,v,d,e⟩))/\Below w.heap.size w b:=by
 dsimp only[R.H];have h:=acU (d:=d);have j:(e==e)=true:=by simp
 cases hte:fo e with
 |false=>
  have a:Hid (iD ⟨c,n,-1,v,d,e⟩=false):=by show iD ⟨c,n,-1,v,d,e⟩=_;simp[iD,hte]
  go_enter func218,ntmps218;go_wp2_with (first|(go_at_call 252;refine(iN).mono ?_;rintro x b⟨rfl,rfl⟩))
  go_ret;exact⟨by rw[a.out];rfl,(au _ _).alloc (aa _) _⟩
 |true=>
  by_cases hc:c=0
  .by_cases f:n=0
   .by_cases g:v=0
    .by_cases hd:d.size=0
     .rw[aR hd]at h;subst hc f g;have a:Hid (iD ⟨0,0,-1,0,d,e⟩=true):=by show iD ⟨0,0,-1,0,d,e⟩=_;simp[iD,hte,hd]
      go_enter func218,ntmps218;go_wp2_with (first|(go_at_call 252;refine(iN).mono ?_;rintro x b⟨rfl,rfl⟩))
      go_ret;exact⟨by rw[a.out];rfl,(au _ _).alloc (aa _) _⟩
     .rw[aK hd]at h;have a:Hid (iD ⟨c,n,-1,v,d,e⟩=false):=by show iD ⟨c,n,-1,v,d,e⟩=_;simp[iD,hd]
      subst hc f g;go_enter func218,ntmps218;go_wp2_with (first|(go_at_call 252;refine(iN).mono ?_;rintro x b⟨rfl,rfl⟩))
      go_ret;exact⟨by rw[a.out];rfl,(au _ _).alloc (aa _) _⟩
    .have i:(v==0)=false:=by simp[g]
     have a:Hid (iD ⟨c,n,-1,v,d,e⟩=false):=by show iD ⟨c,n,-1,v,d,e⟩=_;simp[iD,g]
     subst hc f;go_enter func218,ntmps218;go_wp2_with (first|(go_at_call 252;refine(iN).mono ?_;rintro x b⟨rfl,rfl⟩))
     go_ret;exact⟨by rw[a.out];rfl,(au _ _).alloc (aa _) _⟩
   .have i:(n==0)=false:=by simp[f]
    have a:Hid (iD ⟨c,n,-1,v,d,e⟩=false):=by show iD ⟨c,n,-1,v,d,e⟩=_;simp[iD,f]
    subst hc;go_enter func218,ntmps218;go_wp2_with (first|(go_at_call 252;refine(iN).mono ?_;rintro x b⟨rfl,rfl⟩))
    go_ret;exact⟨by rw[a.out];rfl,(au _ _).alloc (aa _) _⟩
  .have i:(c==0)=false:=by simp[hc]
   have a:Hid (iD ⟨c,n,-1,v,d,e⟩=false):=by show iD ⟨c,n,-1,v,d,e⟩=_;simp[iD,hc]
   go_enter func218,ntmps218;go_wp2_with (first|(go_at_call 252;refine(iN).mono ?_;rintro x b⟨rfl,rfl⟩))
   go_ret;exact⟨by rw[a.out];rfl,(au _ _).alloc (aa _) _⟩
def PL(i:r.o≠-1)(j:r.d.size<=1000):
  Calls prog 218 #[r.H] w λx b=>x=.returned (.bool (gp r))/\Below w.heap.size w b:=by
 obtain⟨c,n,o,v,d,e⟩:=r;dsimp only[R.H]at *;have k:(o == -1)=false:=by simp[i]
 cases hc:fo c with
 |false=>
  have a:Hid (gp ⟨c,n,o,v,d,e⟩=false):=by show gp ⟨c,n,o,v,d,e⟩=_;simp[gp,hc]
  go_enter func218,ntmps218;go_wp2_with (first|(go_at_call 252;refine(iN).mono ?_;rintro x b⟨rfl,rfl⟩))
  go_ret;exact⟨by rw[a.out];rfl,(au _ _).alloc (aa _) _⟩
 |true=>
  cases hn:fo n with
  |false=>
   have a:Hid (gp ⟨c,n,o,v,d,e⟩=false):=by show gp ⟨c,n,o,v,d,e⟩=_;simp[gp,hn]
   go_enter func218,ntmps218;go_wp2_with (first|(go_at_call 252;refine(iN).mono ?_;rintro x b⟨rfl,rfl⟩))
   go_ret;exact⟨by rw[a.out];rfl,(au _ _).alloc (aa _) _⟩
  |true=>
   cases hv:fo v with
   |false=>
    have a:Hid (gp ⟨c,n,o,v,d,e⟩=false):=by show gp ⟨c,n,o,v,d,e⟩=_;simp[gp,hv]
    go_enter func218,ntmps218;go_wp2_with (first|(go_at_call 252;refine(iN).mono ?_;rintro x b⟨rfl,rfl⟩))
    go_ret;exact⟨by rw[a.out];rfl,(au _ _).alloc (aa _) _⟩
   |true=>
    by_cases h0:0<=o
    .by_cases h:o<8
     .by_cases l:d.size<=20
      .have m:(d.size:Int)<=20:=by omega
       by_cases f:e=0
       .have g:(e==0)=true:=by simp[f]
        have a:Hid (gp ⟨c,n,o,v,d,e⟩=true):=by show gp ⟨c,n,o,v,d,e⟩=_;simp[gp,hc,hn,hv,h0,h,l,f]
        go_enter func218,ntmps218;go_wp2_with (first|(go_at_call 252;refine(iN).mono ?_;rintro x b⟨rfl,rfl⟩))
        go_ret;exact⟨by rw[a.out];rfl,(au _ _).alloc (aa _) _⟩
       .have g:(e==0)=false:=by simp[f]
        have a:Hid (gp ⟨c,n,o,v,d,e⟩=false):=by show gp ⟨c,n,o,v,d,e⟩=_;simp[gp,f]
        go_enter func218,ntmps218;go_wp2_with (first|(go_at_call 252;refine(iN).mono ?_;rintro x b⟨rfl,rfl⟩))
        go_ret;exact⟨by rw[a.out];rfl,(au _ _).alloc (aa _) _⟩
      .have g:= aK (by omega);have a:Hid (gp ⟨c,n,o,v,d,e⟩=false):=by show gp ⟨c,n,o,v,d,e⟩=_;simp[gp];omega
       go_enter func218,ntmps218;go_wp2_with (first|(go_at_call 252;refine(iN).mono ?_;rintro x b⟨rfl,rfl⟩))
       go_ret;exact⟨by rw[a.out];rfl,(au _ _).alloc (aa _) _⟩
     .have g:= aK h;have a:Hid (gp ⟨c,n,o,v,d,e⟩=false):=by show gp ⟨c,n,o,v,d,e⟩=_;simp[gp];omega
      go_enter func218,ntmps218;go_wp2_with (first|(go_at_call 252;refine(iN).mono ?_;rintro x b⟨rfl,rfl⟩))
      go_ret;exact⟨by rw[a.out];rfl,(au _ _).alloc (aa _) _⟩
    .have g:= aK h0;have a:Hid (gp ⟨c,n,o,v,d,e⟩=false):=by show gp ⟨c,n,o,v,d,e⟩=_;simp[gp];omega
     go_enter func218,ntmps218;go_wp2_with (first|(go_at_call 252;refine(iN).mono ?_;rintro x b⟨rfl,rfl⟩))
     go_ret;exact⟨by rw[a.out];rfl,(au _ _).alloc (aa _) _⟩
def zh(r:R)(b:r.d.size<=1000):
  Calls prog 218 #[r.H] w λx g=>x=.returned (.bool (jf r))/\Below w.heap.size w g:=by
 by_cases a:r.o = -1;have f:jf r=iD r:=by simp[jf,a]
 rw[f];obtain⟨c,n,o,v,d,e⟩:=r;dsimp only at a;subst a;exact PK;have f:jf r=gp r:=by simp[jf,a]
 rw[f];exact PL a b
def jP(x:Int)(j:Nat):Int:=x/256^j%256
def kb(r:R):List Int:=[r.c,r.n,r.o,r.v,r.e]
def fM(r:R):List Int:=((List.range 40).map λt=>jP ((kb r).getD (t/8) 0) (t%8))++((r.d.size:Int)::(gy r.d++(List.replicate (20-r.d.size) 0++[1])))
def Jm(xs:List Int):List Int:=xs++List.replicate (62-xs.length) 0
def fD(h:r.d.size<=20):(fM r).length=62:=by
 simp[fM,Num.dL];omega
def Hp(h:t<40):(fM r).getD t 0=jP ((kb r).getD (t/8) 0) (t%8):=by
 rw[aG];unfold fM;rw[bn (by simpa using h),di,List.getElem?_range h];rfl
def zg:(fM r)[40+i]?=((r.d.size:Int)::(gy r.d++(List.replicate (20-r.d.size) 0++[1])))[i]?:=by
 unfold fM;rw[aQ (by simp)];simp
def Ho:(fM r).getD 40 0=(r.d.size:Int):=by
 rw[aG,show (40:Nat)=40+0 from rfl,zg];rfl
def Dn(h:i<r.d.size):(fM r).getD (41+i) 0=(gy r.d).getD i 0:=by
 rw[aG,show 41+i=40+(i+1) by omega,zg,aY,bn (by rw[Num.dL];exact h),aG]
def Dl(h:r.d.size<=20):(fM r).getD 61 0=1:=by
 rw[aG,show (61:Nat)=40+(20+1) from rfl,zg,aY,aQ (by rw[Num.dL];exact h),Num.dL,aQ (by simp)];simp
def Dk(x:Int)(j:Nat):0<=jP x j/\jP x j<256:=by unfold jP;omega
def Bd{xs:List Int}(h:xs.length<=62):(Jm xs).length=62:=by simp[Jm];omega
theorem XT:Jm []=List.replicate 62 0:=rfl
def XU{F:List Int}(c:F.length=62)(b:t<62):(Jm (F.take t)).set t (F.getD t 0)=Jm (F.take (t+1)):=by
 apply iz;intro i;rw[FY,(Bd (by simp;omega))];unfold Jm;by_cases a:t=i;subst a;rw[az rfl,az b,bn (by simp;omega),eM,az (by omega),aG,aB (by omega)];rfl;rw[ax a];by_cases h:i<t;rw[bn (by simp;omega),bn (by simp;omega),eM,eM,az h,az (by omega)];rw[aQ (by simp;omega),aQ (by simp;omega),dZ,dZ];simp;by_cases d:i<62;rw[az (by omega),az (by omega)];rw[ax (by omega),ax (by omega)]
def XS(h:r.d.size<=20):(Jm ((fM r).take (41+r.d.size))).set 61 1=fM r:=by
 have e:=fD h;apply iz;intro i;have b:(Jm ((fM r).take (41+r.d.size))).length=62:=Bd (by simp;omega);rw[FY,b];by_cases a:61=i;subst a;rw[az rfl,az (by omega)];have:=Dl h;rw[aG,aB (by omega)]at this;rw[aB (by omega)];simpa using this.symm;rw[ax a];unfold Jm;by_cases c:i<41+r.d.size;rw[bn (by simp;omega),eM,az c];rw[aQ (by simp;omega),dZ];simp;by_cases f:i<61;rw[az (by omega),show i=40+(i-41+1) by omega,zg,aY,aQ (by rw[Num.dL];omega),Num.dL,bn (by simp;omega),dZ,az (by omega)];rw[ax (by omega),ky (by omega)]
def kX(x:Int)(j:Nat):Int:=if j<8 then x%256^j else x
def okN(x:Int):Prop:=(0<=x/\x<=1099511627776)\/x = -1
def PQ(x:Int):kX x 0=0:=by simp[kX]
def T7(x:Int):kX x 8=x:=by simp[kX]
def XR{x:Int}{j:Nat}(s:okN x)(o:j<8):bits .or .i64 (kX x j) (IntKind.i64.wrap (jP x j*2^(8*j)))=kX x (j+1):=by
 rcases s with⟨h0,u⟩|rfl
 have d:∀(k:Nat) (q p:Int),k<=48->(2:Int)^k=q->p=x%q->0<q->q<=281474976710656->bits .or .i64 p (IntKind.i64.wrap (x/q%256*q))=p+x/q%256*q:=λk q p v r i l m=>by
  have t:0<=x/q%256:=by omega
  have n:x/q%256<=255:=by omega
  have w:= Rj n m (by omega) (by omega);have e:0<=x/q%256*q:=rI t (by omega);have f:0<=p/\p<q:=by rw[i];exact⟨NC _ (by omega),D6 _ l⟩
  rw[Wire.pT _ e (by omega)];exact bits_join_low .i64 63 (by decide) Wire.pT k p (x/q%256*q) f.1 (by rw[r];exact f.2) (by omega) e (by rw[r];exact Int.mul_emod_left _ _) (by omega)
 have zero:∀p:Int,0<=p->p<2^63->bits .or .i64 p 0=p:=λp i g=>by
  have:=bits_join_low .i64 63 (by decide) Wire.pT 63 p 0 i g g (by omega) (by simp) (by decide);simpa using this
 match j,o with
 |0,_=>
  have a:kX x 0=x%1:=rfl;have b:kX x 1=x%256:=rfl;have c:jP x 0*2^(8*0)=x/1%256*1:=rfl;have h:=d 0 1 (x%1) (by omega) rfl rfl (by omega) (by omega);rw[a,b,c,h];omega
 |1,_=>
  have a:kX x 1=x%256:=rfl;have b:kX x 2=x%65536:=rfl;have c:jP x 1*2^(8*1)=x/256%256*256:=rfl;have h:=d 8 256 (x%256) (by omega) rfl rfl (by omega) (by omega);rw[a,b,c,h];omega
 |2,_=>
  have a:kX x 2=x%65536:=rfl;have b:kX x 3=x%16777216:=rfl;have c:jP x 2*2^(8*2)=x/65536%256*65536:=rfl;have h:=d 16 65536 (x%65536) (by omega) rfl rfl (by omega) (by omega);rw[a,b,c,h];omega
 |3,_=>
  have a:kX x 3=x%16777216:=rfl;have b:kX x 4=x%4294967296:=rfl;have c:jP x 3*2^(8*3)=x/16777216%256*16777216:=rfl;have h:=d 24 16777216 (x%16777216) (by omega) rfl rfl (by omega) (by omega);rw[a,b,c,h];omega
 |4,_=>
  have a:kX x 4=x%4294967296:=rfl;have b:kX x 5=x%1099511627776:=rfl;have c:jP x 4*2^(8*4)=x/4294967296%256*4294967296:=rfl;have h:=d 32 4294967296 (x%4294967296) (by omega) rfl rfl (by omega) (by omega);rw[a,b,c,h];omega
 |5,_=>
  have a:kX x 5=x%1099511627776:=rfl;have b:kX x 6=x%281474976710656:=rfl;have c:jP x 5*2^(8*5)=x/1099511627776%256*1099511627776:=rfl;have h:=d 40 1099511627776 (x%1099511627776) (by omega) rfl rfl (by omega) (by omega);rw[a,b,c,h];omega
 |6,_=>
  have a:kX x 6=x%281474976710656:=rfl;have b:kX x 7=x%72057594037927936:=rfl;have c:jP x 6*2^(8*6)=x/281474976710656%256*281474976710656:=rfl;have h:=zero (x%281474976710656) (by omega) (by omega);rw[a,b,c,show x/281474976710656%256*281474976710656=0 by omega,show IntKind.i64.wrap 0=0 from rfl,h];omega
 |7,_=>
  have a:kX x 7=x%72057594037927936:=rfl;have b:kX x 8=x:=rfl;have c:jP x 7*2^(8*7)=x/72057594037927936%256*72057594037927936:=rfl;have h:=zero (x%72057594037927936) (by omega) (by omega);rw[a,b,c,show x/72057594037927936%256*72057594037927936=0 by omega,show IntKind.i64.wrap 0=0 from rfl,h];omega
 match j,o with
 |0,_=>decide
 |1,_=>decide
 |2,_=>decide
 |3,_=>decide
 |4,_=>decide
 |5,_=>decide
 |6,_=>decide
 |7,_=>decide
end Wal
end Go.Proofs.YtbebfliimjjohabGreatDoor
