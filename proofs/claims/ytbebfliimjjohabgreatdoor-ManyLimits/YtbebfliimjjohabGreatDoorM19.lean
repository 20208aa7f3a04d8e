/- Parts of the proof. -/
import Derived.Test.YtbebfliimjjohabGreatDoorM18
import Derived.Deep.RegionLaw
set_option maxRecDepth 100000
set_option maxHeartbeats 8000000
set_option linter.all false
open Go.Proofs.Tryz
namespace Go.Proofs.YtbebfliimjjohabGreatDoor
open Go.RowKit Go.Maps
open Num (m6 nb ko jk gy M iC m8)
namespace Cache
variable{d:Bh}{o n:Int}{l vs P X:List Bg}{k i g t m B s:Nat}{f:Nat×Nat}{u:Bg}{a b w w':A1}
structure E where
 o:Int
 d:ByteArray
 v:Int
 u:Int
def uf:E:=⟨0,⟨#[]⟩,0,0⟩
instance:Inhabited E:=⟨uf⟩
variable{x:E}{L:List E}
structure It where
 e:E
 s:Int
def Tk:It:=⟨uf,4611686018427387904⟩
instance:Inhabited It:=⟨Tk⟩
def Ko(o:Int)(x:E):Bool:=decide (x.o≠o)
def G9(h:Ko o x=true):x.o≠o:=by simpa[Ko] using h
def qm(o:Int)(L:List E):List E:=L.filter (Ko o)
def Kj(h:∀x∈L,x.o≠o):qm o L=L:=gK.2 λx a=>by simp[Ko,h x a]
def aaI(f:L.Pairwise λa b=>a.o≠b.o)(i:k<L.length)(c:L[k].o=o):qm o L=L.eraseIdx k:=by
 rw[List.eraseIdx_eq_take_drop_succ];have e:L=L.take k++L[k]::L.drop (k+1):=by rw[Zz,oG]
 rw[e]at f;obtain⟨j,g,h⟩:=eH.1 f;unfold qm;conv=>lhs;rw[e]
 rw[rJ,vn (by simp[Ko,c])];congr 1;exact gK.2 λx d=>by have:=h x d _ cX;rw[c]at this;simp[Ko,this]
 exact gK.2 λx d=>by have:=((eO.1 g).1) x d;rw[c]at this;simp[Ko];exactλe=>this e.symm
def we(o:Int)(L:List E)(i:Int):Prop:=(i = -1/\∀x∈L,x.o≠o)\/∃k,∃h:k<L.length,i=(k:Int)/\L[k].o=o
abbrev tp (t:Nat):Value:=.pointer (some ⟨t,0,none⟩)
abbrev kp (t:Nat):Value:=.pointer (some ⟨t,17,none⟩)
structure Ob(bs:List Nat)(w w':World):Prop where
 p:w'.os=w.os
 o:w'.tape=w.tape
 h:w'.output=w.output
 i:w.heap.size<=w'.heap.size
 b:∀k,k<w.heap.size->k∉bs->w'.heap[k]?=w.heap[k]?
def Ob.O(bs:List Nat)(w:A1):Ob bs w w:=⟨rfl,rfl,rfl,aa _,λ_ _ _=>rfl⟩
def Ob.j{bs:List Nat}{c:A1}(h:Ob bs a b)(k:Ob bs b c):Ob bs a c:=
 ⟨k.p.trans h.p,k.o.trans h.o,k.h.trans h.h,aP h.i k.i,λi d e=>by rw[k.b i (aO d h.i) e,h.b i d e]⟩
def Ob.ab{bs cs:List Nat}(h:Ob bs a b)(hs:∀k∈bs,k∈cs):Ob cs a b:=⟨h.p,h.o,h.h,h.i,λk c hc=>h.b k c λd=>hc (hs k d)⟩
def Ob.H{bs:List Nat}(h:Below a.heap.size a b):Ob bs a b:=⟨h.os,h.tape,h.output,h.size,λk c _=>h.block k c⟩
def Ob.e{bs:List Nat}{q:Nat}(h:Ob bs a b)(c:q∈bs):Ob bs a (b.setCell ⟨q,i,none⟩ u):=
 h.j ⟨rfl,rfl,rfl,by simp,λk _ d=>aX b (aA q i) u k (λe=>d (by rw[e];exact c))⟩
def Ob.I{bs:List Nat}{q:Nat}(c:q∈bs):∀(vs:List Bg) (o:Nat) (b:A1),Ob bs a b->Ob bs a (b.setCells q o vs)
 | [],_,_,h=>h
 |v::vs,o,b,h=>by
  rw[World.setCells];exact Ob.I c vs (o+1) _ (h.e c (u:=v))
def Ob.V{bs:List Nat}(h:Ob bs a b):Ob bs a b.drew:=⟨h.p,h.o,h.h,h.i,h.b⟩
def Ob.Z{bs:List Nat}(h:Ob bs a b)(o:Obj):Ob bs a (b.alloc o):=h.j (Ob.H ((au _ _).alloc (aa _) o))
def Ob.ae{bs:List Nat}{q:Nat}(h:Ob (q::bs) a b)(e:a.heap.size<=q):Ob bs a b:=
 ⟨h.p,h.o,h.h,h.i,λk c d=>h.b k c (by simp;exact⟨by omega,d⟩)⟩
def Ob.ac{bs:List Nat}{N:Nat}(h:Ob bs a b)(c:∀k∈bs,N<=k)(e:N<=a.heap.size):Below N a b:=
 ⟨h.p,h.o,h.h,h.i,λk f=>h.b k (by omega) (λd=>by have:=c k d;omega)⟩
def wi{a:Array Bg}{e:Bi}(h:w.heap[g]?=some (.cells a e f)):(w.setCell ⟨g,i,none⟩ u).heap[g]?=some (.cells (a.setIfInBounds i u) e f):=by
 unfold World.setCell;rw[bU,az rfl,h];rfl
def ow(l:List Value)(o:Nat)(vs:List Value):List Value:=l.take o++vs++l.drop (o+vs.length)
def Xr{o:Nat}{v:Bg}(h:o<l.length):ow (l.set o v) (o+1) vs=ow l o (v::vs):=by
 unfold ow;have a:(l.set o v).take (o+1)=l.take o++[v]:=by
  rw[FT,az h,Jr,cu,show min o l.length=o by omega,show o+1-o=1 by omega,List.take_take,show min (o+1) o=o by omega];rfl
 have b:(l.set o v).drop (o+1+vs.length)=l.drop (o+(v::vs).length):=by
  rw[List.drop_set_of_lt (by omega),bT];congr 1;omega
 rw[a,b];simp
def wh{e:Bi}:∀(vs:List Bg) (o:Nat) (w:A1) (l:List Bg),w.heap[g]?=some (.cells l.toArray e f)->o+vs.length<=l.length->(w.setCells g o vs).heap[g]?=some (.cells (ow l o vs).toArray e f)
 | [],o,w,l,h,_=>by
  have e:ow l o []=l:=by simp[ow]
  rw[e];exact h
 |v::vs,o,w,l,h,a=>by
  rw[bT]at a;rw[World.setCells,<-Xr (by omega)];refine wh vs (o+1) _ (l.set o v) ?_ (by simp;omega);rw[wi h];simp
def eD(x:E):List Value:=[.int .i64 x.o,.string x.d,.int .i64 x.v,.int .i64 x.u]
def tQ(L:List E):List Value:=L.flatMap eD
def pad(L:List E):List E:=L++List.replicate (6-L.length) uf
def fq(L:List E):List Value:=tQ (pad L)
def xp(x:E)(L:List E):tQ (x::L)=eD x++tQ L:=by simp[tQ]
def oO(L:List E):(tQ L).length=L.length*4:=by
 induction L with
 |nil=>rfl
 |cons x L a=>rw[xp,aM,a,bT];simp[eD];omega
def AZ(h:L.length<=6):(pad L).length=6:=by simp[pad];omega
def ff(h:L.length<=6):(fq L).length=24:=by rw[fq,oO,AZ h]
def AY:∀(L:List E) (i j:Nat) (h:i<L.length),j<4->(tQ L)[i*4+j]?=(eD L[i])[j]?
 |x::L,0,j,_,a=>by rw[xp,Ga,b9,bn (by simpa[eD] using a)];rfl
 |x::L,i+1,j,h,a=>by
  rw[xp,aQ (by simp[eD];omega)];have e:(i+1)*4+j-(eD x).length=i*4+j:=by simp[eD];omega
  rw[e];exact AY L i j (by simpa using h) a
def Tf(L:List E):∀u∈tQ L,u.oneCell'=true:=by
 intro u a;simp only[tQ,oU]at a;let ⟨x,_,h⟩:=a
 simp[eD]at h;rcases h with rfl|rfl|rfl|rfl<;>rfl
def Ki(a:L.length<=6){j:Nat}(h:i<L.length)(b:j<4):(fq L)[i*4+j]?=(eD L[i])[j]?:=by
 rw[fq,AY (pad L) i j (by rw[AZ a];omega) b];congr 2;exact VT h
def Kp{A:List Bg}{o:Nat}(h:o+vs.length<=A.length):ow (P++A++X) (P.length+o) vs=P++ow A o vs++X:=by
 unfold ow;rw[bQ P A X,Jr,iT (by omega),show P.length+o-P.length=o by omega,Me (by omega)];rw[Jp,j3 (by omega),cH,show P.length+o+vs.length-P.length=o+vs.length by omega,List.drop_append_of_le_length (by omega)];simp
structure cq(w:World)(t:Nat)(P X:List Value)(L:List E)(n:Int):Prop where
 b:L.length<=6
 i:P.length=17
 e:w.heap[t]?=some (.cells (P++(fq L++[Value.int .i64 n])++X).toArray 162)
def cq.lt(h:cq w t P X L n):t<w.heap.size:=(am.1 h.e).1
def cq.ob{bs:List Nat}(h:cq w t P X L n)(a:Ob bs w w')(c:t∉bs):cq w' t P X L n:=⟨h.b,h.i,(a.b t h.lt c).trans h.e⟩
def cq.O(h:cq w t P X L n)(a:Below w.heap.size w w'):cq w' t P X L n:=⟨h.b,h.i,(a.block t h.lt).trans h.e⟩
def cq.j(h:cq w t P X L n):cq w.drew t P X L n:=⟨h.b,h.i,h.e⟩
def cq.I(h:cq w t P X L n)(o:Obj):cq (w.alloc o) t P X L n:=h.O ((au _ _).alloc (aa _) o)
def cq.at(h:cq w t P X L n)(i:Nat)(a:i<25):w.cell? ⟨t,17+i,none⟩=(fq L++[Value.int .i64 n])[i]?:=by
 rw[bS _ _ _ _ _ _ h.e,bo,bQ,aQ (by rw[h.i];omega),h.i,show 17+i-17=i by omega,bn (by rw[aM,ff h.b];simpa using a)]
def cq.h(h:cq w t P X L n):w.cell? ⟨t,41,none⟩=some (.int .i64 n):=by
 rw[h.at 24 (by omega),aQ (by rw[ff h.b];omega),ff h.b];rfl
def cq.H(h:cq w t P X L n)(i:Nat):w.frozen? ⟨t,i,none⟩=false:=by
 simp[World.frozen?,h.e]
def cq.af(h:cq w t P X L n)(i:Nat)(a:i<24):w.cell? ⟨t,17+i,none⟩=(fq L)[i]?:=by
 rw[h.at i (by omega),bn (by rw[ff h.b];omega)]
def cq.V(h:cq w t P X L n)(i j:Nat)(a:i<L.length)(c:j<4):w.cell? ⟨t,17+i*4+j,none⟩=(eD L[i])[j]?:=by
 have:=h.b;rw[iZ,h.af _ (by omega),Ki h.b a c]
def cq.ab(h:cq w t P X L n)(a:i<25):(w.cell? ⟨t,17+i,none⟩).isSome=true:=by
 rw[h.at i a,aB (by rw[aM,ff h.b];simpa using a)];rfl
def cq.ac{o:Nat}{M:List E}{m:Int}(h:cq w t P X L n)(a:M.length<=6)(f:o+vs.length<=25)(c:ow (fq L++[Value.int .i64 n]) o vs=fq M++[Value.int .i64 m]):cq (w.setCells t (17+o) vs) t P X M m:=by
 have d:(fq L++[Value.int .i64 n]).length=25:=by rw[aM,ff h.b];rfl
 refine⟨a,h.i,?_⟩;rw[wh vs (17+o) w _ h.e (by rw[aM,aM,d,h.i];omega),<-h.i,Kp (by omega),c]
def Xs(h:L.length<=6)(n m:Int):ow (fq L++[.int .i64 n]) 24 [.int .i64 m]=fq L++[.int .i64 m]:=by
 have e:=ff h;unfold ow;rw[ND e,j3 (by rw[aM,e];simp),dP]
def cq.Z(h:cq w t P X L n)(m:Int):cq (w.setCell ⟨t,41,none⟩ (.int .i64 m)) t P X L m:=
 h.ac (o:=24) (vs:=[iI m]) h.b (by simp) (Xs h.b n m)
def Ti{x:Bg}:∀(L:List E) (k:Nat),k<L.length->L.length<=6->ow (ow (fq L++[x]) (k*4) (tQ (L.drop (k+1)))) ((L.length-1)*4) (eD uf)=fq (L.eraseIdx k)++[x]
 | [_],0,_,_=>rfl
 | [_,_],0,_,_=>rfl
 | [_,_],1,_,_=>rfl
 | [_,_,_],0,_,_=>rfl
 | [_,_,_],1,_,_=>rfl
 | [_,_,_],2,_,_=>rfl
 | [_,_,_,_],0,_,_=>rfl
 | [_,_,_,_],1,_,_=>rfl
 | [_,_,_,_],2,_,_=>rfl
 | [_,_,_,_],3,_,_=>rfl
 | [_,_,_,_,_],0,_,_=>rfl
 | [_,_,_,_,_],1,_,_=>rfl
 | [_,_,_,_,_],2,_,_=>rfl
 | [_,_,_,_,_],3,_,_=>rfl
 | [_,_,_,_,_],4,_,_=>rfl
 | [_,_,_,_,_,_],0,_,_=>rfl
 | [_,_,_,_,_,_],1,_,_=>rfl
 | [_,_,_,_,_,_],2,_,_=>rfl
 | [_,_,_,_,_,_],3,_,_=>rfl
 | [_,_,_,_,_,_],4,_,_=>rfl
 | [_,_,_,_,_,_],5,_,_=>rfl
 | [],_,h,_=>by simp at h
 | [_],k+1,h,_=>by simp at h
 | [_,_],k+2,h,_=>by simp at h;omega
 | [_,_,_],k+3,h,_=>by simp at h;omega
 | [_,_,_,_],k+4,h,_=>by simp at h;omega
 | [_,_,_,_,_],k+5,h,_=>by simp at h;omega
 | [_,_,_,_,_,_],k+6,h,_=>by simp at h;omega
 |_::_::_::_::_::_::_::_,_,_,h=>by simp at h
def aaK{x:Bg}(e:E):∀(L:List E),L.length<6->ow (fq L++[x]) (L.length*4) (eD e)=fq (L++[e])++[x]
 | [],_=>rfl
 | [_],_=>rfl
 | [_,_],_=>rfl
 | [_,_,_],_=>rfl
 | [_,_,_,_],_=>rfl
 | [_,_,_,_,_],_=>rfl
 |_::_::_::_::_::_::_,h=>by simp at h;omega
def bp{n:Nat}{e:Bi}{v:Bg}{xs:List Bg}(h:w.ownsRow B e s v n xs)(d:∀g,v.ownBlock=some g->w'.heap[g]?=w.heap[g]?):w'.ownsRow B e s v n xs:=by
 refine⟨h.1,?_⟩;rcases h.2 with h|⟨g,a,b,c,f,i,j⟩
 exact .inl h;exact .inr ⟨g,a,b,c,f,(d g (by rw[c];rfl)).trans i,j⟩
def bD{n:Nat}{e:Bi}{v:Bg}{xs:List Bg}(h:w.ownsRow B e s v n xs)(a:Below w.heap.size w w'):w'.ownsRow B e s v n xs:=bp h λg b=>a.block g (h.lt g b).2
def Tj(o:Int)(q:Nat)(x:E)(w:A1)(a:cC w (aA q 0) (iI o)):
  Calls prog 236 #[.agg #[iI x.o,.string x.d,iI x.v,iI x.u],tp q] w λe w'=>e=.returned (.bool (decide (x.o=o)))/\Below w.heap.size w w':=by
 have c:q<w.heap.size:=cS _ _ a;have b:q≠w.heap.size:=by omega
 go_enter func236,ntmps236;go_wp2;all_goals (go_ret;exact⟨rfl,(au _ _).alloc (aa _) _⟩)
def Pj(a:k<L.length)(h:decide (L[k].o=o)=true):we o L (k:Int):=.inr ⟨k,a,rfl,ek h⟩
def Kk(h:∀j (a:j<L.length),decide (L[j].o=o)=false):we o L (-1):=.inl ⟨rfl,λx b=>by
 obtain⟨j,a,rfl⟩:=rg b;exact rK (h j a)⟩
theorem Pk{o:Int}{q t:Nat}{P X:List Value}{L:List E}{n:Int}{w:World}(h:cq w t P X L n)(hcell:cC w (aA q 0) (iI o)):
  Calls prog 235 #[.slice (some (aA t 17)) L.length 6,.func (.func 236) #[] #[tp q]] w λe w'=>∃i,e=.returned (iI i)/\we o L i/\Below w.heap.size w w':=by
 have h6:=h.b
 go_enter func235,ntmps235
 go_wp2
 go_loopw [8] (λi wr=>∃k:Nat,k<=L.length/\i=iI k/\Hid (∀j (hj:j<L.length),j<k->decide (L[j].o=o)=false)/\Below w.heap.size w wr) (λi _=>L.length-(intOf i).toNat)
 case atStart=>exact⟨0,by omega,rfl,(λj _ hj=>by omega:∀j (hj:j<L.length),j<0->decide (L[j].o=o)=false),au _ _⟩
 case round=>
  obtain⟨k,hk,rfl,hA,hbl⟩:=hrel
  by_cases hlt:k<L.length
  .have hltz:(k:Int)<(L.length:Int):=by omega
   have hr:=h.O hbl
   have c0:=hr.V k 0 hlt (by omega)
   have c1:=hr.V k 1 hlt (by omega)
   have c2:=hr.V k 2 hlt (by omega)
   have c3:=hr.V k 3 hlt (by omega)
   have hcall:=Tj o q L[k] wr ((hbl.cell (p:=(aA q 0)) (cS _ _ hcell)).trans hcell)
   simp only[eD,bm,aY,lL]at c0 c1 c2 c3
   let ⟨y,hy⟩:∃y,L[k]=y:=⟨_,rfl⟩
   rw[hy]at hcall c0 c1 c2 c3
   let ⟨p,hp⟩:∃p,decide (y.o=o)=p:=⟨_,rfl⟩
   rw[hp]at hcall
   have HQ:Hid (decide (L[k].o=o)=p):=by rw[hy];exact hp
   have HB :Hid _:= hbl
   cases p with
   |true=>
    go_wp2_with fail
    apply hcall.mono
    rintro e w'⟨rfl,hb'⟩
    go_wp2_with fail
    go_ret
    exact⟨_,rfl,Pj hlt HQ.out,HB.out.trans (hb'.mono HB.out.size)⟩
   |false=>
    go_wp2_with fail
    apply hcall.mono
    rintro e w'⟨rfl,hb'⟩
    go_wp2_with fail
    go_roundw
    case rel=>
     refine⟨k+1,by omega,by go_num,(λj hj hjk=>?_:∀j (hj:j<L.length),j<k+1->decide (L[j].o=o)=false),HB.out.trans (hb'.mono HB.out.size)⟩
     by_cases e:j=k
     .subst e;exact HQ.out
     .exact hA.out j hj (by omega)
    case measure=>simp[intOf];omega
  .obtain rfl:k=L.length:=by omega
   have hltz:¬(L.length:Int)<(L.length:Int):=by omega
   have HK:Hid (we o L (-1)):=Kk λj hj=>hA.out j hj hj

   go_wp2
   go_ret
   exact⟨_,rfl,HK.out,hbl⟩
def AX(o:Int)(h:cq w t P X L L.length):
  Calls prog 199 #[kp t,iI o] w λe w'=>∃i,e=.returned (iI i)/\we o L i/\Below w.heap.size w w':=by
 have q:=h.b;have k:(0:Int)<=(L.length:Int):=by omega
 have l:(L.length:Int)<=6:=by omega
 have f:=h.I (.cells #[.int .i64 o] 3);have a:Below w.heap.size w (w.alloc (.cells #[.int .i64 o] 3)):=(au _ _).alloc (aa _) _;have c:(w.alloc (.cells #[.int .i64 o] 3)).cell? ⟨w.heap.size,0,none⟩=some (.int .i64 o):=by rw[bS _ _ _ _ _ _ (bw w _)];rfl
 go_enter func199,ntmps199;go_wp2_with fail
 generalize w.alloc (.cells #[iI o] 3)=w1 at f a c⊢;have r:=f.h;have g :Hid _:= a;go_region_held3 (λw'=>cC w' (aA t 41) (iI L.length)) (assumption) (first|(go_at_call 235;refine(Pk f.j c).mono ?_;rintro e w3⟨i,rfl,m,d⟩;have n:=(λw' p=>(f.j.O p).h) w3 d))
 go_wp2_with fail
 go_ret;exact⟨i,rfl,m,g.out.drew.trans (d.mono g.out.size)⟩
def Kn:(prog.info? 156).map (λi=>(i.zero,i.size,i.bytes))=some (some (.agg #[iI 0,.string ⟨#[]⟩,iI 0,iI 0]),4,40):=by kernel_rfl
def Xn(g o j:Nat):((aA g o):Addr).add j=(aA g (o+j)):=by unfold Addr.add;split<;>simp_all
def Td(h:cq w t P X L n):∀j u,(tQ (L.drop (k+1)))[j]?=some u->w.drew.cell? (((aA t (17+(k+1)*4)):Addr).add j)=some u:=by
 intro j u c;have f:=h.b;have d:=(aT.1 c).1;rw[oO,cK]at d;obtain⟨a,b,rfl,e⟩:∃a b,j=a*4+b/\b<4:=⟨j/4,j%4,by omega,by omega⟩;rw[AY _ a b (by rw[cK];omega) e,List.getElem_drop]at c;rw[Xn,show 17+(k+1)*4+(a*4+b)=17+(k+1+a)*4+b by omega];show w.cell? (aA t (17+(k+1+a)*4+b))=some u;rw[h.V (k+1+a) b (by omega) e];exact c
def Pg(h:cq w t P X L n)(a:L.length=k+m+1):∀j,j<m*4->(w.drew.cell? (aA t (17+k*4+j))).isSome=true/\w.drew.frozen? (aA t (17+k*4+j))=false:=λj c=>by
 have d:=h.b;rw[iZ];exact⟨h.ab (by omega),h.H _⟩
def ue:∀(vs:List Bg) (o:Nat) (w:A1) (x:Addr),(w.cell? x).isSome=true->((w.setCells g o vs).cell? x).isSome=true
 | [],_,_,_,h=>h
 |v::vs,o,w,x,h=>by
  rw[World.setCells];apply ue vs (o+1) _ x;let ⟨u,b⟩:=aV.1 h
  let ⟨c,a⟩:=dO (p:=(aA g o)) (x:=v) b
  rw[a];rfl
def Ph(news:List Bg)(h:cq w t P X L n)(a:L.length=k+m+1):∀j,j<4->((w.drew.setCells t (17+k*4) news).cell? (aA t (17+(k+m)*4+j))).isSome=true:=λj c=>by
 have d:=h.b;rw[iZ];exact ue _ _ _ _ (h.ab (by omega))
def Pf(W:A1)(g o c:Nat)(hc:∀j,j<4->(W.cell? (aA g (o+j))).isSome=true)(d:∀j,j<4->W.frozen? (aA g (o+j))=false):
  (Builtin.clear_ #[315] 0 #[.slice (some (aA g o)) 1 c]).run prog W=.ok (.tuple #[]) (W.setCells g o (eD uf)):=by
 have a:=Cn (P:=prog) g o (eD uf) 0 W (by simpa[eD] using hc) (by simpa[eD] using d) (by intro v b;simp[eD]at b;rcases b with rfl|rfl|rfl|rfl<;>rfl);simp at a;have e:(Builtin.zeroCells #[Value.int .i64 0,Value.string ⟨#[]⟩,Value.int .i64 0,Value.int .i64 0] 1).toList=eD uf:=by kernel_rfl
 simp[Builtin.clear_,jm underlying315,Value.cells,e,a]
def Pn{o:Nat}(h:o+vs.length<=l.length):(ow l o vs).length=l.length:=by
 unfold ow;rw[aM,aM,cu,cK];omega
def Xp(h:cq w t P X L n)(d:L.length=k+m+1):
  cq ((w.drew.setCells t (17+k*4) (tQ (L.drop (k+1)))).setCells t (17+(k+m)*4) (eD uf)) t P X (L.eraseIdx k) n/\Ob [t] w ((w.drew.setCells t (17+k*4) (tQ (L.drop (k+1)))).setCells t (17+(k+m)*4) (eD uf)):=by
 have ⟨q,a,_⟩:=h

 have f:=ff h.b;have c:(fq L++[Value.int .i64 n]).length=25:=by rw[aM,f];rfl
 have g:(tQ (L.drop (k+1))).length=m*4:=by rw[oO,cK,d];omega
 have j:=wh (tQ (L.drop (k+1))) (17+k*4) w.drew _ h.e (by rw[g,aM,aM,c,a];omega);rw[<-a,Kp (by rw[g,c];omega),a]at j;have el:=Pn (l:=fq L++[Value.int .i64 n]) (vs:=tQ (L.drop (k+1))) (o:=k*4) (by rw[g,c];omega);rw[c]at el;have p:=wh (eD uf) (17+(k+m)*4) _ _ j (by rw[aM,aM,el,a];simp[eD];omega);rw[<-a,Kp (by rw[el];simp[eD];omega),a,show (k+m)*4=(L.length-1)*4 by rw[d];rfl,Ti L k (by omega) q]at p;refine⟨⟨by have:=gE (l:=L) (i:=k) (by omega);omega,a,?_⟩,?_⟩;rw[show (k+m)*4=(L.length-1)*4 by rw[d];rfl];exact p;exact Ob.I (by simp) _ _ _ (Ob.I (by simp) _ _ _ (Ob.O _ _).V)
def Xo(h:cq w t P X L n)(S:k<L.length):
  Calls prog 261 #[.slice (some (aA t 17)) L.length 6,iI k,iI ((k:Int)+1)] w λe w'=>e=.returned (.slice (some (aA t 17)) (L.length-1) 6)/\cq w' t P X (L.eraseIdx k) n/\Ob [t] w w':=by
 let ⟨A,B,F,l,G⟩:=dw Kn
 have I:=h.b;let ⟨m,o⟩:∃m,L.length=k+m+1:=⟨L.length-(k+1),by omega⟩
 have f:=Xp h o;have c:=Td (k:=k) h;let ⟨a,g⟩:∃a,tQ (L.drop (k+1))=a:=⟨_,rfl⟩
 have r:a.length=m*4:=by rw[<-g,oO,cK,o];omega
 have C:=Pf (w.drew.setCells t (17+k*4) a) t (17+(k+m)*4) (6-(k+m)) (Ph a h o) (λj _=>by rw[i8];exact h.H _);have d:=Pg h o;rw[g]at c f;rw[o]at I⊢;have J:((k:Int)==(k:Int)+1)=false:=by simp;omega
 have K:k<=6:=by omega
 have M:(k:Int)<=6:=by omega
 have N:(0:Int)<=(k:Int)+1:=by omega
 have O:(k:Int)+1<=(k:Int)+(m:Int)+1:=by omega
 have Q:((k:Int)+1).toNat=k+1:=by omega
 have s :Hid _:= c;have v :Hid _:= d;have i :Hid _:= r;have x :Hid _:= (λu y=>Tf (L.drop (k+1)) u (by rw[g];exact y));have D :Hid _:= f;by_cases z:k=5
 .obtain rfl:m=0:=by omega
  have p:= dG (by have:=i.out;omega);subst p;subst z;go_enter func261,ntmps261;go_wp2_with fail
  go_region_law (refine step_append_room rfl (.tmp 22) (.tmp 25) 315 rfl 156 A 4 underlying315 B l t 17 5 6 (by simp[Act.eval,Act.put]) (aA t 17) 0 0 [] (by simp[Act.eval,Act.put]) rfl (λj u q=>by simp at q) (λu y=>by simp at y) (by omega) (λj q=>by simp at q) ?_);all_goals go_wp2_with fail
  all_goals go_ret
  exact⟨rfl,D.out⟩
 .have R:¬(k+1=6):=by omega
  have E:¬(6=k+1):=by omega
  go_enter func261,ntmps261;go_wp2_with fail
  go_region_law (refine step_append_room rfl (.tmp 22) (.tmp 25) 315 rfl 156 A 4 underlying315 B l t 17 k 6 (by simp[Act.eval,Act.put]) (aA t (17+(k+1)*4)) m (5-k) a (by simp[Act.eval,Act.put]) i.out s.out x.out (by omega) (λj q=>v.out j (by rw[<-i.out];exact q)) ?_);all_goals go_wp2_with fail
  all_goals go_ret
  exact⟨rfl,D.out⟩
def xq(k:Nat)(h:k<=1000000):IntKind.i64.wrap ((k:Int)+1)=(k:Int)+1:=by
 have e:IntKind.i64.wrap (((k+1:Nat):Int))=((k+1:Nat):Int):=by
  simp[IntKind.wrap,IntKind.signed,IntKind.bits];omega
 simpa using e
def A0(k:Nat)(h:cq w t P X L L.length)(d:k<L.length):
  Calls prog 237 #[kp t,iI k] w λe w'=>e=.returned (.tuple #[])/\cq w' t P X (L.eraseIdx k) (L.eraseIdx k).length/\Ob [t] w w':=by
 have n:=h.b;have o:=h.h;have f:(0:Int)<=(L.length:Int):=by omega
 have g:(L.length:Int)<=6:=by omega
 have i:=xq k (by omega);go_enter func237,ntmps237;go_wp2_with fail
 go_region_with (first|(go_at_call 261;refine(Xo h.j d).mono ?_;rintro e w3⟨rfl,a,c⟩;have l:=a.h;have m:=a.H 41))
 go_end0;rw[show L.length-1=(L.eraseIdx k).length from(gE d).symm];exact⟨rfl,a.Z _,((Ob.O _ _).V.j c).e (by simp)⟩
def Te{i:Int}(d:L.Pairwise λa b=>a.o≠b.o)(h:we o L i)(f:0<=i):∃k:Nat,i=(k:Int)/\k<L.length/\qm o L=L.eraseIdx k:=by
 rcases h with⟨rfl,_⟩|⟨k,c,rfl,e⟩
 omega;exact⟨k,rfl,c,aaI d c e⟩
def Pi{i:Int}(h:we o L i)(a:¬0<=i):qm o L=L:=by
 rcases h with⟨_,h⟩|⟨k,_,rfl,_⟩
 exact Kj h;omega
def G8(o:Int)(h:cq w t P X L L.length)(r:L.Pairwise λa b=>a.o≠b.o):
  Calls prog 230 #[kp t,iI o] w λe w'=>e=.returned (.tuple #[])/\cq w' t P X (qm o L) (qm o L).length/\Ob [t] w w':=by
 have c:=AX o h;go_enter func230,ntmps230;go_wp2_with fail
 apply c.mono;rintro e w3⟨i,rfl,n,d⟩;have p:=h.O d;have f:Hid (Ob [t] w w3):=Ob.H d;by_cases q:0<=i
 .obtain⟨k,rfl,s,u⟩:=Te r n q;have g :Hid _:= u;go_wp2_with fail
  apply (A0 k p s).mono;rintro e w4⟨rfl,l,m⟩;go_wp2_with fail
  go_end0;rw[g.out];exact⟨rfl,l,f.out.j m⟩
 .have g :Hid _:= Pi n q;go_wp2_with fail
  go_end0;rw[g.out];exact⟨rfl,p,f.out⟩
def lP(L:List E)(e:E):List E:=(if (qm e.o L).length=6 then (qm e.o L).eraseIdx 0 else qm e.o L)++[e]
def VB(w:World)(q:Nat)(d:ByteArray)(v:Int):Prop:=w.heap[q]?=some (.cells #[.string d,.int .i64 v] 41)
def VB.j(w:A1)(d:Bh)(v:Int):VB (w.alloc (.cells #[.string d,.int .i64 v] 41)) w.heap.size d v:=bw w _
def VB.O{q:Nat}{v:Int}(h:VB w q d v):q<w.heap.size:=(am.1 h).1
def VB.H{q:Nat}{v:Int}{bs:List Nat}(h:VB w q d v)(a:Ob bs w w')(c:q∉bs):VB w' q d v:=(a.b q h.O c).trans h
def VB.e{q:Nat}{v:Int}(h:VB w q d v):w.cell? ⟨q,0,none⟩=some (.string d)/\w.cell? ⟨q,1,none⟩=some (.int .i64 v):=by
 refine⟨?_,?_⟩<;>(rw[bS _ _ _ _ _ _ h];rfl)
def AW{e:E}:(eD e).toArray.all (·.oneCell')=true:=all_oneCell_toArray (by intro u a;simp[eD]at a;rcases a with rfl|rfl|rfl|rfl<;>rfl)
def yg:(prog.info? 156).map (·.size)=some 4:=by kernel_rfl
def cq.ae{M:List E}(h:cq w t P X M n)(a:M.length<6):w.there t (17+M.length*4) 4:=λj b=>⟨by rw[iZ];exact h.ab (by omega),h.H _⟩
def MR{M:List E}(h:cq w t P X M n)(a:M.length<6)(e:E):cq (w.setCells t (17+M.length*4) (eD e)) t P X (M++[e]) n/\Ob [t] w (w.setCells t (17+M.length*4) (eD e)):=
 ⟨h.ac (by simp;omega) (by simp[eD];omega) (aaK e M a),Ob.I (by simp) _ _ _ (Ob.O _ _)⟩
def MQ(o:Int)(d:Bh)(v u:Int)(h:cq w t P X L L.length)(R:L.Pairwise λa b=>a.o≠b.o):
  Calls prog 200 #[kp t,.int .i64 o,.agg #[.string d,.int .i64 v],.int .i64 u] w λe w'=>e=.returned (.tuple #[])/\cq w' t P X (lP L ⟨o,d,v,u⟩) (lP L ⟨o,d,v,u⟩).length/\Ob [t] w w':=by
 have G:=h.I (.cells #[.string d,iI v] 41);have J:=VB.j w d v;have K:=(Ob.O [t] w).Z (.cells #[.string d,iI v] 41);have m:w.heap.size∉[t]:=by have:=h.lt;simp;omega
 go_enter func200,ntmps200;go_wp2_with fail
 generalize w.alloc (.cells #[.string d,iI v] 41)=w1 at G J K⊢;apply (G8 o G R).mono;rintro e w2⟨rfl,f,n⟩;have p:=J.H n m;have q:=K.j n;have r:lP L ⟨o,d,v,u⟩=(if (qm o L).length=6 then (qm o L).eraseIdx 0 else qm o L)++[⟨o,d,v,u⟩]:=rfl;generalize qm o L=M at f r;have hm:=f.h;have h6:=f.b;by_cases Q:M.length=6
 .have B:((M.length:Int)==6)=true:=by simp;omega
  rw[az Q]at r;have A :Hid _:= r;have s:(M.eraseIdx 0).length=5:=by rw[gE (by omega)];omega
  go_wp2_with fail
  apply (A0 0 f (by omega)).mono;rintro e w3⟨rfl,i,x⟩;have y:=p.H x m;have k :Hid _:= q.j x;generalize M.eraseIdx 0=N at i A s;have z:N.length<6:=by omega
  have C:(N.length:Int)<6:=by omega
  have h0:(0:Int)<=(N.length:Int):=by omega
  have S:=xq N.length (by omega);clear s;obtain⟨b0,T⟩:=y.e;have U:=i.h;have c:=MR i.j z ⟨o,d,v,u⟩;clear y;go_wp2_with fail
  go_still_tail 12,(by kernel_rfl);apply wpList_store_mid rfl 156 (.tmp 29) (.tmp 26) rfl t (17+N.length*4) (eD ⟨o,d,v,u⟩).toArray rfl rfl (i.j.ae z) yg (AW);change wpList _ _ _ _ _ (w3.drew.setCells t (17+N.length*4) (eD ⟨o,d,v,u⟩));generalize w3.drew.setCells t (17+N.length*4) (eD ⟨o,d,v,u⟩)=w4 at c⊢;let ⟨g,l⟩:=c
  have D:=g.h;have F:=g.H 41;go_wp2_with fail
  go_end0;have W:=g.Z ((N++[(⟨o,d,v,u⟩:E)]).length);rw[A.out];refine⟨rfl,?_,((k.out.V.j l)).e (by simp)⟩;simpa using W
 .have B:((M.length:Int)==6)=false:=by simp;omega
  rw[ax Q]at r;have A :Hid _:= r;have z:M.length<6:=by omega
  have C:(M.length:Int)<6:=by omega
  have h0:(0:Int)<=(M.length:Int):=by omega
  have k :Hid _:= q;have S:=xq M.length (by omega);let ⟨b0,T⟩:=p.e
  have Y:=f.h;have c:=MR f.j z ⟨o,d,v,u⟩;go_wp2_with fail
  go_still_tail 12,(by kernel_rfl);apply wpList_store_mid rfl 156 (.tmp 29) (.tmp 26) rfl t (17+M.length*4) (eD ⟨o,d,v,u⟩).toArray rfl rfl (f.j.ae z) yg (AW);change wpList _ _ _ _ _ (w2.drew.setCells t (17+M.length*4) (eD ⟨o,d,v,u⟩));generalize w2.drew.setCells t (17+M.length*4) (eD ⟨o,d,v,u⟩)=w4 at c⊢;let ⟨g,l⟩:=c
  have D:=g.h;have F:=g.H 41;go_wp2_with fail
  go_end0;rw[A.out];refine⟨rfl,?_,((k.out.V.j l)).e (by simp)⟩;simpa using (g.Z ((M++[(⟨o,d,v,u⟩:E)]).length))
def Km:(prog.info? 159).map (·.size)=some 25:=by kernel_rfl
def C9(h:cq w t P X L L.length):
  Calls prog 231 #[kp t] w λe w'=>e=.returned (.tuple #[])/\cq w' t P X [] (([]:List E).length:Nat)/\Ob [t] w w':=by
 have a:cq (w.setCells t 17 (fq []++[Value.int .i64 0])) t P X [] (([]:List E).length:Nat)/\Ob [t] w (w.setCells t 17 (fq []++[Value.int .i64 0])):=by
  refine⟨h.ac (o:=0) (by simp) (by simp[ff]) ?_,Ob.I (by simp) _ _ _ (Ob.O _ _)⟩;unfold ow;rw[j3 (by rw[aM,aM,ff h.b,ff (by simp)];simp)];simp
 go_enter func231,ntmps231;go_wp2_with (refine wpList_store_mid rfl 159 (.tmp 4) (.tmp 3) rfl t 17 (fq []++[Value.int .i64 0]).toArray rfl rfl (λj c=>⟨h.ab (by have:(fq []++[Value.int .i64 0]).toArray.size=25:=rfl;omega),h.H _⟩) Km (by kernel_rfl) ?_)
 go_end0;exact⟨rfl,a⟩
def Kl{i:Int}(h:we o L i)(a:∀x∈L,x.o≠o):i = -1:=by
 rcases h with⟨rfl,_⟩|⟨k,b,_,c⟩
 rfl;exact absurd c (a _ (bA b))
def Tg{i:Int}(h:we o L i)(l:L.Pairwise λa b=>a.o≠b.o)(d:k<L.length)(e:L[k].o=o):i=(k:Int):=by
 rcases h with⟨_,m⟩|⟨j,f,rfl,c⟩
 exact absurd e (m _ (bA d));have g:=tL.1 l;rcases FZ j k with q|q|q
 exact absurd (c.trans e.symm) (g j k f d q);rw[q];exact absurd (e.trans c.symm) (g k j d f q)
def Kr(d:ByteArray)(v:Int):List Value:=[.string d,.int .i64 v]
def VB.I{q:Nat}{d':Bh}{v a:Int}(h:VB w q d v):VB (w.setCells q 0 (Kr d' a)) q d' a:=wh (Kr d' a) 0 w [.string d,iI v] h (by simp[Kr])
def VB.h{q:Nat}{v:Int}(h:VB w q d v)(i:Nat):w.frozen? ⟨q,i,none⟩=false:=by
 unfold VB at h;simp[World.frozen?,h]
def Th(h:cq w t P X L L.length)(m:∀x∈L,x.o≠o):
  Calls prog 142 #[kp t,.int .i64 o] w λe w'=>e=.returned (.tuple #[.agg #[.string ⟨#[]⟩,.int .i64 0],.int .i64 0,.iface 59 (.int .i64 7)])/\Below w.heap.size w w':=by
 have f:=h.I (.cells #[.string ⟨#[]⟩,iI 0] 41);have g:=VB.j w ⟨#[]⟩ 0;have d:Below w.heap.size w (w.alloc (.cells #[.string ⟨#[]⟩,iI 0] 41)):=(au _ _).alloc (aa _) _

 go_enter func142,ntmps142;go_wp2_with fail
 generalize w.alloc (.cells #[.string ⟨#[]⟩,iI 0] 41)=w1 at f g d⊢;apply (AX o f).mono;rintro e w2⟨i,rfl,n,b⟩;obtain rfl:=Kl n m;have a:=g.H (bs:=[]) (Ob.H b) (by simp);have k:Hid (Below w.heap.size w w2):=d.trans (b.mono d.size)

 let ⟨b0,p⟩:=a.e
 have q:=a.h 0;have r:=a.h 1;have c:VB ((w2.setCell (aA w.heap.size 0) (.string ⟨#[]⟩)).setCell (aA w.heap.size 1) (iI 0)) w.heap.size ⟨#[]⟩ 0:=a.I;have l:Ob [w.heap.size] w2 ((w2.setCell (aA w.heap.size 0) (.string ⟨#[]⟩)).setCell (aA w.heap.size 1) (iI 0)):=((Ob.O _ _).e (by simp)).e (by simp);go_wp2_with fail
 generalize (w2.setCell (aA w.heap.size 0) _).setCell (aA w.heap.size 1) _=w3 at c l⊢;let ⟨c0,c1⟩:=c.e
 refine bz (v:=.tuple #[.agg #[.string ⟨#[]⟩,iI 0],iI 0,.iface 59 _]) (by simp[results,results142,go_sem,c0,c1]) rfl ⟨rfl,?_⟩;exact k.out.trans (l.ac (by simp) k.out.size)
def EB(w:World)(q:Nat)(x:E):Prop:=w.heap[q]?=some (.cells #[.int .i64 x.o,.string x.d,.int .i64 x.v,.int .i64 x.u] 156)
def EB.h(w:A1)(x:E):EB (w.alloc (.cells #[.int .i64 x.o,.string x.d,.int .i64 x.v,.int .i64 x.u] 156)) w.heap.size x:=bw w _
def EB.j{q:Nat}(h:EB w q x):q<w.heap.size:=(am.1 h).1
def EB.H{q:Nat}{bs:List Nat}(h:EB w q x)(a:Ob bs w w')(c:q∉bs):EB w' q x:=(a.b q h.j c).trans h
def EB.e{q:Nat}(h:EB w q x):w.cell? ⟨q,0,none⟩=some (.int .i64 x.o)/\w.cell? ⟨q,1,none⟩=some (.string x.d)/\w.cell? ⟨q,2,none⟩=some (.int .i64 x.v)/\w.cell? ⟨q,3,none⟩=some (.int .i64 x.u):=by
 refine⟨?_,?_,?_,?_⟩<;>(rw[bS _ _ _ _ _ _ h];rfl)
def Xq(h:cq w t P X L L.length)(T:L.Pairwise λa b=>a.o≠b.o)(s:k<L.length)(D:L[k].o=o):
  Calls prog 142 #[kp t,.int .i64 o] w λe w'=>e=.returned (.tuple #[.agg #[.string L[k].d,.int .i64 L[k].v],.int .i64 L[k].u,.nilIface])/\cq w' t P X (lP L L[k]) (lP L L[k]).length/\Ob [t] w w':=by
 have E:=h.lt;have h6:=h.b;have F:=h.I (.cells #[.string ⟨#[]⟩,.int .i64 0] 41);have U:=VB.j w ⟨#[]⟩ 0;have G:Below w.heap.size w (w.alloc (.cells #[.string ⟨#[]⟩,.int .i64 0] 41)):=(au _ _).alloc (aa _) _

 go_enter func142,ntmps142;go_wp2_with fail
 generalize w.alloc (.cells #[.string ⟨#[]⟩,.int .i64 0] 41)=w1 at F U G⊢;apply (AX o F).mono;rintro e w2⟨i,rfl,hF,l⟩;obtain rfl:=Tg hF T s D;have y:=U.H (bs:=[]) (Ob.H l) (by simp);have c:=F.O l;have HB:Hid (Below w.heap.size w w2):=G.trans (l.mono G.size)

 have W:=c.V k 0 s (by omega);have Y:=c.V k 1 s (by omega);have e2:=c.V k 2 s (by omega);have e3:=c.V k 3 s (by omega);simp only[eD,bm,aY,lL]at W Y e2 e3;let ⟨x,hx⟩:∃x,L[k]=x:=⟨_,rfl⟩
 rw[hx]at D W Y e2 e3;subst D;have HX:Hid (L[k]=x):=hx

 have ad:(k:Int)<6:=by omega
 have aI:(0:Int)<=(k:Int):=by omega
 have aS:¬((k:Int)<0):=by omega
 have m:=EB.h w2 x;have z:=c.I (.cells #[.int .i64 x.o,.string x.d,.int .i64 x.v,.int .i64 x.u] 156);have n:=(Ob.O [t] w2).Z (.cells #[.int .i64 x.o,.string x.d,.int .i64 x.v,.int .i64 x.u] 156);have A:=y.H n (by simp;omega);have f:=y.O;have J:Ob [t] w w2:=Ob.H HB.out

 go_wp2_with fail
 generalize w2.alloc (.cells #[.int .i64 x.o,.string x.d,.int .i64 x.v,.int .i64 x.u] 156)=w3 at m z n A⊢;have B:Hid (Ob [t] w w3):=J.j n;let ⟨q,hq⟩:∃q,w2.heap.size=q:=⟨_,rfl⟩
 rw[hq]at m f⊢;have K:q∉[t]:=by have:=c.lt;simp;omega

 apply (MQ x.o x.d x.v x.u z T).mono;rintro e w4⟨rfl,M,r⟩;have N:=m.H r K;have g:=A.H r (by simp;omega);have Q:Hid (Ob [t] w w4):=B.out.j r;have R:Hid (cq w4 t P X (lP L x) (lP L x).length):=M

 let ⟨p,hp⟩:∃p,w.heap.size=p:=⟨_,rfl⟩
 rw[hp]at g f E⊢;have a0:p≠q:=by omega
 let ⟨q0,q1,q2,q3⟩:=N.e
 let ⟨b0,b1⟩:=g.e
 have f0:=g.h 0;have f1:=g.h 1;have C:VB ((w4.setCell ⟨p,0,none⟩ (.string x.d)).setCell ⟨p,1,none⟩ (.int .i64 x.v)) p x.d x.v:=VB.I g;have S:Ob [p] w4 ((w4.setCell ⟨p,0,none⟩ (.string x.d)).setCell ⟨p,1,none⟩ (.int .i64 x.v)):=((Ob.O _ _).e (by simp)).e (by simp);go_wp2_with fail
 go_region_held3 (λw'=>w'.cell? ⟨q,1,none⟩=some (.string x.d)/\w'.cell? ⟨q,2,none⟩=some (.int .i64 x.v)/\w'.cell? ⟨q,3,none⟩=some (.int .i64 x.u)) (go_keep) (fail)
 go_wp2_with fail
 generalize (w4.setCell (aA p 0) _).setCell (aA p 1) _=w5 at C S⊢;let ⟨c0,c1⟩:=C.e
 rw[HX.out];refine bz (v:=.tuple #[.agg #[.string x.d,iI x.v],iI x.u,.nilIface]) (by simp[results,results142,go_sem,c0,c1]) rfl ⟨rfl,(R.out.ob S (by simp;omega)).j,Ob.V ?_⟩;exact Ob.ae (q:=p) ((Q.out.ab (by simp)).j (S.ab (by simp))) (by omega)
end Cache
namespace Lease
variable{t:Nat}{w:A1}
def Hb{m n:Nat}(c o:Int){D:ka}{v s:Int->Int}(h:cL w t m D v s n)(hc:gv c)(f:gv o):
  Calls prog 229 #[tp t,iI c,iI o] w λe w'=>e=.returned (.tuple #[])/\cL w' t m (D.del (kk c o)) v s n/\Ob [m] w w':=by
 have g:=h.j;go_enter func229,ntmps229;go_wp2_with (at_delete;refine wpList_delete_own _ rfl _ _ 298 335 rfl 3 xr underlying298 (plainElem prog 3) m n D rfl h.b _ _ rfl (Pr hc f) ?_;intro w1 d a)
 go_end0;exact⟨rfl,(h.V a d),((Ob.V [m] w).ab a (by simp))⟩
theorem Tp{t m n c:Nat}{D:ka}{v s:Int->Int}{w:World}(h:cL w t m D v s n)(hc:c<4)(hs:s c<9223372036854775807):
  Calls prog 234 #[tp t,iI c] w λe w'=>e=.returned .nilIface/\cL w' t m (fV D c 8) (gV v c 0) (gV s c (s c+1)) n/\Ob [t,m] w w':=by
 have hcl:qK c=true:=Num.fX (by omega) (by omega)
 have hc0:(0:Int)<=c:=by omega
 have hc4:(c:Int)<4:=by omega
 go_enter func234,ntmps234
 go_wp2_with (first|(go_at_call 255;refine(jX).mono ?_;rintro x w'⟨rfl,rfl⟩))
 go_loopw [10] (λi wr=>∃k:Nat,k<=8/\i=iI k/\cL wr t m (fV D c k) v s n/\Ob [t,m] w' wr) (λi _=>8-(intOf i).toNat)
 case atStart=>exact⟨0,by omega,rfl,h,Ob.V _ _⟩
 case round=>
  obtain⟨k,hk,rfl,hr,hO⟩:=hrel
  by_cases hk8:k<8
  .have hk':(k:Int)<8:=by omega
   go_wp2_with fail
   refine(Hb c k hr (MS hcl) ⟨by omega,by omega⟩).mono ?_
   rintro e w1⟨rfl,hr1,hO1⟩
   have hO2:=hO.j (hO1.Z (by simp))
   go_wp2
   go_roundw
   case rel=>exact⟨k+1,by omega,by go_num,hr1,hO2⟩
   case measure=>simp[intOf];omega
  .obtain rfl:k=8:=by omega
   have c1:=hr.p c hc
   have f1:=hr.h (1+c)
   have F:=hr.O hc (x:=0) ⟨by omega,by omega⟩
   have hO2:=hO.H (q:=t) (i:=1+c) (by simp) (u:=iI 0)
   go_wp2_with fail
   generalize wr.setCell (aA t (1+c)) (iI 0)=w2 at *
   have c2:=F.u c hc
   have f2:=F.h (5+c)
   have hs0:= ((F.o c).2).1
   go_still_tail 10,(by kernel_rfl)
   go_wp2
   go_ret
   exact⟨rfl,(F.I.ab hc (x:=s c+1) ⟨by omega,by omega⟩),(hO2.I.H (q:=t) (i:=5+c) (by simp) (u:=iI (s c+1)))⟩
def Pq{cs:Array Bg}{T:Bi}(h:w.heap[t]?=some (.cells cs T)){i:Nat}:w.frozen? (aA t i)=false:=by
 unfold World.frozen?

 rw[h];simp
def Xv(w:A1):
  Calls prog 173 #[] w λe w'=>e=.returned (tp (w.heap.size+1))/\cL w' (w.heap.size+1) w.heap.size (.map []) (λ_=>0) (λ_=>0) 0/\Below w.heap.size w w'/\w'.heap.size=w.heap.size+2:=by
 have d:=λ(t:Bi) (w:A1)=>run_makeMap (P:=prog) t w;go_enter func173,ntmps173;go_wp2;go_ret;have c:(w.alloc (Obj.map #[] 0)).heap.size=w.heap.size+1:=by simp
 have a:=bw (w.alloc (Obj.map #[] 0)) (.cells #[.map (some w.heap.size),iI 0,iI 0,iI 0,iI 0,iI 0,iI 0,iI 0,iI 0] 301);rw[c]at a;refine⟨rfl,⟨?_,λi b=>?_,λi b=>?_,λi=>?_,((World.ownsMap_made w prog 335 (plainElem (H:=Unit) prog 3)).alloc (.cells #[.map (some w.heap.size),iI 0,iI 0,iI 0,iI 0,iI 0,iI 0,iI 0,iI 0] 301)),λi=>⟨⟨by omega,by omega⟩,by omega,by omega⟩,_,_,a⟩,(((au w.heap.size w).alloc (aa _) (Obj.map #[] 0)).alloc (by simp) (.cells #[.map (some w.heap.size),iI 0,iI 0,iI 0,iI 0,iI 0,iI 0,iI 0,iI 0] 301)),by simp⟩;rw[bS _ _ _ _ _ _ a];rfl;rw[bS _ _ _ _ _ _ a];match i,b with
 |0,_=>rfl
 |1,_=>rfl
 |2,_=>rfl
 |3,_=>rfl
 rw[bS _ _ _ _ _ _ a];match i,b with
 |0,_=>rfl
 |1,_=>rfl
 |2,_=>rfl
 |3,_=>rfl
 exact Pq a
end Lease
namespace Wire
variable{l ys:List Int}{B k n:Nat}{o:Obj}{w:A1}
def Dq:(prog.info? 5).map (λi=>(i.zero,i.size,i.bytes))=some (some (.int .u8 0),1,1):=by kernel_rfl
def uJ(w:World)(B:Nat)(v:Value)(l:List Int):Prop:=w.ownsRow B 5 1 v l.length (l.map (Value.int .u8))
def uJ.h{v:Bg}(h:uJ w B v l):w.ownsRow B 5 1 v l.length (l.map (Value.int .u8)):=h
def uJ.e{v:Bg}(h:uJ w B v l):(w.alloc o).ownsRow B 5 1 v l.length (l.map (Value.int .u8)):=rH h o
def uJ.O:uJ w B (.slice none 0 0) []:=jE _ _ _ _
def M5(w:A1){x:Bg}{t:Bi}:∀j u,[x][j]?=some u->(w.alloc (.cells #[x] t)).cell? (((aA w.heap.size 0):Addr).add j)=some u:=by
 intro j u a;match j,a with
 |0,a=>simp at a;subst a;simp[Addr.add]
 |n+1,a=>simp at a
def Hu{k:IntKind}{n:Int}:∀u∈[Value.int k n],u.oneCell'=true:=by intro u a;simp at a;subst a;rfl
def uJ.H{wr w1:A1}{m:Nat}{v b:Bg}{news:List Int}(h:uJ wr B v l)(c:Below B w wr)(d:B<=wr.heap.size)(f:m=news.length)(a:w1.ownsRow B 5 1 b (l.length+m) (l.map (Value.int .u8)++news.map (Value.int .u8)))(g:(wr.alloc o).grownBy w1 v.ownBlock):uJ w1 B b (l++news)/\Below B w w1:=by
 refine⟨?_,?_⟩;unfold uJ;rw[aM,dQ,<-f];exact a;exact(c.alloc d o).grown g (by simp;omega) (λk i=>((h.e (o:=o)).lt k i).1)
def X5(h:ys++nb k=nb n)(a:¬k<128):(ys++[((k:Int)%128+128)])++nb (k/128)=nb n:=by
 rw[<-h,Num.Di a];simp
def X4(h:ys++nb k=nb n)(a:k<128):ys++[(k:Int)]=nb n:=by
 rw[<-h,Num.ug a]
def X7(h:ys++nb k=nb n)(b:n<=1099511627776):ys.length<=6:=by
 have a:(nb n).length<=6:=Num.tA 5 n (by
                            have:(128:Nat)^(5+1)=4398046511104:=by decide
                            omega)
 rw[<-h,aM]at a;omega
theorem XZ{B:Nat}(n:Nat){xs:List Int}{v:Value}{w:World}(hn:n<=1099511627776)(hx:xs.length<=1000)(hB:B<=w.heap.size)(hown:uJ w B v xs):
  Calls prog 183 #[v,iI n] w λe w'=>∃v',e=.returned v'/\uJ w' B v' (xs++nb n)/\Below B w w':=by
 let ⟨i0,hi,hz0,hz1,hz2⟩:=dw Dq
 go_enter func183,ntmps183
 go_wp2
 go_loopw [0,1] (λv i wr=>∃(k:Nat) (ys:List Int),k<=n/\i=iI k/\ys++nb k=nb n/\uJ wr B v (xs++ys)/\Below B w wr) (λ_ i _=>(intOf i).toNat)
 case atStart=>exact⟨n,[],aa _,rfl,rfl,by simpa using hown,au _ _⟩
 case round=>
  obtain⟨k,ys,hk,rfl,hys,hwn,hbl⟩:=hrel
  have HY :Hid _:= hys
  have hyl:=X7 hys hn
  have hBr:B<=wr.heap.size:=by have:=hbl.size;omega
  have hl:(xs++ys).length<=1006:=by rw[aM];omega
  let ⟨zs,hzs⟩:∃zs,xs++ys=zs:=⟨_,rfl⟩
  rw[hzs]at hwn hl
  have HZ :Hid _:= hzs
  by_cases h:k<128
  .go_wp2_with (at_builtin;refine fC _ rfl _ _ 61 rfl B 5 i0 (.int .u8 0) 1 1 underlying61 hi hz0 hz1 hz2 rfl (by decide) _ _ _ rfl (hwn.e) (aA wr.heap.size 0) 1 1 [.int .u8 (k:Int)] rfl rfl (M5 _) (Hu) ?c3 ?c4 ?c5 ?_)
   case c3=>unfold maxLen;omega
   case c4=>omega
   case c5=>simp;omega
   intro v' w1 hown' hgrow _
   have R:=hwn.H (news:=[(k:Int)]) hbl hBr rfl hown' hgrow
   rw[<-HZ.out,bQ,X4 HY.out h]at R
   go_wp2
   go_ret
   exact⟨_,rfl,R⟩
  .go_wp2_with (at_builtin;refine fC _ rfl _ _ 61 rfl B 5 i0 (.int .u8 0) 1 1 underlying61 hi hz0 hz1 hz2 rfl (by decide) _ _ _ rfl (hwn.e) (aA wr.heap.size 0) 1 1 [.int .u8 ((k:Int)%128+128)] rfl rfl (M5 _) (Hu) ?d3 ?d4 ?d5 ?_)
   case d3=>unfold maxLen;omega
   case d4=>omega
   case d5=>simp;omega
   intro v' w1 hown' hgrow _
   have R:=hwn.H (news:=[((k:Int)%128+128)]) hbl hBr rfl hown' hgrow
   rw[<-HZ.out,bQ]at R
   have HP :Hid _:= (X5 HY.out h)
   go_wp2
   go_roundw
   case rel=>exact⟨k/128,_,by omega,by go_num,HP.out,R.1,R.2⟩
   case measure=>simp[intOf];omega
end Wire
end Go.Proofs.YtbebfliimjjohabGreatDoor
