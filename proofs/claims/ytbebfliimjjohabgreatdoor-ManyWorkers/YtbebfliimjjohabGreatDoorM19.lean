/- Parts of the proof. -/
import Derived.Test.YtbebfliimjjohabGreatDoorM18
import Derived.Deep.RegionLaw
set_option maxRecDepth 100000
set_option maxHeartbeats 8000000
set_option linter.all false
open Go.Proofs.Tryz
namespace Go.Proofs.YtbebfliimjjohabGreatDoor
open Go.RowKit Go.Maps
open Num (lY nb jK iJ fO M iH lZ)
namespace Cache
variable{d:DS}{x:E}{o n:Int}{L:List E}{l vs P X xs:List Dv}{i g t m B s k:Nat}{f:Nat×Nat}{u:Dv}{a b w w':Ba}
abbrev tp (t:Nat):Value:=.pointer (some ⟨t,0,none⟩)
abbrev kp (t:Nat):Value:=.pointer (some ⟨t,17,none⟩)
structure Ob(bs:List Nat)(w w':World):Prop where
 p:w'.os=w.os
 o:w'.tape=w.tape
 h:w'.output=w.output
 i:w.heap.size<=w'.heap.size
 b:∀k,k<w.heap.size->k∉bs->w'.heap[k]?=w.heap[k]?
def Ob.O(bs:List Nat)(w:Ba):Ob bs w w:=⟨rfl,rfl,rfl,aj _,λ_ _ _=>rfl⟩
def Ob.j{bs:List Nat}{c:Ba}(h:Ob bs a b)(k:Ob bs b c):Ob bs a c:=
 ⟨k.p.trans h.p,k.o.trans h.o,k.h.trans h.h,aO h.i k.i,λi d e=>by rw[k.b i (aN d h.i) e,h.b i d e]⟩
def Ob.ab{bs cs:List Nat}(h:Ob bs a b)(hs:∀k∈bs,k∈cs):Ob cs a b:=⟨h.p,h.o,h.h,h.i,λk c hc=>h.b k c λd=>hc (hs k d)⟩
def Ob.H{bs:List Nat}(h:FF a b):Ob bs a b:=⟨h.os,h.tape,h.output,h.size,λk c _=>h.block k c⟩
def Ob.e{bs:List Nat}{q:Nat}(h:Ob bs a b)(c:q∈bs):Ob bs a (b.setCell ⟨q,i,none⟩ u):=
 h.j ⟨rfl,rfl,rfl,aY,λk _ d=>aQ b (aA q i) u k (λe=>d (e▸c))⟩
def Ob.I{bs:List Nat}{q:Nat}(c:q∈bs):∀(vs:List Dv) (o:Nat) (b:Ba),Ob bs a b->Ob bs a (b.setCells q o vs)
 | [],_,_,h=>h
 |v::vs,o,b,h=>by
  rw[World.setCells];exact Ob.I c vs (o+1) _ (h.e c (u:=v))
def Ob.V{bs:List Nat}(h:Ob bs a b):Ob bs a b.drew:=⟨h.p,h.o,h.h,h.i,h.b⟩
def Ob.Z{bs:List Nat}(h:Ob bs a b)(o:Obj):Ob bs a (b.alloc o):=h.j (Ob.H ((au _ _).alloc (aj _) o))
def Ob.ae{bs:List Nat}{q:Nat}(h:Ob (q::bs) a b)(e:a.heap.size<=q):Ob bs a b:=
 ⟨h.p,h.o,h.h,h.i,λk c d=>h.b k c (by simp;exact⟨ak,d⟩)⟩
def Ob.ac{bs:List Nat}{N:Nat}(h:Ob bs a b)(c:∀k∈bs,N<=k)(e:N<=a.heap.size):Below N a b:=
 ⟨h.p,h.o,h.h,h.i,λk f=>h.b k ak (λd=>by have:=c k d;omega)⟩
def uT{a:Array Dv}{e:DU}(h:w.heap[g]?=some (.cells a e f)):(w.setCell ⟨g,i,none⟩ u).heap[g]?=some (.cells (a.setIfInBounds i u) e f):=by
 unfold World.setCell;rw[bL,aH rfl,h];rfl
def ow(l:List Value)(o:Nat)(vs:List Value):List Value:=l.take o++vs++l.drop (o+vs.length)
def VF{o:Nat}{v:Dv}(h:o<l.length):ow (l.set o v) (o+1) vs=ow l o (v::vs):=by
 unfold ow;have a:(l.set o v).take (o+1)=l.take o++[v]:=by
  rw[Er,aH h,List.take_append,cx,show min o l.length=o by omega,show o+1-o=1 by omega,List.take_take,show min (o+1) o=o by omega];rfl
 have b:(l.set o v).drop (o+1+vs.length)=l.drop (o+(v::vs).length):=by
  rw[List.drop_set_of_lt ak,bJ];congr 1;omega
 rw[a,b];simp
def uS{e:DU}:∀(vs:List Dv) (o:Nat) (w:Ba) (l:List Dv),w.heap[g]?=some (.cells l.toArray e f)->o+vs.length<=l.length->(w.setCells g o vs).heap[g]?=some (.cells (ow l o vs).toArray e f)
 | [],o,w,l,h,_=>by
  have e:ow l o []=l:=by simp[ow]
  rw[e];exact h
 |v::vs,o,w,l,h,a=>by
  rw[bJ]at a;rw[World.setCells,<-VF ak];refine uS vs (o+1) _ (l.set o v) ?_ fS;rw[uT h];simp
def dV(x:E):List Value:=[.int .i64 x.o,.string x.d,.int .i64 x.v,.int .i64 x.u]
def sB(L:List E):List Value:=L.flatMap dV
def pad(L:List E):List E:=L++List.replicate (6-L.length) sP
def eH(L:List E):List Value:=sB (pad L)
def wo(x:E)(L:List E):sB (x::L)=dV x++sB L:=by simp[sB]
def nB(L:List E):(sB L).length=L.length*4:=by
 induction L with
 |nil=>rfl
 |cons x L a=>rw[wo,aL,a,bJ];simp[dV];omega
def zR(h:L.length<=6):(pad L).length=6:=by simp[pad];omega
def ew(h:L.length<=6):(eH L).length=24:=by rw[eH,nB,zR h]
def zQ:∀(L:List E) (i j:Nat) (h:i<L.length),j<4->(sB L)[i*4+j]?=(dV L[i])[j]?
 |x::L,0,j,_,a=>by rw[wo,XR,bY,bE (by simpa[dV] using a)];rfl
 |x::L,i+1,j,h,a=>by
  rw[wo,bg (by simp[dV];omega)];have e:(i+1)*4+j-(dV x).length=i*4+j:=by simp[dV];omega
  rw[e];exact zQ L i j (dD h) a
def Q6(L:List E):∀u∈sB L,u.oneCell'=true:=by
 intro u a;simp only[sB,nJ]at a;let ⟨x,_,h⟩:=a
 simp[dV]at h;rcases h with rfl|rfl|rfl|rfl<;>rfl
def IZ(a:L.length<=6){j:Nat}(h:i<L.length)(b:j<4):(eH L)[i*4+j]?=(dV L[i])[j]?:=by
 rw[eH,zQ (pad L) i j (by rw[zR a];omega) b];congr 2;exact Ud h
def I6{A:List Dv}{o:Nat}(h:o+vs.length<=A.length):ow (P++A++X) (P.length+o) vs=P++ow A o vs++X:=by
 unfold ow;rw[bP P A X,List.take_append,jC ak,show P.length+o-P.length=o by omega,Kv ak];rw[List.drop_append,mB ak,cS,show P.length+o+vs.length-P.length=o+vs.length by omega,List.drop_append_of_le_length ak];simp
structure bV(w:World)(t:Nat)(P X:List Value)(L:List E)(n:Int):Prop where
 b:L.length<=6
 i:P.length=17
 e:w.heap[t]?=some (.cells (P++(eH L++[Value.int .i64 n])++X).toArray 162)
def bV.lt(h:bV w t P X L n):t<w.heap.size:=(ar.1 h.e).1
def bV.ob{bs:List Nat}(h:bV w t P X L n)(a:Ob bs w w')(c:t∉bs):bV w' t P X L n:=⟨h.b,h.i,(a.b t h.lt c).trans h.e⟩
def bV.O(h:bV w t P X L n)(a:FF w w'):bV w' t P X L n:=⟨h.b,h.i,(a.block t h.lt).trans h.e⟩
def bV.j(h:bV w t P X L n):bV w.drew t P X L n:=⟨h.b,h.i,h.e⟩
def bV.I(h:bV w t P X L n)(o:Obj):bV (w.alloc o) t P X L n:=h.O ((au _ _).alloc (aj _) o)
def bV.at(h:bV w t P X L n)(i:Nat)(a:i<25):w.cell? ⟨t,17+i,none⟩=(eH L++[Value.int .i64 n])[i]?:=by
 rw[bN _ _ _ _ _ _ h.e,bH,bP,bg (by rw[h.i];omega),h.i,show 17+i-17=i by omega,bE (by rw[aL,ew h.b];simpa using a)]
def bV.h(h:bV w t P X L n):w.cell? ⟨t,41,none⟩=some (.int .i64 n):=by
 rw[h.at 24 ak,bg (by rw[ew h.b];omega),ew h.b];rfl
def bV.H(h:bV w t P X L n)(i:Nat):w.frozen? ⟨t,i,none⟩=false:=by
 simp[World.frozen?,h.e]
def bV.af(h:bV w t P X L n)(i:Nat)(a:i<24):w.cell? ⟨t,17+i,none⟩=(eH L)[i]?:=by
 rw[h.at i ak,bE (by rw[ew h.b];omega)]
def bV.V(h:bV w t P X L n)(i j:Nat)(a:i<L.length)(c:j<4):w.cell? ⟨t,17+i*4+j,none⟩=(dV L[i])[j]?:=by
 have:=h.b;rw[ir,h.af _ ak,IZ h.b a c]
def bV.ab(h:bV w t P X L n)(a:i<25):(w.cell? ⟨t,17+i,none⟩).isSome=true:=by
 rw[h.at i a,aE (by rw[aL,ew h.b];simpa using a)];rfl
def bV.ac{o:Nat}{M:List E}{m:Int}(h:bV w t P X L n)(a:M.length<=6)(f:o+vs.length<=25)(c:ow (eH L++[Value.int .i64 n]) o vs=eH M++[Value.int .i64 m]):bV (w.setCells t (17+o) vs) t P X M m:=by
 have d:(eH L++[Value.int .i64 n]).length=25:=by rw[aL,ew h.b];rfl
 refine⟨a,h.i,?_⟩;rw[uS vs (17+o) w _ h.e (by rw[aL,aL,d,h.i];omega),<-h.i,I6 ak,c]
def VG(h:L.length<=6)(n m:Int):ow (eH L++[.int .i64 n]) 24 [.int .i64 m]=eH L++[.int .i64 m]:=by
 have e:=ew h;unfold ow;rw[wQ e,mB (by rw[aL,e];simp),ei]
def bV.Z(h:bV w t P X L n)(m:Int):bV (w.setCell ⟨t,41,none⟩ (.int .i64 m)) t P X L m:=
 h.ac (o:=24) (vs:=[iI m]) h.b aY (VG h.b n m)
def Q9{x:Dv}:∀(L:List E) (k:Nat),k<L.length->L.length<=6->ow (ow (eH L++[x]) (k*4) (sB (L.drop (k+1)))) ((L.length-1)*4) (dV sP)=eH (L.eraseIdx k)++[x]
 | [_],0,_,_=>rfl
 | [_,_],0,_,_=>rfl
 | [_,_],1,_,_=>rfl
 | [_,_,_],0,_,_=>rfl
 | [_,_,_],1,_,_=>rfl
 | [_,_,_],2,_,_=>rfl
 | [_,_,_,_],0,_,_=>rfl
 | [_,_,_,_],1,_,_=>rfl
 | [_,_,_,_],2,_,_=>rfl
 | [_,_,_,_],3,_,_=>rfl
 | [_,_,_,_,_],0,_,_=>rfl
 | [_,_,_,_,_],1,_,_=>rfl
 | [_,_,_,_,_],2,_,_=>rfl
 | [_,_,_,_,_],3,_,_=>rfl
 | [_,_,_,_,_],4,_,_=>rfl
 | [_,_,_,_,_,_],0,_,_=>rfl
 | [_,_,_,_,_,_],1,_,_=>rfl
 | [_,_,_,_,_,_],2,_,_=>rfl
 | [_,_,_,_,_,_],3,_,_=>rfl
 | [_,_,_,_,_,_],4,_,_=>rfl
 | [_,_,_,_,_,_],5,_,_=>rfl
 | [],_,h,_=>by simp at h
 | [_],k+1,h,_=>by simp at h
 | [_,_],k+2,h,_=>by simp at h;omega
 | [_,_,_],k+3,h,_=>by simp at h;omega
 | [_,_,_,_],k+4,h,_=>by simp at h;omega
 | [_,_,_,_,_],k+5,h,_=>by simp at h;omega
 | [_,_,_,_,_,_],k+6,h,_=>by simp at h;omega
 |_::_::_::_::_::_::_::_,_,_,h=>by simp at h
def YR{x:Dv}(e:E):∀(L:List E),L.length<6->ow (eH L++[x]) (L.length*4) (dV e)=eH (L++[e])++[x]
 | [],_=>rfl
 | [_],_=>rfl
 | [_,_],_=>rfl
 | [_,_,_],_=>rfl
 | [_,_,_,_],_=>rfl
 | [_,_,_,_,_],_=>rfl
 |_::_::_::_::_::_::_,h=>by simp at h;omega
def aZ{n:Nat}{e:DU}{v:Dv}(h:w.ownsRow B e s v n xs)(d:∀g,v.ownBlock=some g->w'.heap[g]?=w.heap[g]?):w'.ownsRow B e s v n xs:=by
 refine⟨h.1,?_⟩;rcases h.2 with h|⟨g,a,b,c,f,i,j⟩
 exact .inl h;exact .inr ⟨g,a,b,c,f,(d g (c▸rfl)).trans i,j⟩
def bq{n:Nat}{e:DU}{v:Dv}(h:w.ownsRow B e s v n xs)(a:FF w w'):w'.ownsRow B e s v n xs:=aZ h λg b=>a.block g (h.lt g b).2
def Ra(o:Int)(q:Nat)(x:E)(w:Ba)(a:cC w (aA q 0) (iI o)):
  Calls prog 236 #[.agg #[iI x.o,.string x.d,iI x.v,iI x.u],tp q] w λe w'=>e=.returned (.bool (decide (x.o=o)))/\FF w w':=by
 have c:q<w.heap.size:=cz _ _ a;have b:q≠w.heap.size:=ak;go_in;go_wp2;all_goals (go_ret;exact⟨rfl,(au _ _).alloc (aj _) _⟩)
def Ng(a:k<L.length)(h:decide (L[k].o=o)=true):uR o L (k:Int):=.inr ⟨k,a,rfl,gT h⟩
def I1(h:∀j (a:j<L.length),decide (L[j].o=o)=false):uR o L (-1):=.inl ⟨rfl,λx b=>by
 obtain⟨j,a,rfl⟩:=pZ b;exact qJ (h j a)⟩
def Nh{q:Nat}(h:bV w t P X L n)(hcell:cC w (aA q 0) (iI o)):
  Calls prog 235 #[.slice (some (aA t 17)) L.length 6,.func (.func 236) #[] #[tp q]] w λe w'=>∃i,e=.returned (iI i)/\uR o L i/\FF w w':=by
 have h6:=h.b;go_in;go_wp2;go_loopw [8] (λi wr=>∃k:Nat,k<=L.length/\i=iI k/\Hid (∀j (hj:j<L.length),j<k->decide (L[j].o=o)=false)/\FF w wr) (λi _=>L.length-(intOf i).toNat)
 case atStart=>exact⟨0,ak,rfl,(λj _ hj=>by omega:∀j (hj:j<L.length),j<0->decide (L[j].o=o)=false),au _ _⟩
 case round=>
  obtain⟨k,hk,rfl,hA,hbl⟩:=hrel;by_cases hlt:k<L.length
  .have hltz:(k:Int)<(L.length:Int):=ak;have hr:=h.O hbl;have c0:=hr.V k 0 hlt ak;have c1:=hr.V k 1 hlt ak;have c2:=hr.V k 2 hlt ak;have c3:=hr.V k 3 hlt ak;have hcall:=Ra o q L[k] wr ((hbl.cell (p:=(aA q 0)) (cz _ _ hcell)).trans hcell);simp only[dV,bI,bv,qq]at c0 c1 c2 c3;let ⟨y,hy⟩:∃y,L[k]=y:=⟨_,rfl⟩
   rw[hy]at hcall c0 c1 c2 c3;let ⟨p,hp⟩:∃p,decide (y.o=o)=p:=⟨_,rfl⟩
   rw[hp]at hcall;have HQ:Hid (decide (L[k].o=o)=p):=hy▸hp;have HB :Hid _:= hbl;cases p with
   |true=>
    go_wp2_with fail
    apply hcall.mono;rintro e w'⟨rfl,hb'⟩;go_wp2;go_ret;exact⟨_,rfl,Ng hlt HQ.out,HB.out.trans (hb'.mono HB.out.size)⟩
   |false=>
    go_wp2_with fail
    apply hcall.mono;rintro e w'⟨rfl,hb'⟩;go_wp2;go_roundw
    case rel=>
     refine⟨k+1,ak,by go_num,(λj hj hjk=>?_:∀j (hj:j<L.length),j<k+1->decide (L[j].o=o)=false),HB.out.trans (hb'.mono HB.out.size)⟩;by_cases e:j=k;subst e;exact HQ.out;exact hA.out j hj ak
    case measure=>simp[intOf];omega
  .obtain rfl:k=L.length:=ak;have hltz:¬(L.length:Int)<(L.length:Int):=ak;have HK:Hid (uR o L (-1)):=I1 λj hj=>hA.out j hj hj

   go_wp2;go_ret;exact⟨_,rfl,HK.out,hbl⟩
def zP(o:Int)(h:bV w t P X L L.length):
  Calls prog 199 #[kp t,iI o] w λe w'=>∃i,e=.returned (iI i)/\uR o L i/\FF w w':=by
 have p:=h.b;have k:(0:Int)<=(L.length:Int):=ak;have l:(L.length:Int)<=6:=ak;have f:=h.I (.cells #[.int .i64 o] 3);have a:FF w (w.alloc (.cells #[.int .i64 o] 3)):=(au _ _).alloc (aj _) _;have c:(w.alloc (.cells #[.int .i64 o] 3)).cell? ⟨w.heap.size,0,none⟩=some (.int .i64 o):=by rw[bN _ _ _ _ _ _ (bo w _)];rfl
 go_in;go_wp2_with fail
 generalize w.alloc (.cells #[iI o] 3)=w1 at f a c⊢;have q:=f.h;have g :Hid _:= a;go_region_held3 (λw'=>cC w' (aA t 41) (iI L.length)) (assumption) (first|(go_at_call 235;refine(Nh f.j c).mono ?_;rintro e w3⟨i,rfl,hF,d⟩;have m:=(λw' n=>(f.j.O n).h) w3 d))
 go_wp2;go_ret;exact⟨i,rfl,hF,g.out.drew.trans (d.mono g.out.size)⟩
def I4:(prog.info? 156).map (λi=>(i.zero,i.size,i.bytes))=some (some (.agg #[iI 0,.string ⟨#[]⟩,iI 0,iI 0]),4,40):=bt
def VA(g o j:Nat):((aA g o):Addr).add j=(aA g (o+j)):=by unfold Addr.add;split<;>simp_all
def Q4(h:bV w t P X L n):∀j u,(sB (L.drop (k+1)))[j]?=some u->w.drew.cell? (((aA t (17+(k+1)*4)):Addr).add j)=some u:=by
 intro j u c;have f:=h.b;have d:=(bB.1 c).1;rw[nB,cN]at d;obtain⟨a,b,rfl,e⟩:∃a b,j=a*4+b/\b<4:=⟨j/4,j%4,ak,ak⟩;rw[zQ _ a b (by rw[cN];omega) e,List.getElem_drop]at c;rw[VA,show 17+(k+1)*4+(a*4+b)=17+(k+1+a)*4+b by omega];show w.cell? (aA t (17+(k+1+a)*4+b))=some u;rw[h.V (k+1+a) b ak e];exact c
def Na(h:bV w t P X L n)(a:L.length=k+m+1):∀j,j<m*4->(w.drew.cell? (aA t (17+k*4+j))).isSome=true/\w.drew.frozen? (aA t (17+k*4+j))=false:=λj c=>by
 have d:=h.b;rw[ir];exact⟨h.ab ak,h.H _⟩
def sO:∀(vs:List Dv) (o:Nat) (w:Ba) (x:Addr),(w.cell? x).isSome=true->((w.setCells g o vs).cell? x).isSome=true
 | [],_,_,_,h=>h
 |v::vs,o,w,x,h=>by
  rw[World.setCells];apply sO vs (o+1) _ x;let ⟨u,b⟩:=aP.1 h
  let ⟨c,a⟩:=dC (p:=(aA g o)) (x:=v) b
  rw[a];rfl
def Nc(news:List Dv)(h:bV w t P X L n)(a:L.length=k+m+1):∀j,j<4->((w.drew.setCells t (17+k*4) news).cell? (aA t (17+(k+m)*4+j))).isSome=true:=λj c=>by
 have d:=h.b;rw[ir];exact sO _ _ _ _ (h.ab ak)
def M9(W:Ba)(g o c:Nat)(hc:∀j,j<4->(W.cell? (aA g (o+j))).isSome=true)(d:∀j,j<4->W.frozen? (aA g (o+j))=false):
  (Builtin.clear_ #[315] 0 #[.slice (some (aA g o)) 1 c]).run prog W=.ok (.tuple #[]) (W.setCells g o (dV sP)):=by
 have a:=Br (P:=prog) g o (dV sP) 0 W (by simpa[dV] using hc) (by simpa[dV] using d) (by intro v b;simp[dV]at b;rcases b with rfl|rfl|rfl|rfl<;>rfl);simp at a;have e:(Builtin.zeroCells #[Value.int .i64 0,Value.string ⟨#[]⟩,Value.int .i64 0,Value.int .i64 0] 1).toList=dV sP:=bt;simp[Builtin.clear_,iM underlying315,Value.cells,e,a]
def Ni{o:Nat}(h:o+vs.length<=l.length):(ow l o vs).length=l.length:=by
 unfold ow;rw[aL,aL,cx,cN];omega
def VD(h:bV w t P X L n)(d:L.length=k+m+1):
  bV ((w.drew.setCells t (17+k*4) (sB (L.drop (k+1)))).setCells t (17+(k+m)*4) (dV sP)) t P X (L.eraseIdx k) n/\Ob [t] w ((w.drew.setCells t (17+k*4) (sB (L.drop (k+1)))).setCells t (17+(k+m)*4) (dV sP)):=by
 have ⟨q,a,_⟩:=h

 have f:=ew h.b;have c:(eH L++[Value.int .i64 n]).length=25:=by rw[aL,f];rfl
 have g:(sB (L.drop (k+1))).length=m*4:=by rw[nB,cN,d];omega
 have j:=uS (sB (L.drop (k+1))) (17+k*4) w.drew _ h.e (by rw[g,aL,aL,c,a];omega);rw[<-a,I6 (by rw[g,c];omega),a]at j;have el:=Ni (l:=eH L++[Value.int .i64 n]) (vs:=sB (L.drop (k+1))) (o:=k*4) (by rw[g,c];omega);rw[c]at el;have p:=uS (dV sP) (17+(k+m)*4) _ _ j (by rw[aL,aL,el,a];simp[dV];omega);rw[<-a,I6 (by rw[el];simp[dV];omega),a,show (k+m)*4=(L.length-1)*4 by rw[d];rfl,Q9 L k ak q]at p;refine⟨⟨by have:=iA (l:=L) (i:=k) ak;omega,a,?_⟩,?_⟩;rw[show (k+m)*4=(L.length-1)*4 by rw[d];rfl];exact p;exact Ob.I aY _ _ _ (Ob.I aY _ _ _ (Ob.O _ _).V)
def VC(h:bV w t P X L n)(S:k<L.length):
  Calls prog 261 #[.slice (some (aA t 17)) L.length 6,iI k,iI ((k:Int)+1)] w λe w'=>e=.returned (.slice (some (aA t 17)) (L.length-1) 6)/\bV w' t P X (L.eraseIdx k) n/\Ob [t] w w':=by
 let ⟨A,B,F,l,G⟩:=dg I4
 have I:=h.b;let ⟨m,o⟩:∃m,L.length=k+m+1:=⟨L.length-(k+1),ak⟩
 have f:=VD h o;have c:=Q4 (k:=k) h;let ⟨a,g⟩:∃a,sB (L.drop (k+1))=a:=⟨_,rfl⟩
 have r:a.length=m*4:=by rw[<-g,nB,cN,o];omega
 have C:=M9 (w.drew.setCells t (17+k*4) a) t (17+(k+m)*4) (6-(k+m)) (Nc a h o) (λj _=>by rw[jQ];exact h.H _);have d:=Na h o;rw[g]at c f;rw[o]at I⊢;have J:((k:Int)==(k:Int)+1)=false:=fS;have K:k<=6:=ak;have M:(k:Int)<=6:=ak;have N:(0:Int)<=(k:Int)+1:=ak;have O:(k:Int)+1<=(k:Int)+(m:Int)+1:=ak;have Q:((k:Int)+1).toNat=k+1:=ak;have s :Hid _:= c;have v :Hid _:= d;have i :Hid _:= r;have x :Hid _:= (λu y=>Q6 (L.drop (k+1)) u (g▸y));have D :Hid _:= f;by_cases z:k=5
 .obtain rfl:m=0:=ak;have p:= dX (jd i.out);subst p;subst z;go_in;go_wp2;go_region_law (refine step_append_room rfl (.tmp 22) (.tmp 25) 315 rfl 156 A 4 underlying315 B l t 17 5 6 (by simp[Act.eval,Act.put]) (aA t 17) 0 0 [] (by simp[Act.eval,Act.put]) rfl (λj u q=>by simp at q) (λu y=>by simp at y) ak (λj q=>by simp at q) ?_);all_goals go_wp2
  all_goals go_ret
  exact⟨rfl,D.out⟩
 .have R:¬(k+1=6):=ak;have E:¬(6=k+1):=ak;go_in;go_wp2;go_region_law (refine step_append_room rfl (.tmp 22) (.tmp 25) 315 rfl 156 A 4 underlying315 B l t 17 k 6 (by simp[Act.eval,Act.put]) (aA t (17+(k+1)*4)) m (5-k) a (by simp[Act.eval,Act.put]) i.out s.out x.out ak (λj q=>v.out j (i.out▸q)) ?_);all_goals go_wp2
  all_goals go_ret
  exact⟨rfl,D.out⟩
def wq(k:Nat)(h:k<=1000000):IntKind.i64.wrap ((k:Int)+1)=(k:Int)+1:=by
 have e:IntKind.i64.wrap (((k+1:Nat):Int))=((k+1:Nat):Int):=by
  simp[IntKind.wrap,IntKind.signed,IntKind.bits];omega
 simpa using e
def zS(k:Nat)(h:bV w t P X L L.length)(d:k<L.length):
  Calls prog 237 #[kp t,iI k] w λe w'=>e=.returned (.tuple #[])/\bV w' t P X (L.eraseIdx k) (L.eraseIdx k).length/\Ob [t] w w':=by
 have n:=h.b;have o:=h.h;have f:(0:Int)<=(L.length:Int):=ak;have g:(L.length:Int)<=6:=ak;have i:=wq k ak;go_in;go_wp2_with fail
 go_region_with (first|(go_at_call 261;refine(VC h.j d).mono ?_;rintro e w3⟨rfl,a,c⟩;have l:=a.h;have m:=a.H 41))
 go_end0;rw[show L.length-1=(L.eraseIdx k).length from(iA d).symm];exact⟨rfl,a.Z _,((Ob.O _ _).V.j c).e aY⟩
def Q5{i:Int}(d:L.Pairwise λa b=>a.o≠b.o)(h:uR o L i)(f:0<=i):∃k:Nat,i=(k:Int)/\k<L.length/\qE o L=L.eraseIdx k:=by
 rcases h with⟨rfl,_⟩|⟨k,c,rfl,e⟩
 omega;exact⟨k,rfl,c,YP d c e⟩
def Nf{i:Int}(h:uR o L i)(a:¬0<=i):qE o L=L:=by
 rcases h with⟨_,h⟩|⟨k,_,rfl,_⟩
 exact I0 h;omega
def FG(o:Int)(h:bV w t P X L L.length)(q:L.Pairwise λa b=>a.o≠b.o):
  Calls prog 230 #[kp t,iI o] w λe w'=>e=.returned (.tuple #[])/\bV w' t P X (qE o L) (qE o L).length/\Ob [t] w w':=by
 have c:=zP o h;go_in;go_wp2_with fail
 apply c.mono;rintro e w3⟨i,rfl,hF,d⟩;have n:=h.O d;have f:Hid (Ob [t] w w3):=Ob.H d;by_cases p:0<=i
 .obtain⟨k,rfl,r,s⟩:=Q5 q hF p;have g :Hid _:= s;go_wp2_with fail
  apply (zS k n r).mono;rintro e w4⟨rfl,l,m⟩;go_wp2;go_end0;rw[g.out];exact⟨rfl,l,f.out.j m⟩
 .have g :Hid _:= Nf hF p;go_wp2;go_end0;rw[g.out];exact⟨rfl,n,f.out⟩
def mj(L:List E)(e:E):List E:=(if (qE e.o L).length=6 then (qE e.o L).eraseIdx 0 else qE e.o L)++[e]
def VB(w:World)(q:Nat)(d:ByteArray)(v:Int):Prop:=w.heap[q]?=some (.cells #[.string d,.int .i64 v] 41)
def VB.j(w:Ba)(d:DS)(v:Int):VB (w.alloc (.cells #[.string d,.int .i64 v] 41)) w.heap.size d v:=bo w _
def VB.O{q:Nat}{v:Int}(h:VB w q d v):q<w.heap.size:=(ar.1 h).1
def VB.H{q:Nat}{v:Int}{bs:List Nat}(h:VB w q d v)(a:Ob bs w w')(c:q∉bs):VB w' q d v:=(a.b q h.O c).trans h
def VB.e{q:Nat}{v:Int}(h:VB w q d v):w.cell? ⟨q,0,none⟩=some (.string d)/\w.cell? ⟨q,1,none⟩=some (.int .i64 v):=by
 refine⟨?_,?_⟩<;>(rw[bN _ _ _ _ _ _ h];rfl)
def zO{e:E}:(dV e).toArray.all (·.oneCell')=true:=all_oneCell_toArray (by intro u a;simp[dV]at a;rcases a with rfl|rfl|rfl|rfl<;>rfl)
def xm:(prog.info? 156).map (·.size)=some 4:=bt
def bV.ae{M:List E}(h:bV w t P X M n)(a:M.length<6):w.there t (17+M.length*4) 4:=λj b=>⟨by rw[ir];exact h.ab ak,h.H _⟩
def K2{M:List E}(h:bV w t P X M n)(a:M.length<6)(e:E):bV (w.setCells t (17+M.length*4) (dV e)) t P X (M++[e]) n/\Ob [t] w (w.setCells t (17+M.length*4) (dV e)):=
 ⟨h.ac fS (by simp[dV];omega) (YR e M a),Ob.I aY _ _ _ (Ob.O _ _)⟩
def K1(o:Int)(d:DS)(v u:Int)(h:bV w t P X L L.length)(R:L.Pairwise λa b=>a.o≠b.o):
  Calls prog 200 #[kp t,.int .i64 o,.agg #[.string d,.int .i64 v],.int .i64 u] w λe w'=>e=.returned (.tuple #[])/\bV w' t P X (mj L ⟨o,d,v,u⟩) (mj L ⟨o,d,v,u⟩).length/\Ob [t] w w':=by
 have G:=h.I (.cells #[.string d,iI v] 41);have J:=VB.j w d v;have K:=(Ob.O [t] w).Z (.cells #[.string d,iI v] 41);have m:w.heap.size∉[t]:=by have:=h.lt;simp;omega
 go_in;go_wp2_with fail
 generalize w.alloc (.cells #[.string d,iI v] 41)=w1 at G J K⊢;apply (FG o G R).mono;rintro e w2⟨rfl,f,n⟩;have p:=J.H n m;have q:=K.j n;have r:mj L ⟨o,d,v,u⟩=(if (qE o L).length=6 then (qE o L).eraseIdx 0 else qE o L)++[⟨o,d,v,u⟩]:=rfl;generalize qE o L=M at f r;have Y:=f.h;have h6:=f.b;by_cases Q:M.length=6
 .have B:((M.length:Int)==6)=true:=fS;rw[aH Q]at r;have A :Hid _:= r;have s:(M.eraseIdx 0).length=5:=by rw[iA ak];omega
  go_wp2_with fail
  apply (zS 0 f ak).mono;rintro e w3⟨rfl,i,x⟩;have y:=p.H x m;have k :Hid _:= q.j x;generalize M.eraseIdx 0=N at i A s;have z:N.length<6:=ak;have C:(N.length:Int)<6:=ak;have h0:(0:Int)<=(N.length:Int):=ak;have S:=wq N.length ak;clear s;obtain⟨b0,b1⟩:=y.e;have T:=i.h;have c:=K2 i.j z ⟨o,d,v,u⟩;clear y;go_wp2_with fail
  go_still_tail 12,bt;apply wpList_store_mid rfl 156 (.tmp 29) (.tmp 26) rfl t (17+N.length*4) (dV ⟨o,d,v,u⟩).toArray rfl rfl (i.j.ae z) xm (zO);change wpList _ _ _ _ _ (w3.drew.setCells t (17+N.length*4) (dV ⟨o,d,v,u⟩));generalize w3.drew.setCells t (17+N.length*4) (dV ⟨o,d,v,u⟩)=w4 at c⊢;let ⟨g,l⟩:=c
  have D:=g.h;have F:=g.H 41;go_wp2;go_end0;have U:=g.Z ((N++[(⟨o,d,v,u⟩:E)]).length);rw[A.out];refine⟨rfl,?_,((k.out.V.j l)).e aY⟩;simpa using U
 .have B:((M.length:Int)==6)=false:=fS;rw[ay Q]at r;have A :Hid _:= r;have z:M.length<6:=ak;have C:(M.length:Int)<6:=ak;have h0:(0:Int)<=(M.length:Int):=ak;have k :Hid _:= q;have S:=wq M.length ak;let ⟨b0,b1⟩:=p.e
  have W:=f.h;have c:=K2 f.j z ⟨o,d,v,u⟩;go_wp2_with fail
  go_still_tail 12,bt;apply wpList_store_mid rfl 156 (.tmp 29) (.tmp 26) rfl t (17+M.length*4) (dV ⟨o,d,v,u⟩).toArray rfl rfl (f.j.ae z) xm (zO);change wpList _ _ _ _ _ (w2.drew.setCells t (17+M.length*4) (dV ⟨o,d,v,u⟩));generalize w2.drew.setCells t (17+M.length*4) (dV ⟨o,d,v,u⟩)=w4 at c⊢;let ⟨g,l⟩:=c
  have D:=g.h;have F:=g.H 41;go_wp2;go_end0;rw[A.out];refine⟨rfl,?_,((k.out.V.j l)).e aY⟩;simpa using (g.Z ((M++[(⟨o,d,v,u⟩:E)]).length))
def I3:(prog.info? 159).map (·.size)=some 25:=bt
def Cb(h:bV w t P X L L.length):
  Calls prog 231 #[kp t] w λe w'=>e=.returned (.tuple #[])/\bV w' t P X [] (([]:List E).length:Nat)/\Ob [t] w w':=by
 have a:bV (w.setCells t 17 (eH []++[Value.int .i64 0])) t P X [] (([]:List E).length:Nat)/\Ob [t] w (w.setCells t 17 (eH []++[Value.int .i64 0])):=by
  refine⟨h.ac (o:=0) aY (by simp[ew]) ?_,Ob.I aY _ _ _ (Ob.O _ _)⟩;unfold ow;rw[mB (by rw[aL,aL,ew h.b,ew aY];simp)];simp
 go_in;go_wp2_with (refine wpList_store_mid rfl 159 (.tmp 4) (.tmp 3) rfl t 17 (eH []++[Value.int .i64 0]).toArray rfl rfl (λj c=>⟨h.ab (by have:(eH []++[Value.int .i64 0]).toArray.size=25:=rfl;omega),h.H _⟩) I3 bt ?_)
 go_end0;exact⟨rfl,a⟩
def I2{i:Int}(h:uR o L i)(a:∀x∈L,x.o≠o):i = -1:=by
 rcases h with⟨rfl,_⟩|⟨k,b,_,c⟩
 rfl;exact absurd c (a _ (bp b))
def Q7{i:Int}(h:uR o L i)(l:L.Pairwise λa b=>a.o≠b.o)(d:k<L.length)(e:L[k].o=o):i=(k:Int):=by
 rcases h with⟨_,m⟩|⟨j,f,rfl,c⟩
 exact absurd e (m _ (bp d));have g:=TU.1 l;rcases EE j k with q|q|q
 exact absurd (c.trans e.symm) (g j k f d q);rw[q];exact absurd (e.trans c.symm) (g k j d f q)
def I7(d:ByteArray)(v:Int):List Value:=[.string d,.int .i64 v]
def VB.I{q:Nat}{d':DS}{v a:Int}(h:VB w q d v):VB (w.setCells q 0 (I7 d' a)) q d' a:=uS (I7 d' a) 0 w [.string d,iI v] h (by simp[I7])
def VB.h{q:Nat}{v:Int}(h:VB w q d v)(i:Nat):w.frozen? ⟨q,i,none⟩=false:=by
 unfold VB at h;simp[World.frozen?,h]
def Q8(h:bV w t P X L L.length)(m:∀x∈L,x.o≠o):
  Calls prog 142 #[kp t,.int .i64 o] w λe w'=>e=.returned (.tuple #[.agg #[.string ⟨#[]⟩,.int .i64 0],.int .i64 0,.iface 59 (.int .i64 7)])/\FF w w':=by
 have f:=h.I (.cells #[.string ⟨#[]⟩,iI 0] 41);have g:=VB.j w ⟨#[]⟩ 0;have d:FF w (w.alloc (.cells #[.string ⟨#[]⟩,iI 0] 41)):=(au _ _).alloc (aj _) _

 go_in;go_wp2_with fail
 generalize w.alloc (.cells #[.string ⟨#[]⟩,iI 0] 41)=w1 at f g d⊢;apply (zP o f).mono;rintro e w2⟨i,rfl,hF,b⟩;obtain rfl:=I2 hF m;have a:=g.H (bs:=[]) (Ob.H b) aY;have k:Hid (FF w w2):=d.trans (b.mono d.size)

 let ⟨b0,b1⟩:=a.e
 have n:=a.h 0;have p:=a.h 1;have c:VB ((w2.setCell (FI w 0) (.string ⟨#[]⟩)).setCell (FI w 1) (iI 0)) w.heap.size ⟨#[]⟩ 0:=a.I;have l:Ob [w.heap.size] w2 ((w2.setCell (FI w 0) (.string ⟨#[]⟩)).setCell (FI w 1) (iI 0)):=((Ob.O _ _).e aY).e aY;go_wp2_with fail
 generalize (w2.setCell (aA w.heap.size 0) _).setCell (aA w.heap.size 1) _=w3 at c l⊢;let ⟨c0,c1⟩:=c.e
 refine bn (v:=.tuple #[.agg #[.string ⟨#[]⟩,iI 0],iI 0,.iface 59 _]) (by simp[results,results142,go_sem,c0,c1]) rfl ⟨rfl,?_⟩;exact k.out.trans (l.ac aY k.out.size)
def EB(w:World)(q:Nat)(x:E):Prop:=w.heap[q]?=some (.cells #[.int .i64 x.o,.string x.d,.int .i64 x.v,.int .i64 x.u] 156)
def EB.h(w:Ba)(x:E):EB (w.alloc (.cells #[.int .i64 x.o,.string x.d,.int .i64 x.v,.int .i64 x.u] 156)) w.heap.size x:=bo w _
def EB.j{q:Nat}(h:EB w q x):q<w.heap.size:=(ar.1 h).1
def EB.H{q:Nat}{bs:List Nat}(h:EB w q x)(a:Ob bs w w')(c:q∉bs):EB w' q x:=(a.b q h.j c).trans h
def EB.e{q:Nat}(h:EB w q x):w.cell? ⟨q,0,none⟩=some (.int .i64 x.o)/\w.cell? ⟨q,1,none⟩=some (.string x.d)/\w.cell? ⟨q,2,none⟩=some (.int .i64 x.v)/\w.cell? ⟨q,3,none⟩=some (.int .i64 x.u):=by
 refine⟨?_,?_,?_,?_⟩<;>(rw[bN _ _ _ _ _ _ h];rfl)
def VE(h:bV w t P X L L.length)(T:L.Pairwise λa b=>a.o≠b.o)(s:k<L.length)(D:L[k].o=o):
  Calls prog 142 #[kp t,.int .i64 o] w λe w'=>e=.returned (.tuple #[.agg #[.string L[k].d,.int .i64 L[k].v],.int .i64 L[k].u,.nilIface])/\bV w' t P X (mj L L[k]) (mj L L[k]).length/\Ob [t] w w':=by
 have E:=h.lt;have h6:=h.b;have F:=h.I (.cells #[.string ⟨#[]⟩,.int .i64 0] 41);have U:=VB.j w ⟨#[]⟩ 0;have G:FF w (w.alloc (.cells #[.string ⟨#[]⟩,.int .i64 0] 41)):=(au _ _).alloc (aj _) _

 go_in;go_wp2_with fail
 generalize w.alloc (.cells #[.string ⟨#[]⟩,.int .i64 0] 41)=w1 at F U G⊢;apply (zP o F).mono;rintro e w2⟨i,rfl,hF,l⟩;obtain rfl:=Q7 hF T s D;have y:=U.H (bs:=[]) (Ob.H l) aY;have c:=F.O l;have HB:Hid (FF w w2):=G.trans (l.mono G.size)

 have W:=c.V k 0 s ak;have Y:=c.V k 1 s ak;have e2:=c.V k 2 s ak;have e3:=c.V k 3 s ak;simp only[dV,bI,bv,qq]at W Y e2 e3;let ⟨x,hx⟩:∃x,L[k]=x:=⟨_,rfl⟩
 rw[hx]at D W Y e2 e3;subst D;have HX:Hid (L[k]=x):=hx

 have ad:(k:Int)<6:=ak;have aS:(0:Int)<=(k:Int):=ak;have a0:¬((k:Int)<0):=ak;have m:=EB.h w2 x;have z:=c.I (.cells #[.int .i64 x.o,.string x.d,.int .i64 x.v,.int .i64 x.u] 156);have n:=(Ob.O [t] w2).Z (.cells #[.int .i64 x.o,.string x.d,.int .i64 x.v,.int .i64 x.u] 156);have A:=y.H n fS;have f:=y.O;have J:Ob [t] w w2:=Ob.H HB.out

 go_wp2_with fail
 generalize w2.alloc (.cells #[.int .i64 x.o,.string x.d,.int .i64 x.v,.int .i64 x.u] 156)=w3 at m z n A⊢;have B:Hid (Ob [t] w w3):=J.j n;let ⟨q,hq⟩:∃q,w2.heap.size=q:=⟨_,rfl⟩
 rw[hq]at m f⊢;have K:q∉[t]:=by have:=c.lt;simp;omega

 apply (K1 x.o x.d x.v x.u z T).mono;rintro e w4⟨rfl,M,r⟩;have N:=m.H r K;have g:=A.H r fS;have Q:Hid (Ob [t] w w4):=B.out.j r;have R:Hid (bV w4 t P X (mj L x) (mj L x).length):=M

 let ⟨p,hp⟩:∃p,w.heap.size=p:=⟨_,rfl⟩
 rw[hp]at g f E⊢;have a1:p≠q:=ak;let ⟨q0,q1,q2,q3⟩:=N.e
 let ⟨b0,b1⟩:=g.e
 have f0:=g.h 0;have f1:=g.h 1;have C:VB ((w4.setCell ⟨p,0,none⟩ (.string x.d)).setCell ⟨p,1,none⟩ (.int .i64 x.v)) p x.d x.v:=VB.I g;have S:Ob [p] w4 ((w4.setCell ⟨p,0,none⟩ (.string x.d)).setCell ⟨p,1,none⟩ (.int .i64 x.v)):=((Ob.O _ _).e aY).e aY;go_wp2;go_region_held3 (λw'=>w'.cell? ⟨q,1,none⟩=some (.string x.d)/\w'.cell? ⟨q,2,none⟩=some (.int .i64 x.v)/\w'.cell? ⟨q,3,none⟩=some (.int .i64 x.u)) (go_keep) (fail)
 go_wp2_with fail
 generalize (w4.setCell (aA p 0) _).setCell (aA p 1) _=w5 at C S⊢;let ⟨c0,c1⟩:=C.e
 rw[HX.out];refine bn (v:=.tuple #[.agg #[.string x.d,iI x.v],iI x.u,.nilIface]) (by simp[results,results142,go_sem,c0,c1]) rfl ⟨rfl,(R.out.ob S fS).j,Ob.V ?_⟩;exact Ob.ae (q:=p) ((Q.out.ab aY).j (S.ab aY)) ak
end Cache
namespace Lease
variable{s:Int->Int}{t m n:Nat}{w:Ba}{D:j1}
def FJ(c o:Int){v:Int->Int}(h:cy w t m D v s n)(hc:fN c)(f:fN o):
  Calls prog 229 #[tp t,iI c,iI o] w λe w'=>e=.returned (.tuple #[])/\cy w' t m (D.del (kk c o)) v s n/\Ob [m] w w':=by
 have g:=h.j;go_in;go_wp2_with (at_delete;refine wpList_delete_own _ rfl _ _ 298 335 rfl 3 wu underlying298 (plainElem prog 3) m n D rfl h.b _ _ rfl (Nn hc f) ?_;intro w1 d a)
 go_end0;exact⟨rfl,(h.V a d),((Ob.V [m] w).ab a aY)⟩
def Rh{c:Nat}{v:Int->Int}(h:cy w t m D v s n)(hc:c<4)(hs:s c<9223372036854775807):
  Calls prog 234 #[tp t,iI c] w λe w'=>e=.returned .nilIface/\cy w' t m (fY D c 8) (ic v c 0) (ic s c (s c+1)) n/\Ob [t,m] w w':=by
 have hcl:pz c=true:=Num.fu ak ak;have hc0:(0:Int)<=c:=ak;have hc4:(c:Int)<4:=ak;go_in;go_wp2_with (first|(go_at_call 255;refine(ju).mono ?_;rintro x w'⟨rfl,rfl⟩))
 go_loopw [10] (λi wr=>∃k:Nat,k<=8/\i=iI k/\cy wr t m (fY D c k) v s n/\Ob [t,m] w' wr) (λi _=>8-(intOf i).toNat)
 case atStart=>exact⟨0,ak,rfl,h,Ob.V _ _⟩
 case round=>
  obtain⟨k,hk,rfl,hr,hO⟩:=hrel;by_cases hk8:k<8
  .have hk':(k:Int)<8:=ak;go_wp2_with fail
   refine(FJ c k hr (K3 hcl) ⟨ak,ak⟩).mono ?_;rintro e w1⟨rfl,hr1,hO1⟩;have hO2:=hO.j (hO1.Z aY);go_wp2;go_roundw
   case rel=>exact⟨k+1,ak,by go_num,hr1,hO2⟩
   case measure=>simp[intOf];omega
  .obtain rfl:k=8:=ak;have c1:=hr.p c hc;have f1:=hr.h (1+c);have F:=hr.O hc (x:=0) ⟨ak,ak⟩;have hO2:=hO.H (q:=t) (i:=1+c) aY (u:=iI 0);go_wp2_with fail
   generalize wr.setCell (aA t (1+c)) (iI 0)=w2 at *;have c2:=F.u c hc;have f2:=F.h (5+c);have hs0:= ((F.o c).2).1;go_still_tail 10,bt;go_wp2;go_ret;exact⟨rfl,(F.I.ab hc (x:=s c+1) ⟨ak,ak⟩),(hO2.I.H (q:=t) (i:=5+c) aY (u:=iI (s c+1)))⟩
def Nm{cs:Array Dv}{T:DU}(h:w.heap[t]?=some (.cells cs T)){i:Nat}:w.frozen? (aA t i)=false:=by
 unfold World.frozen?

 rw[h];simp
def VK(w:Ba):
  Calls prog 173 #[] w λe w'=>e=.returned (tp (w.heap.size+1))/\cy w' (w.heap.size+1) w.heap.size (.map []) (λ_=>0) (λ_=>0) 0/\FF w w'/\w'.heap.size=w.heap.size+2:=by
 have d:=λ(t:DU) (w:Ba)=>run_makeMap (P:=prog) t w;go_in;go_wp2;go_ret;have c:(w.alloc (Obj.map #[] 0)).heap.size=w.heap.size+1:=aY;have a:=bo (w.alloc (Obj.map #[] 0)) (.cells #[.map (some w.heap.size),iI 0,iI 0,iI 0,iI 0,iI 0,iI 0,iI 0,iI 0] 301);rw[c]at a;refine⟨rfl,⟨?_,λi b=>?_,λi b=>?_,λi=>?_,((World.ownsMap_made w prog 335 (plainElem (H:=Unit) prog 3)).alloc (.cells #[.map (some w.heap.size),iI 0,iI 0,iI 0,iI 0,iI 0,iI 0,iI 0,iI 0] 301)),λi=>⟨⟨ak,ak⟩,ak,ak⟩,_,_,a⟩,(((au w.heap.size w).alloc (aj _) (Obj.map #[] 0)).alloc aY (.cells #[.map (some w.heap.size),iI 0,iI 0,iI 0,iI 0,iI 0,iI 0,iI 0,iI 0] 301)),aY⟩;rw[bN _ _ _ _ _ _ a];rfl;rw[bN _ _ _ _ _ _ a];match i,b with
 |0,_=>rfl
 |1,_=>rfl
 |2,_=>rfl
 |3,_=>rfl
 rw[bN _ _ _ _ _ _ a];match i,b with
 |0,_=>rfl
 |1,_=>rfl
 |2,_=>rfl
 |3,_=>rfl
 exact Nm a
end Lease
namespace Wire
variable{n:Int}{l ys ns:List Int}{B k b:Nat}{o:Obj}{t:DU}{w w1:Ba}
def Co:(prog.info? 5).map (λi=>(i.zero,i.size,i.bytes))=some (some (.int .u8 0),1,1):=bt
def tS(w:World)(B:Nat)(v:Value)(l:List Int):Prop:=w.ownsRow B 5 1 v l.length (l.map (Value.int .u8))
def tS.h{v:Dv}(h:tS w B v l):w.ownsRow B 5 1 v l.length (l.map (Value.int .u8)):=h
def tS.e{v:Dv}(h:tS w B v l):(w.alloc o).ownsRow B 5 1 v l.length (l.map (Value.int .u8)):=qF h o
def tS.O:tS w B (.slice none 0 0) []:=i6 _ _ _ _
def Le(w:Ba){x:Dv}:∀j u,[x][j]?=some u->(w.alloc (.cells #[x] t)).cell? (((FI w 0):Addr).add j)=some u:=by
 intro j u a;match j,a with
 |0,a=>simp at a;subst a;simp[Addr.add]
 |n+1,a=>simp at a
def Gf{k:IntKind}:∀u∈[Value.int k n],u.oneCell'=true:=by intro u a;simp at a;subst a;rfl
def tS.H{wr:Ba}{m:Nat}{v b:Dv}{news:List Int}(h:tS wr B v l)(c:Below B w wr)(d:B<=wr.heap.size)(f:m=news.length)(a:w1.ownsRow B 5 1 b (l.length+m) (l.map (Value.int .u8)++news.map (Value.int .u8)))(g:(wr.alloc o).grownBy w1 v.ownBlock):tS w1 B b (l++news)/\Below B w w1:=by
 refine⟨?_,?_⟩;unfold tS;rw[aL,dE,<-f];exact a;exact(c.alloc d o).grown g fS (λk i=>((h.e (o:=o)).lt k i).1)
def Wm{n:Nat}(h:ys++nb k=nb n)(a:¬k<128):(ys++[((k:Int)%128+128)])++nb (k/128)=nb n:=by
 rw[<-h,Num.Ci a];simp
def Wl{n:Nat}(h:ys++nb k=nb n)(a:k<128):ys++[(k:Int)]=nb n:=by
 rw[<-h,Num.sR a]
def Wo{n:Nat}(h:ys++nb k=nb n)(b:n<=1099511627776):ys.length<=6:=by
 have a:(nb n).length<=6:=Num.rZ 5 n (by
                            have:(128:Nat)^(5+1)=4398046511104:=cn;omega)
 rw[<-h,aL]at a;omega
def Wf(n:Nat){xs:List Int}{v:Dv}(hn:n<=1099511627776)(hx:xs.length<=1000)(hB:B<=w.heap.size)(hown:tS w B v xs):
  Calls prog 183 #[v,iI n] w λe w'=>∃v',e=.returned v'/\tS w' B v' (xs++nb n)/\Below B w w':=by
 let ⟨i0,hi,hz0,hz1,hz2⟩:=dg Co
 go_in;go_wp2;go_loopw [0,1] (λv i wr=>∃(k:Nat) (ys:List Int),k<=n/\i=iI k/\ys++nb k=nb n/\tS wr B v (xs++ys)/\Below B w wr) (λ_ i _=>(intOf i).toNat)
 case atStart=>exact⟨n,[],aj _,rfl,rfl,dD hown,au _ _⟩
 case round=>
  obtain⟨k,ys,hk,rfl,hys,hwn,hbl⟩:=hrel;have HY :Hid _:= hys;have hyl:=Wo hys hn;have hBr:B<=wr.heap.size:=by have:=hbl.size;omega
  have hl:(xs++ys).length<=1006:=by rw[aL];omega
  let ⟨zs,hzs⟩:∃zs,xs++ys=zs:=⟨_,rfl⟩
  rw[hzs]at hwn hl;have HZ :Hid _:= hzs;by_cases h:k<128
  .go_wp2_with (at_builtin;refine eO _ rfl _ _ 61 rfl B 5 i0 (.int .u8 0) 1 1 underlying61 hi hz0 hz1 hz2 rfl cn _ _ _ rfl (hwn.e) (FI wr 0) 1 1 [.int .u8 (k:Int)] rfl rfl (Le _) (Gf) ?c3 ?c4 ?c5 ?_)
   case c3=>unfold maxLen;omega
   case c4=>omega
   case c5=>simp;omega
   intro v' w1 hown' hgrow _;have R:=hwn.H (news:=[(k:Int)]) hbl hBr rfl hown' hgrow;rw[<-HZ.out,bP,Wl HY.out h]at R;go_wp2;go_ret;exact⟨_,rfl,R⟩
  .go_wp2_with (at_builtin;refine eO _ rfl _ _ 61 rfl B 5 i0 (.int .u8 0) 1 1 underlying61 hi hz0 hz1 hz2 rfl cn _ _ _ rfl (hwn.e) (FI wr 0) 1 1 [.int .u8 ((k:Int)%128+128)] rfl rfl (Le _) (Gf) ?d3 ?d4 ?d5 ?_)
   case d3=>unfold maxLen;omega
   case d4=>omega
   case d5=>simp;omega
   intro v' w1 hown' hgrow _;have R:=hwn.H (news:=[((k:Int)%128+128)]) hbl hBr rfl hown' hgrow;rw[<-HZ.out,bP]at R;have HP :Hid _:= (Wm HY.out h);go_wp2;go_roundw
   case rel=>exact⟨k/128,_,ak,by go_num,HP.out,R.1,R.2⟩
   case measure=>simp[intOf];omega
abbrev Sf (b:Nat):Array Value:=#[.pointer (some ⟨b,0,none⟩),.pointer (some ⟨b,1,none⟩),.pointer (some ⟨b,2,none⟩),.pointer (some ⟨b,3,none⟩),.pointer (some ⟨b,4,none⟩),.pointer (some ⟨b,5,none⟩),.pointer (some ⟨b,6,none⟩)]
def rx:
  Calls prog 180 #[.pointer (some (aA b 0))] w λe w'=>e=.returned (.agg (Sf b))/\FF w w':=by
 go_in;go_wp2;go_still_tail 22,bt;change wpList _ _ _ _ _ (World.drew (w.alloc _));go_wp2;refine bn (v:=.agg (Sf b)) (by simp[Sf,results,results180,go_sem]) rfl ⟨rfl,((au _ _).alloc (aj _) _).drew⟩
def xu{j:Nat}(hc:cC w (aA b j) (iI n)):
  Calls prog 222 #[.pointer (some (aA b j))] w λe w'=>e=.returned (.bool (!jK n))/\w'=w:=by
 unfold jK;by_cases h0:0<=n
 .by_cases a:n<=1099511627776
  .rw[Num.fu h0 a];go_in;go_wp2;go_ret;refine⟨?_,rfl⟩;show Ending.returned (.bool (decide (n<0)||decide (1099511627776<n)))=_;rw[aK ak,aK ak];rfl
  .rw[Num.j3 ak];go_in;go_wp2;go_ret;exact⟨rfl,rfl⟩
 .rw[Num.j4 ak];go_in;go_wp2;go_ret;exact⟨rfl,rfl⟩
def RZ(h:∀j,j<ns.length->jK (ns.getD j 0)=true):ns.all jK=true:=by
 rw[cM];intro x b;obtain⟨j,a,rfl⟩:=pZ b;have:=h j a;rwa [aD,aE a]at this
def Wn{j:Nat}(a:j<ns.length)(h:jK (ns.getD j 0)=false):ns.all jK=false:=by
 rw[aD,aE a]at h;rw[List.all_eq_false];exact⟨_,bp a,dD h⟩
def N3{a:Nat}(ns:List Int)(s:ns.length=7)(n:∀k,k<7->w.cell? (aA a k)=some (.pointer (some (aA b k))))(hc:∀k,k<7->cC w (aA b k) (iI (ns.getD k 0))):
  Calls prog 253 #[.slice (some (aA a 0)) 7 7,.func (.func 222) #[] #[]] w λe w'=>∃r:Int,e=.returned (iI r)/\decide (0<=r) = !(ns.all jK)/\w'=w:=by
 go_in;go_wp2;go_loop [8] (λi=>∃k:Nat,k<=7/\i=iI k/\∀j,j<k->jK (ns.getD j 0)=true) (λi=>7-(intOf i).toNat)
 case atStart=>exact⟨0,ak,rfl,λj g=>ak⟩
 case round=>
  obtain⟨k,t,rfl,c⟩:=hrel;by_cases f:k<7
  .have o:=n k f;have d:=hc k f;obtain⟨x,l⟩:∃x,ns.getD k 0=x:=⟨_,rfl⟩;rw[l]at d;have m :Hid _:= l;have p :Hid _:= c;cases hb:jK x with
   |true=>
    go_wp2_with (go_at_call 222;refine(xu d).mono ?_;rintro e w'⟨rfl,rfl⟩)
    go_round
    case rel=>
     refine⟨k+1,ak,by go_num,λj g=>?_⟩;rcases bX j k with h|h
     exact p.out j h;obtain rfl:j=k:=ak;rw[m.out];exact hb
    case measure=>simp[intOf];omega
   |false=>
    go_wp2_with (go_at_call 222;refine(xu d).mono ?_;rintro e w'⟨rfl,rfl⟩)
    go_ret;exact⟨k,rfl,by rw[Wn (j:=k) ak (m.out▸hb)];simp,rfl⟩
  .have q :Hid _:= RZ (λj g=>c j ak);go_wp2;go_ret;exact⟨-1,rfl,q.out▸rfl,rfl⟩
def DX(a b:Nat)(ns:List Int)(w:Ba)(c:ns.length=7)(d:∀k,k<7->w.cell? (aA a k)=some (.pointer (some (aA b k))))(hc:∀k,k<7->cC w (aA b k) (iI (ns.getD k 0))):
  Calls prog 221 #[.slice (some (aA a 0)) 7 7,.func (.func 222) #[] #[]] w λe w'=>e=.returned (.bool (!(ns.all jK)))/\w'=w:=by
 go_in;go_wp2_with (go_at_call 253;refine(N3 ns c d hc).mono ?_;rintro e w'⟨r,rfl,f,rfl⟩)
 go_ret;exact⟨f▸rfl,rfl⟩
def iv{W:Ba}(a:FF W w1):(∀b o,b<W.heap.size->w1.cell? ⟨b,o,none⟩=W.cell? ⟨b,o,none⟩)/\(∀b o,b<W.heap.size->w1.frozen? ⟨b,o,none⟩=W.frozen? ⟨b,o,none⟩):=
 ⟨λb o h=>a.cell (p:=(aA b o)) h,λb o h=>a.frozen (p:=(aA b o)) h⟩
def Gg{Q:Nat->Prop}(h0:Q 0)(a:Q 1)(b:Q 2)(c:Q 3)(d:Q 4)(e:Q 5)(f:Q 6):∀k,k<7->Q k:=by
 intro k g;match k,g with
 |0,_=>exact h0
 |1,_=>exact a
 |2,_=>exact b
 |3,_=>exact c
 |4,_=>exact d
 |5,_=>exact e
 |6,_=>exact f
def N5(w:Ba):∀k,k<7->(w.alloc (.cells (Sf b) t)).cell? ⟨w.heap.size,k,none⟩=some (.pointer (some ⟨b,k,none⟩)):=by
 apply Gg<;>simp
def N4(w w':Ba){k c e s o v:Int}{l:Bool}{d:DS}{b:DU}{x:Array Dv}(a:Below (w.alloc (.cells #[.int .i64 k,.int .i64 c,.int .i64 n,.int .i64 e,.int .i64 s,.int .i64 o,.int .i64 v,.bool l,.string d] t)).heap.size (w.alloc (.cells #[.int .i64 k,.int .i64 c,.int .i64 n,.int .i64 e,.int .i64 s,.int .i64 o,.int .i64 v,.bool l,.string d] t)) w'):
  ∀j,j<7->(w'.alloc (.cells x b)).cell? ⟨w.heap.size,j,none⟩=some (.int .i64 ([k,c,n,e,s,o,v].getD j 0)):=by
 have f:=a.size;simp at f;intro j g;rw[aC _ _ (FI w j) (by show w.heap.size<_;omega),(iv a).1 _ _ aY];revert j;apply Gg<;>simp
def M.ab(m:M):Value:=.agg #[.int .i64 m.k,.int .i64 m.c,.int .i64 m.n,.int .i64 m.e,.int .i64 m.s,.int .i64 m.o,.int .i64 m.v,.bool m.l,.string m.d]
def Cp(m:M)(w:Ba)(u:m.d.size<=1000):
  Calls prog 182 #[M.ab m] w λe w'=>e=.returned (.bool (iH m))/\FF w w':=by
 let ⟨k,c,n,e,s,o,v,l,d⟩:=m
 unfold M.ab;dsimp only at *;by_cases b:lY k 1 9=true
 .have ⟨q,r⟩:=Num.eo b;by_cases f:d.size<=20
  .have a:iH ⟨k,c,n,e,s,o,v,l,d⟩=[k,c,n,e,s,o,v].all jK:=by simp[iH,b,f,M.j]
   rw[a];go_in;go_wp2_with (go_at_call 180;refine(rx).mono ?_;rintro e w'⟨rfl,g⟩;let ⟨hc,x⟩:=iv g)
   refine(DX _ w.heap.size [k,c,n,e,s,o,v] _ rfl (N5 _) (N4 _ _ g)).mono ?_;rintro e w2⟨rfl,rfl⟩;go_wp2;go_ret;refine⟨aY,?_⟩;have t:=g.size;simp at t;exact(((au _ _).alloc (aj _) _).trans (g.mono aY)).alloc ak _
  .have a:iH ⟨k,c,n,e,s,o,v,l,d⟩=false:=by simp[iH,b,f]
   rw[a];go_in;go_wp2;go_ret;exact⟨rfl,(au _ _).alloc (aj _) _⟩
 .have a:iH ⟨k,c,n,e,s,o,v,l,d⟩=false:=by simp[iH,b]
  rw[a];have i:k<1\/9<k:=by
   by_cases h:k<1;exact .inl h;refine .inr ?_;rcases Int.lt_or_le 9 k with p|p
   exact p;exact absurd (Num.fu ak p) b
  rcases i with h|h
  .go_in;go_wp2;go_ret;exact⟨rfl,(au _ _).alloc (aj _) _⟩
  .go_in;go_wp2;go_ret;exact⟨rfl,(au _ _).alloc (aj _) _⟩
end Wire
end Go.Proofs.YtbebfliimjjohabGreatDoor
