/- Parts of the proof. -/
import Derived.Test.YtbebfliimjjohabGreatDoorM43
import Derived.RangeFuncNested
import Derived.RangeFuncBound
import Derived.Shelf.RegionOpen
import Derived.OwnWalkIn
import Derived.LoopNIn
import Derived.LoopIn
set_option maxRecDepth 100000
set_option maxHeartbeats 8000000
set_option linter.all false
open Go.Proofs.Tryz
namespace Go.Proofs.YtbebfliimjjohabGreatDoor
open Go.RowKit Go.Maps Go.Shelf
open Lease (gv fg)
open Num (M iC)
open Net (kF)
open Cache (tp bp bD)
variable{s x:Bh}
section
namespace Wld
open Go.RowKit Go.Maps Go.Shelf
open Cache (tp bp bD)
def kY:List UInt8->List (List UInt8)
 | []=>[[]]
 |c::t=>if c=10 then []::kY t else match kY t with
  | []=>[[c]]
  |x::r=>(c::x)::r
def Nf:∀l,kY l≠[]
 | []=>by simp[kY]
 |c::t=>by
  unfold kY;split;simp;split<;>simp
def Im:∀l,Lib.indexByte l 10 = -1->kY l=[l]
 | [],_=>rfl
 |c::t,h=>by
  unfold Lib.indexByte at h;unfold kY;by_cases hc:c=10;subst hc;simp at h;rw[ax hc];rw[ax (by simpa using hc)]at h;have d:Lib.indexByte t 10 = -1:=by
   by_cases q:Lib.indexByte t 10 = -1;exact q;rw[ax (by simpa using q)]at h;have:∀l:List UInt8,-1<=Lib.indexByte l 10:=λl=>by
    induction l with
    |nil=>simp[Lib.indexByte]
    |cons a b e=>
     unfold Lib.indexByte;split;omega;split<;>omega
   have:=this t;omega
  rw[Im t d]
def Io:∀l,Lib.indexByte l 10≠-1->0<=Lib.indexByte l 10/\(Lib.indexByte l 10).toNat<l.length/\kY l=l.take (Lib.indexByte l 10).toNat::kY (l.drop ((Lib.indexByte l 10).toNat+1))
 | [],h=>by simp[Lib.indexByte]at h
 |c::t,h=>by
  by_cases hc:c=10;subst hc;have e:Lib.indexByte (10::t) 10=0:=by simp[Lib.indexByte]
  rw[e];refine⟨by omega,by simp,?_⟩;simp[kY]
  .have e:Lib.indexByte (c::t) 10=if Lib.indexByte t 10 == -1 then -1 else Lib.indexByte t 10+1:=by
    rw[Lib.indexByte,ax (by simpa using hc)]
   by_cases q:Lib.indexByte t 10 = -1;rw[e,az (by simpa using q)]at h;exact absurd rfl h
   .rw[ax (by simpa using q)]at e;obtain⟨d,f,a⟩:=Io t q;rw[e];have b:(Lib.indexByte t 10+1).toNat=(Lib.indexByte t 10).toNat+1:=by omega
    rw[b];refine⟨by omega,by simp;omega,?_⟩;rw[List.take_succ_cons,List.drop_succ_cons];conv=>lhs;unfold kY
    rw[ax hc,a]
def dp(s:ByteArray):List ByteArray:=(kY s.data.toList).map λl=>⟨l.toArray⟩
def UD{a b:Bh}(h:a.data.toList=b.data.toList):a=b:=vj h
def Lu(h:Lib.indexByte s.data.toList 10 = -1):dp s=[s]:=by
 unfold dp;rw[Im _ h];simp
def Lx(h:Lib.indexByte s.data.toList 10≠-1):∃i:Nat,Lib.indexByte s.data.toList 10=i/\i<s.size/\dp s=s.extract 0 i::dp (s.extract (i+1) s.size):=by
 obtain⟨c,a,b⟩:=Io _ h;refine⟨(Lib.indexByte s.data.toList 10).toNat,by omega,by rw[dH]at a;exact a,?_⟩;generalize (Lib.indexByte s.data.toList 10).toNat=i at *;unfold dp;rw[b,cE];congr 1;apply UD;simp;have:(s.extract (i+1) s.size).data.toList=s.data.toList.drop (i+1):=by
  rw[YM,yR,List.extract_eq_take_drop];exact iT (by rw[cK,dH];exact aa _)
 rw[this]
def Nh:∀l,((kY l).map λx=>x.length+1).sum=l.length+1
 | []=>rfl
 |c::t=>by
  have h:=Nh t;unfold kY;split;simp;omega;cases ht:kY t with
  |nil=>exact absurd ht (Nf t)
  |cons x r=>
   rw[ht]at h;simp at h⊢;omega
def xK(s:Bh):((dp s).map λx=>x.size+1).sum=s.size+1:=by
 have h:=Nh s.data.toList;rw[dH]at h;unfold dp;rw[lK];exact h
def YH{l:List Bh}(h:x∈l):x.size+1<=(l.map λx=>x.size+1).sum:=by
 induction l with
 |nil=>cases h
 |cons y t a=>
  simp;rcases bN.1 h with rfl|q
  omega;have:=a q;omega
def Lv(h:x∈dp s):x.size<=s.size:=by
 have a:=YH h;rw[xK]at a;omega
def QF(s:Bh):(dp s).length<=s.size+1:=by
 rw[<-xK];generalize dp s=l;induction l with
 |nil=>exact aa _
 |cons x t a=>simp;omega
def DR(p:Nat)(w:World):Nat:=match w.cell? ⟨p,0,none⟩ with
 |some (.string s)=>s.size
 |_=>0
attribute [local go_sem] Oper.semAt_some
theorem Vv(l pS pE pV:Nat)(text:ByteArray)(J:ByteArray->List ByteArray->World->Prop)(hl:text.size<=1000000)
  (hY:∀rest pre x W,J rest pre W->pre++[x] <+: dp text->YieldAt Fence.wide 3 prog l #[.string x] W λe W'=>e=.returned (.bool true)/\J rest (pre++[x]) W')
  (hset:∀rest rest' pre W,J rest pre W->J rest' pre (W.setCell (aA pS 0) (.string rest')))
  (hc:∀rest pre W,J rest pre W->cC W (aA pS 0) (.string rest)/\W.frozen? (aA pS 0)=false/\cC W (aA pE 0) (.string ⟨#[10]⟩)/\cC W (aA pV 0) (iI 0))
  (W:World) (h0:J text [] W):
  CallsIn Fence.wide 4 prog 154 #[.func (.yield l) #[] #[],.pointer (some (aA pE 0)),.pointer (some (aA pS 0)),.pointer (some (aA pV 0))] W λe W'=>(∃v,e=.returned v)/\∃rest,J rest (dp text) W':=by
 refine callsIn_of_wp func154 rfl aE ?_ rfl
 simp only[ntmps154,ge,bT,xP,Nat.reduceAdd,Nat.reduceSub,fF,fH,gF,ga,cH,dB]
 let ⟨c0,f0,c1,c2⟩:=hc _ _ _ h0
 have HY:Hid (∀rest pre x W,J rest pre W->pre++[x] <+: dp text->YieldAt Fence.wide 3 prog l #[.string x] W λe W'=>e=.returned (.bool true)/\J rest (pre++[x]) W'):=hY
 have HS:Hid (∀rest rest' pre W,J rest pre W->J rest' pre (W.setCell (aA pS 0) (.string rest'))):=hset
 have HC:Hid (∀rest pre W,J rest pre W->cC W (aA pS 0) (.string rest)/\W.frozen? (aA pS 0)=false/\cC W (aA pE 0) (.string ⟨#[10]⟩)/\cC W (aA pV 0) (iI 0)):=hc
 have HJ0:Hid (J text [] W):=h0

 gi_wp2

 gi_loopw [] (λwr=>∃rest pre,J rest pre wr/\dp text=pre++dp rest/\rest.size<=1000000) (λwr=>DR pS wr)
 case atStart=>exact⟨text,[],HJ0.out,rfl,hl⟩
 case round=>
  let ⟨rest,pre,hJ,hlines,hsz⟩:=hrel
  let ⟨c0,f0,c1,c2⟩:=HC.out _ _ _ hJ
  have HLB:Hid (DR pS wr=rest.size):=by unfold Hid DR;rw[c0]
  have HL:Hid (dp text=pre++dp rest):=hlines
  have HJ:Hid (J rest pre wr):=hJ

  have hix:=(gO (n:=3)).2 (aU rest 10 wr)
  by_cases hi:Lib.indexByte rest.data.toList 10 = -1
  .rw[hi]at hix
   have HLN:Hid (dp rest=[rest]):=Lu hi
   let ⟨fn,tmps,assign,body,hy,hR⟩:=HY.out rest pre rest wr HJ.out ⟨[],by rw[HL.out,HLN.out,dP]⟩

   gi_wp2
   refine⟨aE,hix.mono ?_⟩
   rintro e w'⟨rfl,hw'⟩
   rw[hw']

   gi_wp2
   apply hR.mono
   rintro e W3⟨rfl,hJ3⟩
   have HE:Hid (∃rest,J rest (dp text) W3):=⟨rest,by rw[HL.out,HLN.out];exact hJ3⟩

   gi_wp2
   go_end0
   exact⟨⟨_,rfl⟩,HE.out⟩
  .let ⟨i,hii,his,hln⟩:=Lx hi
   rw[hii]at hix
   let ⟨fn,tmps,assign,body,hy,hR⟩:=HY.out rest pre (rest.extract 0 i) wr HJ.out ⟨dp (rest.extract (i+1) rest.size),by rw[HL.out,hln,bQ];rfl⟩
   have HLN:Hid (dp rest=rest.extract 0 i::dp (rest.extract (i+1) rest.size)):=hln
   have hneg:¬(i:Int)<0:=by omega
   have hw0:IntKind.i64.wrap ((i:Int)+0)=i:=VE (by omega) (by omega)
   have hw1:IntKind.i64.wrap ((i:Int)+1)=(i:Int)+1:=VE (by omega) (by omega)

   gi_wp2
   refine⟨aE,hix.mono ?_⟩
   rintro e w'⟨rfl,hw'⟩
   rw[hw']

   gi_wp2
   apply hR.mono
   rintro e W3⟨rfl,hJ3⟩
   let ⟨d0,g0,d1,d2⟩:=HC.out _ _ _ hJ3
   have HJ4:Hid (J (rest.extract (i+1) rest.size) (pre++[rest.extract 0 i]) (W3.setCell (aA pS 0) (.string (rest.extract (i+1) rest.size)))):=HS.out _ _ _ _ hJ3
   have HLB4:Hid (DR pS (W3.setCell (aA pS 0) (.string (rest.extract (i+1) rest.size)))<rest.size/\(rest.extract (i+1) rest.size).size<=1000000):=by
    have e:DR pS (W3.setCell (aA pS 0) (.string (rest.extract (i+1) rest.size)))=(rest.extract (i+1) rest.size).size:=by
     unfold DR
     rw[ay _ _ _ d0]
    unfold Hid
    rw[e,YN]
    omega

   gi_wp2
   go_roundw
   case rel=>exact⟨_,_,HJ4.out,by rw[HL.out,HLN.out,bQ];rfl,HLB4.out.2⟩
   case measure=>have:=HLB4.out.1;rw[HLB.out];exact this
end Wld
end
namespace Wld
variable{rest:Bh}{out:List UInt8}{B N d m pd b pS pE pV C C' T:Nat}{A:Wa}{s s':Wd}{w0 W W' w w':A1}
def el(w:Wd):Nat:=w.ba.length
def xG{n:Nat}(h:n<100):(jY n).size<=1000:=by
 unfold jY;rw[jb];have a:=Lib.itoa_length_le (n:Int) (by omega) (by omega);rw[Lib.itoa_nonneg]at a;have b:(⟨(Lib.decDigits n).toArray⟩:Bh).size=(Lib.decDigits n).length:=ge;have c:(⟨#[101,114,114,111,114,32]⟩:Bh).size=6:=rfl;omega
def oE:List ByteArray->Wd->Wd
 | [],s=>s
 |x::t,s=>oE t (lI x s).2
def jz:List ByteArray->Wd->List UInt8
 | [],_=>[]
 |x::t,s=>(nu x s).data.toList++10::jz t (lI x s).2
def jH:List ByteArray->Nat
 | []=>0
 |x::t=>oh x+jH t
def I7(x:Bh):∀(l:List Bh) (s:Wd),oE (l++[x]) s=(lI x (oE l s)).2
 | [],_=>rfl
 |y::t,s=>I7 x t (lI y s).2
def BA(x:Bh):∀(l:List Bh) (s:Wd),jz (l++[x]) s=jz l s++(nu x (oE l s)).data.toList++[10]
 | [],s=>by simp[jz,oE]
 |y::t,s=>by
  show (nu y s).data.toList++10::jz (t++[x]) (lI y s).2=_;rw[BA x t];simp[jz,oE]
def uR(x:Bh):∀(l:List Bh),jH (l++[x])=jH l+oh x
 | []=>by simp[jH]
 |y::t=>by
  show oh y+jH (t++[x])=_;rw[uR x t];simp only[jH];omega
def qqe:List ByteArray->Wd->Bool
 | [],_=>true
 |x::t,s=>decide ((nu x s).size<=10600000)&&(QO x s&&qqe t (lI x s).2)
def qqf:∀(l:List Bh) (x:Bh) (r:List Bh) (s:Wd),qqe (l++x::r) s=true->(nu x (oE l s)).size<=10600000/\QO x (oE l s)=true
 | [],_,_,_,h=>let q:=Bool.and_eq_true_iff.1 h;⟨of_decide_eq_true q.1,(Bool.and_eq_true_iff.1 q.2).1⟩
 |y::l,x,r,_,h=>qqf l x r _ (Bool.and_eq_true_iff.1 (Bool.and_eq_true_iff.1 h).2).2
def bM.a2(h:bM w A s){k:Nat}(f:wfoot w A s k):k<w.heap.size:=by
 rcases f with f|f|⟨v,c,d⟩|⟨i,e,f⟩|⟨i,e,f⟩|⟨c,d⟩
 rw[f];exact h.I;rw[f];exact h.u.H;let ⟨l,a,g⟩:=h.x
 rw[c]at a;injection a with a
 subst a;exact(bv g k d).2;rw[f];exact(h.o i e).ac.H;rw[f];exact(h.o i e).p.elim λ_ q=>World.ownsMap.lt q.1;let ⟨v,j⟩:=aV.1 c
 exact(h.t v j).b.H d
def Ds.V{M:Bg}(h:Ds B N d M w A s C)(c:Below N w w')(o:∀y,N<=y->y<w.heap.size->¬Du w y->w'.heap[y]?=w.heap[y]?):Ds B N d M w' A s C:=by
 have f:∀y,y<N->w'.heap[y]?=w.heap[y]?:=λy g=>c.block y g;obtain⟨x,y⟩:=h.b.b.ac (w':=w') c.size (λy g=>by
  rcases g with q|q
  exact o y (h.t y q) (h.b.b.a2 q) (h.b.b.ae q);rcases cz y N with k|k
  exact f y k;exact o y k q.H (q.h rfl))
 have e:∀j,w'.cell? (aA d j)=w.cell? (aA d j):=λj=>aj (a:=(aA d j)) (f d h.o);exact⟨⟨h.b.e.e (f d h.o),(e 0).trans h.b.h,(e 1).trans h.b.i,x⟩,λj=>(aJ (a:=(aA d j)) (f d h.o)).trans (h.x j),λk l=>h.t k (y k l),h.j.e (c.mono (by have:=h.u;have:=h.o;omega)),h.u,h.o,aP h.p c.size,h.h⟩
structure Jb(w0:World)(B N d m pd b pS pE pV:Nat)(rest:ByteArray)(s:Wd)(C:Nat)(out:List UInt8)(W:World):Prop where
 i:∃A,Ds B N d (.map (some m)) W A s C
 I:ic W m d
 o:m<N
 w:m≠d
 h:w0.heap.size<=d
 F:Below w0.heap.size w0 W
 e:Lib.IsBuilderF 97 5 N b (Lib.byteCells out) W
 t:W.heap[pd]?=some (.cells #[tp d] 93 (0,0))
 j:W.heap[pS]?=some (.cells #[.string rest] 9 (0,0))
 u:W.heap[pE]?=some (.cells #[.string ⟨#[10]⟩] 9 (0,0))
 p:W.heap[pV]?=some (.cells #[.int .i64 0] 3 (0,0))
 y:pS≠pE
 V:N<=pd
 x:N<=pS
 J:N<=pE
 O:N<=pV
def qV{e:Nat}{bs:List Bg}(h:Lib.IsBuilderF T e B b bs w)(l:w'.heap[b]?=w.heap[b]?)(m:∀(g:Nat) (c:Array Bg) (f:Nat×Nat),w.heap[g]?=some (.cells c e f)->w'.heap[g]?=w.heap[g]?):Lib.IsBuilderF T e B b bs w':=by
 have k:∀p,Lib.BuilderAtF T e B b p bs w->Lib.BuilderAtF T e B b p bs w':=λp q=>by
  obtain⟨n,v,o,⟨r,a⟩,s⟩:=q;refine⟨n,v,l.trans o,⟨r,?_⟩,s⟩;rcases a with a|⟨g,d,i,fz,t,u,j,rest⟩
  exact .inl a;exact .inr ⟨g,d,i,fz,t,u,(m _ _ _ j).trans j,rest⟩
 exact h.elim (λq=>.inl (k _ q)) (λq=>.inr (k _ q))
def iP{e:Nat}{bs:List Bg}(h:Lib.IsBuilderF T e B b bs w)(d:YF T=false):Du w b/\B<=b/\∃c f,w.heap[b]?=some (.cells c T f):=by
 have k:∀p,Lib.BuilderAtF T e B b p bs w->Du w b/\B<=b/\∃c f,w.heap[b]?=some (.cells c T f):=λp q=>by
  obtain⟨g,v,a,_⟩:=q;exact⟨⟨_,a,by simp[LF,d]⟩,g,_,_,a⟩
 exact h.elim (λq=>k _ q) (λq=>k _ q)
def Jb.ab(h:Jb w0 B N d m pd b pS pE pV rest s C out W)(hd:∃A,Ds B N d (.map (some m)) W' A s' C')(a:ic W' m d)(z:Dz N d W W'):Jb w0 B N d m pd b pS pE pV rest s' C' out W':=by
 have k:∀{p:Nat} {o:Obj},W.heap[p]?=some o->LF o=true->W'.heap[p]?=some o:=λ{p o} e l=>(z.b p ⟨o,e,l⟩).trans e;refine⟨hd,a,h.o,h.w,h.h,h.F.trans (z.O (by obtain⟨A,x⟩:=h.i;have:=x.o;have:=h.h;omega) h.h),qV h.e (z.b b (iP h.e rfl).1) (λg c f e=>z.b g ⟨_,e,rfl⟩),k h.t rfl,k h.j rfl,k h.u rfl,k h.p rfl,h.y,h.V,h.x,h.J,h.O⟩
def Jb.H{a:List UInt8}(h:Jb w0 B N d m pd b pS pE pV rest s C out W)(l:Lib.IsBuilderF 97 5 N b (Lib.byteCells a) W')(n:Below N W W')(z:Lib.OthersKept 5 (some b) W W'):Jb w0 B N d m pd b pS pE pV rest s C a W':=by
 let ⟨D,M,P,Q,E⟩:=iP h.e rfl
 have k:∀{p:Nat} {o:Obj},W.heap[p]?=some o->p≠b->(∀c fz,o≠.cells c 5 fz)->W'.heap[p]?=some o:=λ{p o} e G K=>z p o e (by intro q;injection q with q;exact G q) K;have nb:∀{p:Nat} {c:Array Bg} {t:Bi} {f:Nat×Nat},W.heap[p]?=some (.cells c t f)->t≠97->p≠b:=λ{p c t f} e L q=>by
  subst q;rw[E]at e;injection e with e
  injection e with _ e _
  exact L e.symm
 have r:∃A,Ds B N d (.map (some m)) W' A s C:=by
  let ⟨A,x⟩:=h.i
  refine⟨A,x.V n λy R v g=>?_⟩;let ⟨o,e⟩:∃o,W.heap[y]?=some o:=⟨_,bj v⟩
  rw[e];refine k e (λq=>g (by rw[q];exact D)) (λc fz q=>g ⟨o,e,by rw[q];rfl⟩)
 refine⟨r,(n.block m h.o).trans h.I,h.o,h.w,h.h,h.F.trans (n.mono (by let ⟨A,x⟩:=h.i;have:=x.o;have:=h.h;omega)),l,k h.t (nb h.t (by decide)) (by rintro c fz q;cases q),k h.j (nb h.j (by decide)) (by rintro c fz q;cases q),k h.u (nb h.u (by decide)) (by rintro c fz q;cases q),k h.p (nb h.p (by decide)) (by rintro c fz q;cases q),h.y,h.V,h.x,h.J,h.O⟩
def Jb.ac(h:Jb w0 B N d m pd b pS pE pV rest s C out W){p:Nat}{o:Obj}(z:W.heap[p]?=some o)(hc:∀c t f,o≠.cells c t f)(D:LF o=true)(H:N<=p){a:Obj}:Jb w0 B N d m pd b pS pE pV rest s C out (W.putObj p a):=by
 have k:∀y,y≠p->(W.putObj p a).heap[y]?=W.heap[y]?:=λy l=>World.putObj_heap_other l;have ne:∀{y:Nat} {c:Array Bg} {t:Bi} {f:Nat×Nat},W.heap[y]?=some (.cells c t f)->y≠p:=λ{y c t f} e q=>by
  subst q;rw[z]at e;injection e with e
  exact hc _ _ _ e
 have n:Below N W (W.putObj p a):=⟨rfl,rfl,rfl,by simp,λy l=>k y (by omega)⟩;let ⟨K,L,M,P,E⟩:=iP h.e rfl
 have r:∃A,Ds B N d (.map (some m)) (W.putObj p a) A s C:=by
  let ⟨A,x⟩:=h.i
  exact⟨A,x.V n λy l G v=>k y (by rintro rfl;exact v ⟨o,z,D⟩)⟩
 exact⟨r,(n.block m h.o).trans h.I,h.o,h.w,h.h,h.F.trans (n.mono (by let ⟨A,x⟩:=h.i;have:=x.o;have:=h.h;omega)),qV h.e (k b (ne E)) (λg c f e=>k g (ne e)),(k _ (ne h.t)).trans h.t,(k _ (ne h.j)).trans h.j,(k _ (ne h.u)).trans h.u,(k _ (ne h.p)).trans h.p,h.y,h.V,h.x,h.J,h.O⟩
def Jb.ae(h:Jb w0 B N d m pd b pS pE pV rest s C out W)(a:Bh):Jb w0 B N d m pd b pS pE pV a s C out (W.setCell (aA pS 0) (.string a)):=by
 have k:∀y,y≠pS->(W.setCell (aA pS 0) (.string a)).heap[y]?=W.heap[y]?:=λy v=>aX W (aA pS 0) _ y v;have ne:∀{y:Nat} {c:Array Bg} {t:Bi} {f:Nat×Nat},W.heap[y]?=some (.cells c t f)->t≠9->y≠pS:=λ{y c t f} e z q=>by
  subst q;rw[h.j]at e;injection e with e
  injection e with _ e _
  exact z e.symm
 have l:Below N W (W.setCell (aA pS 0) (.string a)):=(au _ _).setCell (p:=(aA pS 0)) h.x _;let ⟨G,H,K,L,D⟩:=iP h.e rfl
 have n:∃A,Ds B N d (.map (some m)) (W.setCell (aA pS 0) (.string a)) A s C:=by
  let ⟨A,x⟩:=h.i
  exact⟨A,x.V l λy v E r=>k y (by rintro rfl;exact r ⟨_,h.j,rfl⟩)⟩
 exact⟨n,(l.block m h.o).trans h.I,h.o,h.w,h.h,h.F.trans (l.mono (by let ⟨A,x⟩:=h.i;have:=x.o;have:=h.h;omega)),qV h.e (k b (ne D (by decide))) (λg c f e=>k g (ne e (by decide))),(k _ (ne h.t (by decide))).trans h.t,by
  have:=heap_setCell_same W pS 0 #[.string rest] 9 (.string a) h.j;exact this,(k _ (fE h.y)).trans h.u,(k _ (ne h.p (by decide))).trans h.p,h.y,h.V,h.x,h.J,h.O⟩
theorem L0{g:Operand}{ps:Array Tmp}{assign body:Code}{Q:Exit->Act->World->Prop}{a:Act}{W0:World}{pS pE pV:Nat}{tt:ByteArray}
  (hg:a.eval g=.func (.func 154) #[] #[.pointer (some ⟨pE,0,none⟩),.pointer (some ⟨pS,0,none⟩),.pointer (some ⟨pV,0,none⟩)]) (hps:ps.size=1) (hl:tt.size<=1000000)
  (I:ByteArray->List ByteArray->World->Prop) (h0:∀r,I tt [] ((W0.alloc (.deferred (some []))).alloc (.loop r)))
  (hoff:∀rest pre W r r',I rest pre W->W.heap[W0.heap.size+1]?=some (.loop r)->I rest pre (W.putObj (W0.heap.size+1) (.loop r')))
  (hset:∀rest rest' pre W,I rest pre W->I rest' pre (W.setCell ⟨pS,0,none⟩ (.string rest')))
  (hc:∀rest pre W,I rest pre W->W.cell? ⟨pS,0,none⟩=some (.string rest)/\W.frozen? ⟨pS,0,none⟩=false/\W.cell? ⟨pE,0,none⟩=some (.string ⟨#[10]⟩)/\W.cell? ⟨pV,0,none⟩=some (.int .i64 0))
  (a1:ByteArray->Act)
  (hassign:∀(x:ByteArray) (W:World) (K:Act->World->Prop),K (a1 x) W->assign.wpIn (Fence.wide.inRound (W0.heap.size+1)) 3 prog (Exit.then K (λ_ _ _=>False)) {tmps:=(ps.zip #[.string x]).foldl (λt (p,v)=>t.setIfInBounds p v) a.tmps,defers:=[]} W)
  (hbody:∀rest pre x W,I rest pre W->pre++[x] <+: dp tt->(∃r,W.heap[W0.heap.size+1]?=some (.loop r))->W.heap[W0.heap.size]?=some (.deferred (some [])) ->
   body.wpIn (Fence.wide.inRound (W0.heap.size+1)) 3 prog (λe _ W'=>e=.normal/\I rest (pre++[x]) W'/\W'.heap[W0.heap.size+1]?=W.heap[W0.heap.size+1]?/\W'.heap[W0.heap.size]?=W.heap[W0.heap.size]?) (a1 x) W)
  (hdone:∀rest W,I rest (dp tt) W->W.heap[W0.heap.size]?=some (.deferred (some []))->Q .normal {a with defers:={target:=.collected W0.heap.size,args:=#[]} :: a.defers} W):
  (Code.rangeFunc g ps assign body).wpIn Fence.wide 5 prog Q a W0:=by
 apply wpIn_rangeFunc
 intro fn hfn
 show ∃(l:Nat) (mark:List Deferred) (w₁:World) (d:Deferred) (w₁':World) (f:FuncId) (args:Array Value) (w₂:World),(Instr.enterLoop fn a.tmps ps assign body none).run prog W0=.ok (l,mark) w₁/\_
 let ⟨rec,hrec⟩:∃rec:LoopState->Option Code->Loop,rec=λst pe=>{state:=st,pending:=pe,fn,tmps:=a.tmps,params:=ps,assign,body,defers:=W0.heap.size}:=⟨_,rfl⟩
 let ⟨W1,hW1⟩:∃W1,(W0.alloc (.deferred (some []))).alloc (.loop (rec .ready none))=W1:=⟨_,rfl⟩
 have hL1:W1.heap[W0.heap.size+1]?=some (.loop (rec .ready none)):=by
  rw[<-hW1];have:=World.alloc_heap_new (W0.alloc (.deferred (some []))) (.loop (rec .ready none));rwa [World.size_alloc]at this
 have hK1:W1.heap[W0.heap.size]?=some (.deferred (some [])):=by
  rw[<-hW1];exact(fJ _ _ _ (by simp)).trans (World.alloc_heap_new W0 _)
 have hI1:I tt [] W1:=by rw[<-hW1];exact h0 _
 refine⟨W0.heap.size+1,[{target:=.collected W0.heap.size,args:=#[]}],W1,{target:=.fn (.func 154) #[.pointer (some (aA pE 0)),.pointer (some (aA pS 0)),.pointer (some (aA pV 0))],args:=#[.func (.yield (W0.heap.size+1)) #[] #[]]},W1,154,
  #[.func (.yield (W0.heap.size+1)) #[] #[],.pointer (some (aA pE 0)),.pointer (some (aA pS 0)),.pointer (some (aA pV 0))],W1,?_,?_,?_,?_,λ_=>by omega,?_⟩
 .rw[<-hW1,hrec];exact run_enterLoop_outer _ _ _ _ _
 .simp only[resolve,hg]
  simp[go_sem]
 .intro f' hf';trivial
 .simp[invoke,go_sem]
 .refine(Vv _ pS pE pV tt (λrest pre W=>I rest pre W/\W.heap[W0.heap.size+1]?=some _/\W.heap[W0.heap.size]?=some _) hl ?_ ?_ (λrest pre W hW=>hc rest pre W hW.1) W1 ⟨hI1,hL1,hK1⟩).mono ?_
  .rintro rest pre x W⟨hi,hl2,hk⟩ hpre
   have hlt:= (am.1 hl2).1
   have hy:=run_yield (P:=prog) (args:=#[.string x]) hl2 (by rw[hrec];exact hps.symm)
   rw[hrec]at hy
   refine⟨fn,_,assign,body,hy,roundIn_of_wpIn hfn (hassign x W _ ?_)⟩
   refine⟨_,run_beginRound hl2 (by rw[hrec]),?_⟩
   have hl3:(W.putObj _ (.loop {rec .ready none with state:=.busy})).heap[W0.heap.size+1]?=some (.loop {rec .ready none with state:=.busy}):=World.putObj_heap_same hlt
   have hk3:(W.putObj (W0.heap.size+1) (.loop {rec .ready none with state:=.busy})).heap[W0.heap.size]?=some (.deferred (some [])):=(World.putObj_heap_other (by omega)).trans hk
   apply wpIn_mono (hbody rest pre x _ (hoff _ _ _ _ _ hi hl2) hpre ⟨_,hl3⟩ hk3)
   rintro e a3 W3⟨rfl,hi3,e1,e2⟩
   have hl4:=e1.trans hl3
   have hr:=run_endRound (P:=prog) none hl4
   refine⟨_,_,hr,rfl,hoff _ _ _ _ _ hi3 hl4,?_,?_⟩
   .rw[World.putObj_heap_same (am.1 hl4).1,hrec]
    rfl
   .exact(World.putObj_heap_other (by omega)).trans (e2.trans hk3)
  .rintro rest rest' pre W⟨hi,hl2,hk⟩
   have hcl:=(hc _ _ _ hi).1
   have hne:∀p,(∃o,W.heap[p]?=some o/\∀c t f,o≠.cells c t f)->p≠pS:=λp hp e=>by
    let ⟨o,ho,hn⟩:=hp
    subst e
    unfold World.cell? at hcl
    rw[ho]at hcl
    cases o<;>first|(exact hn _ _ _ rfl)|cases hcl
   exact⟨hset _ _ _ _ hi,(aX W (aA pS 0) _ _ (hne _ ⟨_,hl2,by rintro c t f q;cases q⟩)).trans hl2,(aX W ⟨pS,0,none⟩ _ _ (hne _ ⟨_,hk,by rintro c t f q;cases q⟩)).trans hk⟩
  .rintro e W2⟨⟨v,rfl⟩,rest,hi,hl2,hk⟩
   refine⟨none,_,(by have:=run_endLoop (P:=prog) hl2 (by rw[hrec];simp);rw[hrec]at this;exact this),?_⟩
   exact hdone rest _ (hoff _ _ _ _ _ hi hl2) ((World.putObj_heap_other (by omega)).trans hk)
end Wld
end Go.Proofs.YtbebfliimjjohabGreatDoor
