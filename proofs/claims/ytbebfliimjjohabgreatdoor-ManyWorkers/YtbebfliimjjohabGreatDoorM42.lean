/- Parts of the proof. -/
import Derived.Test.YtbebfliimjjohabGreatDoorM41
import Derived.RangeFuncNested
set_option maxRecDepth 100000
set_option maxHeartbeats 8000000
set_option linter.all false
open Go.Proofs.Tryz
namespace Go.Proofs.YtbebfliimjjohabGreatDoor
open Go.RowKit Go.Maps Go.Shelf
open Lease (fN eI)
open Num (M iH)
open Net (jW)
open Cache (tp aZ bq)
variable{s x:DS}
section
namespace Wld
open Go.RowKit Go.Maps Go.Shelf
open Cache (tp aZ bq)
def kS:List UInt8->List (List UInt8)
 | []=>[[]]
 |c::t=>if c=10 then []::kS t else match kS t with
  | []=>[[c]]
  |x::r=>(c::x)::r
def Lp:∀l,kS l≠[]
 | []=>by simp[kS]
 |c::t=>by
  unfold kS;split;simp;split<;>simp
def GD:∀l,Lib.indexByte l 10 = -1->kS l=[l]
 | [],_=>rfl
 |c::t,h=>by
  unfold Lib.indexByte at h;unfold kS;by_cases hc:c=10;subst hc;simp at h;rw[ay hc];rw[ay (dD hc)]at h;have d:Lib.indexByte t 10 = -1:=by
   by_cases q:Lib.indexByte t 10 = -1;exact q;rw[ay (dD q)]at h;have:∀l:List UInt8,-1<=Lib.indexByte l 10:=λl=>by
    induction l with
    |nil=>simp[Lib.indexByte]
    |cons a b e=>
     unfold Lib.indexByte;split;omega;split<;>omega
   have:=this t;omega
  rw[GD t d]
def GE:∀l,Lib.indexByte l 10≠-1->0<=Lib.indexByte l 10/\(Lib.indexByte l 10).toNat<l.length/\kS l=l.take (Lib.indexByte l 10).toNat::kS (l.drop ((Lib.indexByte l 10).toNat+1))
 | [],h=>by simp[Lib.indexByte]at h
 |c::t,h=>by
  by_cases hc:c=10;subst hc;have e:Lib.indexByte (10::t) 10=0:=by simp[Lib.indexByte]
  rw[e];refine⟨ak,aY,?_⟩;simp[kS]
  .have e:Lib.indexByte (c::t) 10=if Lib.indexByte t 10 == -1 then -1 else Lib.indexByte t 10+1:=by
    rw[Lib.indexByte,ay (dD hc)]
   by_cases q:Lib.indexByte t 10 = -1;rw[e,aH (dD q)]at h;exact absurd rfl h
   .rw[ay (dD q)]at e;obtain⟨d,f,a⟩:=GE t q;rw[e];have b:(Lib.indexByte t 10+1).toNat=(Lib.indexByte t 10).toNat+1:=ak;rw[b];refine⟨ak,fS,?_⟩;rw[List.take_succ_cons,List.drop_succ_cons];conv=>lhs;unfold kS
    rw[ay hc,a]
def dA(s:ByteArray):List ByteArray:=(kS s.data.toList).map λl=>⟨l.toArray⟩
def Sx{a b:DS}(h:a.data.toList=b.data.toList):a=b:=ul h
def JT(h:Lib.indexByte s.data.toList 10 = -1):dA s=[s]:=by
 unfold dA;rw[GD _ h];simp
def JV(h:Lib.indexByte s.data.toList 10≠-1):∃i:Nat,Lib.indexByte s.data.toList 10=i/\i<s.size/\dA s=s.extract 0 i::dA (s.extract (i+1) s.size):=by
 obtain⟨c,a,b⟩:=GE _ h;refine⟨(Lib.indexByte s.data.toList 10).toNat,ak,by rw[dw]at a;exact a,?_⟩;generalize (Lib.indexByte s.data.toList 10).toNat=i at *;unfold dA;rw[b,bT];congr 1;apply Sx;simp;have:(s.extract (i+1) s.size).data.toList=s.data.toList.drop (i+1):=by
  rw[W8,xX,List.extract_eq_take_drop];exact jC (by rw[cN,dw];exact aj _)
 rw[this]
def Lr:∀l,((kS l).map λx=>x.length+1).sum=l.length+1
 | []=>rfl
 |c::t=>by
  have h:=Lr t;unfold kS;split;simp;omega;cases ht:kS t with
  |nil=>exact absurd ht (Lp t)
  |cons x r=>
   rw[ht]at h;simp at h⊢;omega
def wK(s:DS):((dA s).map λx=>x.size+1).sum=s.size+1:=by
 have h:=Lr s.data.toList;rw[dw]at h;unfold dA;rw[kO];exact h
def WX{l:List DS}(h:x∈l):x.size+1<=(l.map λx=>x.size+1).sum:=by
 induction l with
 |nil=>cases h
 |cons y t a=>
  simp;rcases bG.1 h with rfl|q
  omega;have:=a q;omega
def JU(h:x∈dA s):x.size<=s.size:=by
 have a:=WX h;rw[wK]at a;omega
def OS(s:DS):(dA s).length<=s.size+1:=by
 rw[<-wK];generalize dA s=l;induction l with
 |nil=>exact aj _
 |cons x t a=>simp;omega
def CK(p:Nat)(w:World):Nat:=match w.cell? ⟨p,0,none⟩ with
 |some (.string s)=>s.size
 |_=>0
attribute [local go_sem] Oper.semAt_some
def TG(l pS pE pV:Nat)(text:DS)(J:DS->List DS->Ba->Prop)(hl:text.size<=1000000)(hY:∀rest pre x W,J rest pre W->pre++[x] <+: dA text->YieldAt Fence.wide 3 prog l #[.string x] W λe W'=>e=.returned (.bool true)/\J rest (pre++[x]) W')(hset:∀rest rest' pre W,J rest pre W->J rest' pre (W.setCell (aA pS 0) (.string rest')))(hc:∀rest pre W,J rest pre W->cC W (aA pS 0) (.string rest)/\W.frozen? (aA pS 0)=false/\cC W (aA pE 0) (.string ⟨#[10]⟩)/\cC W (aA pV 0) (iI 0))(W:Ba)(h0:J text [] W):
  CallsIn Fence.wide 4 prog 154 #[.func (.yield l) #[] #[],.pointer (some (aA pE 0)),.pointer (some (aA pS 0)),.pointer (some (aA pV 0))] W λe W'=>(∃v,e=.returned v)/\∃rest,J rest (dA text) W':=by
 refine callsIn_of_wp func154 rfl aB ?_ rfl;simp only[ntmps154,f8,bJ,wO,Nat.reduceAdd,Nat.reduceSub,eY,eZ,fZ,fv,cS,dh];let ⟨c0,f0,c1,c2⟩:=hc _ _ _ h0
 have HY:Hid (∀rest pre x W,J rest pre W->pre++[x] <+: dA text->YieldAt Fence.wide 3 prog l #[.string x] W λe W'=>e=.returned (.bool true)/\J rest (pre++[x]) W'):=hY;have HS:Hid (∀rest rest' pre W,J rest pre W->J rest' pre (W.setCell (aA pS 0) (.string rest'))):=hset;have HC:Hid (∀rest pre W,J rest pre W->cC W (aA pS 0) (.string rest)/\W.frozen? (aA pS 0)=false/\cC W (aA pE 0) (.string ⟨#[10]⟩)/\cC W (aA pV 0) (iI 0)):=hc;have HJ0:Hid (J text [] W):=h0

 gi_wp2

 gi_loopw [] (λwr=>∃rest pre,J rest pre wr/\dA text=pre++dA rest/\rest.size<=1000000) (λwr=>CK pS wr)
 case atStart=>exact⟨text,[],HJ0.out,rfl,hl⟩
 case round=>
  let ⟨rest,pre,hJ,hlines,hsz⟩:=hrel
  let ⟨c0,f0,c1,c2⟩:=HC.out _ _ _ hJ
  have HLB:Hid (CK pS wr=rest.size):=by unfold Hid CK;rw[c0]
  have HL:Hid (dA text=pre++dA rest):=hlines;have HJ:Hid (J rest pre wr):=hJ

  have hix:=(gq (n:=3)).2 (aU rest 10 wr);by_cases hi:Lib.indexByte rest.data.toList 10 = -1
  .rw[hi]at hix;have HLN:Hid (dA rest=[rest]):=JT hi;let ⟨fn,tmps,assign,body,hy,hR⟩:=HY.out rest pre rest wr HJ.out ⟨[],by rw[HL.out,HLN.out,ei]⟩

   gi_wp2;refine⟨aB,hix.mono ?_⟩;rintro e w'⟨rfl,hw'⟩;rw[hw']

   gi_wp2;apply hR.mono;rintro e W3⟨rfl,hJ3⟩;have HE:Hid (∃rest,J rest (dA text) W3):=⟨rest,by rw[HL.out,HLN.out];exact hJ3⟩

   gi_wp2;go_end0;exact⟨⟨_,rfl⟩,HE.out⟩
  .let ⟨i,hii,his,hln⟩:=JV hi
   rw[hii]at hix;let ⟨fn,tmps,assign,body,hy,hR⟩:=HY.out rest pre (rest.extract 0 i) wr HJ.out ⟨dA (rest.extract (i+1) rest.size),by rw[HL.out,hln,bP];rfl⟩
   have HLN:Hid (dA rest=rest.extract 0 i::dA (rest.extract (i+1) rest.size)):=hln;have hneg:¬(i:Int)<0:=ak;have hw0:IntKind.i64.wrap ((i:Int)+0)=i:=TP ak ak;have hw1:IntKind.i64.wrap ((i:Int)+1)=(i:Int)+1:=TP ak ak

   gi_wp2;refine⟨aB,hix.mono ?_⟩;rintro e w'⟨rfl,hw'⟩;rw[hw']

   gi_wp2;apply hR.mono;rintro e W3⟨rfl,hJ3⟩;let ⟨d0,g0,d1,d2⟩:=HC.out _ _ _ hJ3
   have HJ4:Hid (J (rest.extract (i+1) rest.size) (pre++[rest.extract 0 i]) (W3.setCell (aA pS 0) (.string (rest.extract (i+1) rest.size)))):=HS.out _ _ _ _ hJ3;have HLB4:Hid (CK pS (W3.setCell (aA pS 0) (.string (rest.extract (i+1) rest.size)))<rest.size/\(rest.extract (i+1) rest.size).size<=1000000):=by
    have e:CK pS (W3.setCell (aA pS 0) (.string (rest.extract (i+1) rest.size)))=(rest.extract (i+1) rest.size).size:=by
     unfold CK;rw[az _ _ _ d0]
    unfold Hid;rw[e,W9];omega

   gi_wp2;go_roundw
   case rel=>exact⟨_,_,HJ4.out,by rw[HL.out,HLN.out,bP];rfl,HLB4.out.2⟩
   case measure=>have:=HLB4.out.1;rw[HLB.out];exact this
end Wld
end
namespace Wld
variable{rest t x:DS}{f:Int->lQ}{ws:List DS}{out:List UInt8}{B N d m pd b pS pE pV C C' k n T:Nat}{A:Wa}{s s' w:Wd}{w0 W W' w':Ba}{r:lQ}
def el(w:Wd):Nat:=w.bO.length
def SK(w:Wd)(t:Int)(m:M):el (w.af t m)=el w:=by unfold Wd.af;split<;>rfl
def Ea{t:Int}:∀(l:List M) (w:Wd),el (w.O t l)=el w
 | [],_=>rfl
 |m::l,w=>(Ea (t:=t) l (w.af t m)).trans (SK w t m)
def GR:∀(l:List M) (w:Wd),el (w.I l)=el w
 | [],_=>rfl
 |m::l,w=>(GR l (w.af (bK m.c:Nat) m)).trans (SK w _ m)
def Ox:el w.ae=el w:=by
 unfold Wd.ae;split;rfl;split<;>rfl
def CC{r:Sv×List M}:el (w.av r)=el w:=(Ox).trans (GR r.2 _)
def D9:el (w.V k)=el w:=by
 unfold Wd.V;split;rfl;exact List.length_modify _ _ _
def SG(w:Wd)(k:Nat):el (w.b5 k)=el w:=Ea _ _
def GN:el (w.aw k)=el w:=SG {w with cm:=w.cm+1} k
def Wz{t:Int}{m:M}:el (w.b1 t m)=el w:=by
 unfold Wd.b1;split;unfold Wd.H;split;rfl;exact CC;split;exact(D9).trans (Ea _ _);rfl
def Ak(w:Wd)(k:Nat):el (w.j k)=el w:=by
 unfold Wd.j;split;rfl;exact Wz
def SM:el (w.ao k)=el w:=by
 unfold Wd.ao;split;rfl;split<;>rfl
def GO{c:K}:el (w.al k c)=el w+1:=by
 have h:el (w.ai k c)=el w+1:=by simp[el,Wd.ai]
 unfold Wd.al Wd.b6;split;exact(D9).trans h;exact(SG _ _).trans ((D9).trans h)
def Lx{b:Int}{f:Nat->Int}:el (w.aq b f)=el w:=by
 unfold Wd.aq Wd.a3;split;rfl;exact CC
def JF(w:Wd)(x t:Int):el (w.ab x t)=el w:=by unfold Wd.ab;split<;>rfl
def Ao(w:Wd):el w.e=el w:=by unfold Wd.e;split<;>rfl
def Am:∀(f:Nat) (w:Wd),el (w.a2 f)=el w
 |0,_=>rfl
 |f+1,w=>by
  unfold Wd.a2;split;rfl;exact(Am f _).trans (Ak w 0)
def GP(w:Wd):∀k,el (w.ap k)=el w
 |0=>rfl
 |k+1=>(Am _ _).trans ((GN).trans (GP w k))
def SH:el w.b2=el w:=(Am _ _).trans ((Lx).trans ((GP _ _).trans (Ao w)))
def Lv(w:Wd):∀r,el (w.a4 r)=el w
 |0=>rfl
 |r+1=>(SH).trans (Lv w r)
def uj(s:Wd)(r:lQ):Prop:=el r.2<=el s+1
def uj.e{x:DS ⊕ Nat}:uj s (x,s):=cL _
def uj.j(h:uj s r):uj s (qB ws s r):=by
 unfold Wld.qB;split;exact h;exact uj.e
def uj.h(h:∀a,uj s (f a)):uj s (kT ws s f):=by
 unfold Wld.kT;split;exact h _;exact uj.e
def uj.H{f:Int->Int->lQ}(h:∀a b,uj s (f a b)):uj s (pR ws s f):=by
 unfold Wld.pR;split;exact h _ _;exact uj.e
def uj.O{f:Int->Int->Int->Int->lQ}(h:∀a b c d,uj s (f a b c d)):uj s (Bm ws s f):=by
 unfold Wld.Bm;split;exact h _ _ _ _;exact uj.e
def uj.I{e:Int}(h:el s'=el s):uj s (sG e t s'):=by show el s'<=_;omega
def Ow(s:Wd)(k:Int):el (s.bl k)=el s:=by
 unfold Wd.bl;split;exact GN;rfl
def JG(s:Wd)(k:Int):el (s.bc k)=el s:=by unfold Wd.bc;split<;>rfl
def GQ(s:Wd)(k:Int):el (s.a6 k)=el s:=by
 unfold Wd.a6;split;exact Ak _ _;rfl
def SJ(s:Wd)(k:Int):el (s.b4 k)=el s:=by unfold Wd.b4;split<;>rfl
def Oy(s:Wd)(k:Int):el (s.bu k)=el s:=by
 unfold Wd.bu;split;exact SM;rfl
def SI(s:Wd){l:List Int}:el (s.bd l)=el s:=by
 unfold Wd.bd;split;exact Lx;rfl
def SL(s:Wd)(k o:Int):el (s.bf k o)<=el s+1:=by
 unfold Wd.bf;split;split;exact eL (GO);exact cL _;exact cL _
def Oz(s:Wd)(k o:Int){d:DS}:el (s.a7 k o d)<=el s+1:=by
 unfold Wd.a7;split;split;exact eL (GO);exact cL _;exact cL _
def Wx{f:Nat}(h:iN db x=some f):uj s (kI f ws s):=by
 have d:=rF h;simp only[db,bT,fJ,bG,gD,yv]at d;rcases d with rfl|rfl|rfl|rfl|rfl|rfl|rfl|rfl|rfl|rfl|rfl|rfl|rfl|rfl|rfl|rfl|rfl|rfl|rfl
 show uj s _;exact uj.h λa=>uj.I (Ow s a);show uj s _;refine uj.O λa b c k=>?_;split;exact iu _;exact uj.e;show uj s _;exact uj.j uj.e;show uj s _;refine uj.h λa=>?_;split;exact uj.e;exact aO (eL (Lv s a.toNat)) (cL _);show uj s _;exact uj.j (cL _);show uj s _;exact uj.h λa=>uj.I (GQ s a);show uj s _;exact uj.H λa b=>aO (eL (JF s a b)) (cL _);show uj s (sU ws s);unfold sU;split;exact uj.I (SI s);exact uj.e;show uj s _;exact uj.j uj.e;show uj s _;exact uj.h λa=>uj.I (SJ s a);show uj s _;exact uj.j uj.e;show uj s _;exact uj.H λa b=>SL s a b;show uj s _;exact uj.h λa=>uj.I (JG s a);show uj s _;exact uj.j (aO (eL (Ao s)) (cL _));show uj s _;refine uj.H λa b=>?_;split<;>exact uj.e;show uj s _;exact uj.h λa=>uj.I (Oy s a);show uj s _;exact uj.j uj.e;show uj s ((kT ws s λo=>kN s o));refine uj.h λa=>?_;unfold kN;split;exact uj.e;split<;>exact uj.e;show uj s (lq ws s);unfold lq;split;exact uj.H λa b=>Oz s a b;exact uj.e
def WJ(a:DS)(s:Wd):el (lK a s).2<=el s+1:=by
 unfold lK;cases iG a with
 |nil=>exact cL _
 |cons x ws=>
  dsimp only;cases hf:iN db x with
  |none=>exact cL _
  |some f=>exact Wx hf
def uf(K:Nat)(r:lQ):Prop:=∀t,r.1=.inl t->t.size<=K
def uf.e{K:Nat}:uf K (.inr n,s):=λt e=>by cases e
def uf.h{K:Nat}(h:t.size<=K):uf K (.inl t,s):=λu e=>by injection e with e;rw[<-e];exact h
def uf.j{K:Nat}{e:Int}(h:t.size<=K):uf K (sG e t s):=λu q=>by
 unfold Wld.sG at q;by_cases h0:e=0;simp only[aH h0]at q;injection q with q
 rw[<-q];exact h;simp only[ay h0]at q;cases q
def uf.I{K:Nat}(h:uf K r):uf K (qB ws s r):=by
 unfold Wld.qB;split;exact h;exact uf.e
def uf.H{K:Nat}(h:∀a,uf K (f a)):uf K (kT ws s f):=by
 unfold Wld.kT;split;exact h _;exact uf.e
def uf.O{K:Nat}{f:Int->Int->lQ}(h:∀a b,uf K (f a b)):uf K (pR ws s f):=by
 unfold Wld.pR;split;exact h _ _;exact uf.e
def uf.V{K:Nat}{f:Int->Int->Int->Int->lQ}(h:∀a b c d,uf K (f a b c d)):uf K (Bm ws s f):=by
 unfold Wld.Bm;split;exact h _ _ _ _;exact uf.e
def WH{l:List Ev}(h:∀e∈l,Jt e):(Lib.join (l.map λe=>(nD e).data.toList) [44,32]).length<=510*l.length:=by
 cases l with
 |nil=>exact iu _
 |cons e t=>
  rw[bT,Lib.join_length];have c:=Ed 500 ((nD e).data.toList::t.map λe=>(nD e).data.toList) (λx b=>by
   rw[<-bT (f:=λe=>(nD e).data.toList)]at b;obtain⟨d,a,rfl⟩:=ed.1 b;exact GU (h d a))
  simp at c⊢;omega
def Wy{f:Nat}(h:iN db x=some f)(ws:List DS)(l:Bk s C):uf (1000+510*el s) (kI f ws s):=by
 have d:=rF h;simp only[db,bT,fJ,bG,gD,yv]at d;rcases d with rfl|rfl|rfl|rfl|rfl|rfl|rfl|rfl|rfl|rfl|rfl|rfl|rfl|rfl|rfl|rfl|rfl|rfl|rfl
 show uf _ _;exact uf.H λa=>uf.j (by show 5<=_;omega);show uf _ _;refine uf.V λa b c k=>?_;split;exact uf.h (by show 5<=_;omega);exact uf.e;show uf _ _;refine uf.I (uf.h ?_);have m:=WH l.2.j;have g:(Lib.join (s.bO.map λe=>(nD e).data.toList) [44,32]).toArray.size=(Lib.join (s.bO.map λe=>(nD e).data.toList) [44,32]).length:=f8;show (Lib.join (s.bO.map λe=>(nD e).data.toList) [44,32]).toArray.size<=_;rw[g];unfold el;omega;show uf _ _;refine uf.H λa=>?_;split;exact uf.e;exact uf.h (by show 4<=_;omega);show uf _ _;exact uf.I (uf.h (by show 5<=_;omega));show uf _ _;exact uf.H λa=>uf.j (by show 7<=_;omega);show uf _ _;exact uf.O λa b=>uf.h (by show 5<=_;omega);show uf (1000+510*el s) (sU ws s);unfold sU;split;exact uf.j (by show 4<=_;omega);exact uf.e;show uf _ _;exact uf.I (uf.h (aO (by decide:Lz.size<=1000) ak));show uf _ _;exact uf.H λa=>uf.j (by show 4<=_;omega);show uf _ _;refine uf.I (uf.h ?_);have m:=l.1.j;have g:=iU (y:=s.dP.length) ⟨ak,ak⟩;omega;show uf _ _;exact uf.O λa b=>uf.j (by show 4<=_;omega);show uf _ _;exact uf.H λa=>uf.j (by show 6<=_;omega);show uf _ _;refine uf.I ?_;split;exact uf.e;exact uf.h (by show 7<=_;omega);show uf _ _;refine uf.O λa b=>?_;split;rename_i q;have g:=iU (CN q);exact uf.h ak;exact uf.e;show uf _ _;exact uf.H λa=>uf.j (by show 5<=_;omega);show uf _ _;refine uf.I (uf.h ?_);cases s.sv.isSome;exact aO (by decide:(⟨(Lib.formatBool false).toArray⟩:DS).size<=1000) ak;exact aO (by decide:(⟨(Lib.formatBool true).toArray⟩:DS).size<=1000) ak;show uf _ ((kT ws s λo=>kN s o));refine uf.H λa=>?_;unfold kN;split;exact uf.e;rename_i v n;split;obtain⟨i,_⟩:=l.1.J v n;have g:=i.Ey a.toNat;have p:=i.Cs a.toNat;have r:=i.D1;have t:=xE (i.N9 a.toNat) (v:=v.vv a.toNat) ⟨ak,ak⟩;exact uf.h ak;exact uf.e;show uf (1000+510*el s) (lq ws s);unfold lq;split;exact uf.O λa b=>uf.j (by show 5<=_;omega);exact uf.e
def wH(h:n<100):(jO n).size<=1000:=by
 unfold jO;rw[fy];have a:=Lib.itoa_length_le (n:Int) ak ak;rw[Lib.itoa_nonneg]at a;have b:(⟨(Lib.decDigits n).toArray⟩:DS).size=(Lib.decDigits n).length:=f8;have c:(⟨#[101,114,114,111,114,32]⟩:DS).size=6:=rfl;omega
def WK(a:DS)(b:Bk s C):(nE a s).size<=1000+510*el s:=by
 unfold nE lK;cases iG a with
 |nil=>show 2<=_;omega
 |cons x ws=>
  dsimp only;cases hf:iN db x with
  |none=>exact aO (wH ak) ak
  |some f=>
   dsimp only;cases hr:(kI f ws s).1 with
   |inl t=>exact(Wy hf ws b) t hr
   |inr n=>exact aO (wH ((Ls hf ws s) n hr)) ak
def oN:List ByteArray->Wd->Wd
 | [],s=>s
 |x::t,s=>oN t (lK x s).2
def jy:List ByteArray->Wd->List UInt8
 | [],_=>[]
 |x::t,s=>(nE x s).data.toList++10::jy t (lK x s).2
def jz:List ByteArray->Nat
 | []=>0
 |x::t=>oJ x+jz t
def Hh(x:DS):∀(l:List DS) (s:Wd),oN (l++[x]) s=(lK x (oN l s)).2
 | [],_=>rfl
 |y::t,s=>Hh x t (lK y s).2
def AE(x:DS):∀(l:List DS) (s:Wd),jy (l++[x]) s=jy l s++(nE x (oN l s)).data.toList++[10]
 | [],s=>by simp[jy,oN]
 |y::t,s=>by
  show (nE y s).data.toList++10::jy (t++[x]) (lK y s).2=_;rw[AE x t];simp[jy,oN]
def tY(x:DS):∀(l:List DS),jz (l++[x])=jz l+oJ x
 | []=>by simp[jz]
 |y::t=>by
  show oJ y+jz (t++[x])=_;rw[tY x t];simp only[jz];omega
def TA:∀(l:List DS) (s:Wd),el (oN l s)<=el s+l.length
 | [],_=>aj _
 |y::t,s=>by
  have a:=TA t (lK y s).2;have b:=WJ y s;simp only[oN,bJ];omega
def bF.a2{w:Ba}(h:bF w A s)(f:wfoot w A s k):k<w.heap.size:=by
 rcases f with f|f|⟨v,c,d⟩|⟨i,e,f⟩|⟨i,e,f⟩|⟨c,d⟩
 rw[f];exact h.I;rw[f];exact h.u.H;let ⟨l,a,g⟩:=h.x
 rw[c]at a;injection a with a
 subst a;exact(bj g k d).2;rw[f];exact(h.o i e).ac.H;rw[f];exact(h.o i e).p.elim λ_ q=>World.ownsMap.lt q.1;let ⟨v,j⟩:=aP.1 c
 exact(h.t v j).b.H d
def Ds.V{M:Dv}{w:Ba}(h:Ds B N d M w A s C)(c:Below N w w')(o:∀y,N<=y->y<w.heap.size->¬Cr w y->w'.heap[y]?=w.heap[y]?):Ds B N d M w' A s C:=by
 have f:∀y,y<N->w'.heap[y]?=w.heap[y]?:=λy g=>c.block y g;obtain⟨x,y⟩:=h.b.b.ac (w':=w') c.size (λy g=>by
  rcases g with q|q
  exact o y (h.t y q) (h.b.b.a2 q) (h.b.b.ae q);rcases bX y N with k|k
  exact f y k;exact o y k q.H (q.h rfl))
 have e:∀j,w'.cell? (aA d j)=w.cell? (aA d j):=λj=>aa (a:=(aA d j)) (f d h.o);exact⟨⟨h.b.e.e (f d h.o),(e 0).trans h.b.h,(e 1).trans h.b.i,x⟩,λj=>(aG (a:=(aA d j)) (f d h.o)).trans (h.x j),λk l=>h.t k (y k l),h.j.e (c.mono (Pz h.u h.o)),h.u,h.o,aO h.p c.size,h.h,h.y⟩
structure Jb(w0:World)(B N d m pd b pS pE pV:Nat)(rest:ByteArray)(s:Wd)(C:Nat)(out:List UInt8)(W:World):Prop where
 i:∃A,Ds B N d (.map (some m)) W A s C
 I:gE W m d
 o:m<N
 w:m≠d
 h:w0.heap.size<=d
 F:FF w0 W
 e:Lib.IsBuilderF 97 5 N b (Lib.byteCells out) W
 t:W.heap[pd]?=some (.cells #[tp d] 93 (0,0))
 j:W.heap[pS]?=some (.cells #[.string rest] 9 (0,0))
 u:W.heap[pE]?=some (.cells #[.string ⟨#[10]⟩] 9 (0,0))
 p:W.heap[pV]?=some (.cells #[.int .i64 0] 3 (0,0))
 y:pS≠pE
 V:N<=pd
 x:N<=pS
 J:N<=pE
 O:N<=pV
def pM{e:Nat}{bs:List Dv}{w:Ba}(h:Lib.IsBuilderF T e B b bs w)(l:w'.heap[b]?=w.heap[b]?)(m:∀(g:Nat) (c:Array Dv) (f:Nat×Nat),w.heap[g]?=some (.cells c e f)->w'.heap[g]?=w.heap[g]?):Lib.IsBuilderF T e B b bs w':=by
 have k:∀p,Lib.BuilderAtF T e B b p bs w->Lib.BuilderAtF T e B b p bs w':=λp q=>by
  obtain⟨n,v,o,⟨r,a⟩,s⟩:=q;refine⟨n,v,l.trans o,⟨r,?_⟩,s⟩;rcases a with a|⟨g,d,i,fz,t,u,j,rest⟩
  exact .inl a;exact .inr ⟨g,d,i,fz,t,u,(m _ _ _ j).trans j,rest⟩
 exact h.elim (λq=>.inl (k _ q)) (λq=>.inr (k _ q))
def ii{e:Nat}{bs:List Dv}{w:Ba}(h:Lib.IsBuilderF T e B b bs w)(d:WS T=false):Cr w b/\B<=b/\∃c f,w.heap[b]?=some (.cells c T f):=by
 have k:∀p,Lib.BuilderAtF T e B b p bs w->Cr w b/\B<=b/\∃c f,w.heap[b]?=some (.cells c T f):=λp q=>by
  obtain⟨g,v,a,_⟩:=q;exact⟨⟨_,a,by simp[J3,d]⟩,g,_,_,a⟩
 exact h.elim (λq=>k _ q) (λq=>k _ q)
def Jb.ab(h:Jb w0 B N d m pd b pS pE pV rest s C out W)(a:∃A,Ds B N d (.map (some m)) W' A s' C')(l:gE W' m d)(z:Dz N d W W'):Jb w0 B N d m pd b pS pE pV rest s' C' out W':=by
 have k:∀{p:Nat} {o:Obj},W.heap[p]?=some o->J3 o=true->W'.heap[p]?=some o:=λ{p o} e n=>(z.b p ⟨o,e,n⟩).trans e;refine⟨a,l,h.o,h.w,h.h,h.F.trans (z.O (by obtain⟨A,x⟩:=h.i;have:=x.o;have:=h.h;omega) h.h),pM h.e (z.b b (ii h.e rfl).1) (λg c f e=>z.b g ⟨_,e,rfl⟩),k h.t rfl,k h.j rfl,k h.u rfl,k h.p rfl,h.y,h.V,h.x,h.J,h.O⟩
def Jb.H{a:List UInt8}(h:Jb w0 B N d m pd b pS pE pV rest s C out W)(l:Lib.IsBuilderF 97 5 N b (Lib.byteCells a) W')(n:Below N W W')(z:Lib.OthersKept 5 (some b) W W'):Jb w0 B N d m pd b pS pE pV rest s C a W':=by
 let ⟨D,M,cb,P,E⟩:=ii h.e rfl
 have k:∀{p:Nat} {o:Obj},W.heap[p]?=some o->p≠b->(∀c fz,o≠.cells c 5 fz)->W'.heap[p]?=some o:=λ{p o} e G K=>z p o e (by intro q;injection q with q;exact G q) K;have nb:∀{p:Nat} {c:Array Dv} {t:DU} {f:Nat×Nat},W.heap[p]?=some (.cells c t f)->t≠97->p≠b:=λ{p c t f} e L q=>by
  subst q;rw[E]at e;injection e with e
  injection e with _ e _
  exact L e.symm
 have r:∃A,Ds B N d (.map (some m)) W' A s C:=by
  let ⟨A,x⟩:=h.i
  refine⟨A,x.V n λy Q v g=>?_⟩;let ⟨o,e⟩:∃o,W.heap[y]?=some o:=⟨_,aW v⟩
  rw[e];refine k e (λq=>g (q▸D)) (λc fz q=>g ⟨o,e,q▸rfl⟩)
 refine⟨r,(n.block m h.o).trans h.I,h.o,h.w,h.h,h.F.trans (n.mono (by let ⟨A,x⟩:=h.i;have:=x.o;have:=h.h;omega)),l,k h.t (nb h.t cn) (by rintro c fz q;cases q),k h.j (nb h.j cn) (by rintro c fz q;cases q),k h.u (nb h.u cn) (by rintro c fz q;cases q),k h.p (nb h.p cn) (by rintro c fz q;cases q),h.y,h.V,h.x,h.J,h.O⟩
def Jb.ac(h:Jb w0 B N d m pd b pS pE pV rest s C out W){p:Nat}{o:Obj}(z:W.heap[p]?=some o)(hc:∀c t f,o≠.cells c t f)(D:J3 o=true)(H:N<=p){a:Obj}:Jb w0 B N d m pd b pS pE pV rest s C out (W.putObj p a):=by
 have k:∀y,y≠p->(W.putObj p a).heap[y]?=W.heap[y]?:=λy l=>World.putObj_heap_other l;have ne:∀{y:Nat} {c:Array Dv} {t:DU} {f:Nat×Nat},W.heap[y]?=some (.cells c t f)->y≠p:=λ{y c t f} e q=>by
  subst q;rw[z]at e;injection e with e
  exact hc _ _ _ e
 have n:Below N W (W.putObj p a):=⟨rfl,rfl,rfl,aY,λy l=>k y ak⟩;let ⟨K,L,cb,M,E⟩:=ii h.e rfl
 have r:∃A,Ds B N d (.map (some m)) (W.putObj p a) A s C:=by
  let ⟨A,x⟩:=h.i
  exact⟨A,x.V n λy l G v=>k y (by rintro rfl;exact v ⟨o,z,D⟩)⟩
 exact⟨r,(n.block m h.o).trans h.I,h.o,h.w,h.h,h.F.trans (n.mono (by let ⟨A,x⟩:=h.i;have:=x.o;have:=h.h;omega)),pM h.e (k b (ne E)) (λg c f e=>k g (ne e)),(k _ (ne h.t)).trans h.t,(k _ (ne h.j)).trans h.j,(k _ (ne h.u)).trans h.u,(k _ (ne h.p)).trans h.p,h.y,h.V,h.x,h.J,h.O⟩
def Jb.ae(h:Jb w0 B N d m pd b pS pE pV rest s C out W)(a:DS):Jb w0 B N d m pd b pS pE pV a s C out (W.setCell (aA pS 0) (.string a)):=by
 have k:∀y,y≠pS->(W.setCell (aA pS 0) (.string a)).heap[y]?=W.heap[y]?:=λy v=>aQ W (aA pS 0) _ y v;have ne:∀{y:Nat} {c:Array Dv} {t:DU} {f:Nat×Nat},W.heap[y]?=some (.cells c t f)->t≠9->y≠pS:=λ{y c t f} e z q=>by
  subst q;rw[h.j]at e;injection e with e
  injection e with _ e _
  exact z e.symm
 have l:Below N W (W.setCell (aA pS 0) (.string a)):=(au _ _).setCell (p:=(aA pS 0)) h.x _;let ⟨G,H,cb,K,D⟩:=ii h.e rfl
 have n:∃A,Ds B N d (.map (some m)) (W.setCell (aA pS 0) (.string a)) A s C:=by
  let ⟨A,x⟩:=h.i
  exact⟨A,x.V l λy v E r=>k y (by rintro rfl;exact r ⟨_,h.j,rfl⟩)⟩
 exact⟨n,(l.block m h.o).trans h.I,h.o,h.w,h.h,h.F.trans (l.mono (by let ⟨A,x⟩:=h.i;have:=x.o;have:=h.h;omega)),pM h.e (k b (ne D cn)) (λg c f e=>k g (ne e cn)),(k _ (ne h.t cn)).trans h.t,by
  have:=heap_setCell_same W pS 0 #[.string rest] 9 (.string a) h.j;exact this,(k _ (eX h.y)).trans h.u,(k _ (ne h.p cn)).trans h.p,h.y,h.V,h.x,h.J,h.O⟩
def Kk{g:Operand}{ps:Array Tmp}{assign body:Code}{Q:Exit->Act->Ba->Prop}{a:Act}{W0:Ba}{tt:DS}(hg:a.eval g=.func (.func 154) #[] #[.pointer (some ⟨pE,0,none⟩),.pointer (some ⟨pS,0,none⟩),.pointer (some ⟨pV,0,none⟩)])(hps:ps.size=1)(hl:tt.size<=1000000)(I:DS->List DS->Ba->Prop)(h0:∀r,I tt [] ((W0.alloc (.deferred (some []))).alloc (.loop r)))(hoff:∀rest pre W r r',I rest pre W->W.heap[W0.heap.size+1]?=some (.loop r)->I rest pre (W.putObj (W0.heap.size+1) (.loop r')))(hset:∀rest rest' pre W,I rest pre W->I rest' pre (W.setCell ⟨pS,0,none⟩ (.string rest')))(hc:∀rest pre W,I rest pre W->W.cell? ⟨pS,0,none⟩=some (.string rest)/\W.frozen? ⟨pS,0,none⟩=false/\W.cell? ⟨pE,0,none⟩=some (.string ⟨#[10]⟩)/\W.cell? ⟨pV,0,none⟩=some (.int .i64 0))(a1:DS->Act)(hassign:∀(x:DS) (W:Ba) (K:Act->Ba->Prop),K (a1 x) W->assign.wpIn (Fence.wide.inRound (W0.heap.size+1)) 3 prog (Exit.then K (λ_ _ _=>False)) {tmps:=(ps.zip #[.string x]).foldl (λt (p,v)=>t.setIfInBounds p v) a.tmps,defers:=[]} W)(hbody:∀rest pre x W,I rest pre W->pre++[x] <+: dA tt->(∃r,W.heap[W0.heap.size+1]?=some (.loop r))->W.heap[W0.heap.size]?=some (.deferred (some [])) ->
   body.wpIn (Fence.wide.inRound (W0.heap.size+1)) 3 prog (λe _ W'=>e=.normal/\I rest (pre++[x]) W'/\W'.heap[W0.heap.size+1]?=W.heap[W0.heap.size+1]?/\W'.heap[W0.heap.size]?=W.heap[W0.heap.size]?) (a1 x) W)(hdone:∀rest W,I rest (dA tt) W->W.heap[W0.heap.size]?=some (.deferred (some []))->Q .normal {a with defers:={target:=.collected W0.heap.size,args:=#[]} :: a.defers} W):
  (Code.rangeFunc g ps assign body).wpIn Fence.wide 5 prog Q a W0:=by
 apply wpIn_rangeFunc;intro fn hfn;show ∃(l:Nat) (mark:List Deferred) (w₁:Ba) (d:Deferred) (w₁':Ba) (f:FuncId) (args:Array Dv) (w₂:Ba),(Instr.enterLoop fn a.tmps ps assign body none).run prog W0=.ok (l,mark) w₁/\_;let ⟨rec,hrec⟩:∃rec:LoopState->Option Code->Loop,rec=λst pe=>{state:=st,pending:=pe,fn,tmps:=a.tmps,params:=ps,assign,body,defers:=W0.heap.size}:=⟨_,rfl⟩
 let ⟨W1,hW1⟩:∃W1,(W0.alloc (.deferred (some []))).alloc (.loop (rec .ready none))=W1:=⟨_,rfl⟩
 have hL1:W1.heap[W0.heap.size+1]?=some (.loop (rec .ready none)):=by
  rw[<-hW1];have:=World.alloc_heap_new (W0.alloc (.deferred (some []))) (.loop (rec .ready none));rwa [World.size_alloc]at this
 have hK1:W1.heap[W0.heap.size]?=some (.deferred (some [])):=by
  rw[<-hW1];exact(ff _ _ _ aY).trans (World.alloc_heap_new W0 _)
 have hI1:I tt [] W1:=by rw[<-hW1];exact h0 _
 refine⟨W0.heap.size+1,[{target:=.collected W0.heap.size,args:=#[]}],W1,{target:=.fn (.func 154) #[.pointer (some (aA pE 0)),.pointer (some (aA pS 0)),.pointer (some (aA pV 0))],args:=#[.func (.yield (W0.heap.size+1)) #[] #[]]},W1,154,
  #[.func (.yield (W0.heap.size+1)) #[] #[],.pointer (some (aA pE 0)),.pointer (some (aA pS 0)),.pointer (some (aA pV 0))],W1,?_,?_,?_,?_,λ_=>ak,?_⟩
 rw[<-hW1,hrec];exact run_enterLoop_outer _ _ _ _ _
 .simp only[resolve,hg];simp[go_sem]
 intro f' hf';trivial
 .simp[invoke,go_sem]
 refine(TG _ pS pE pV tt (λrest pre W=>I rest pre W/\W.heap[W0.heap.size+1]?=some _/\W.heap[W0.heap.size]?=some _) hl ?_ ?_ (λrest pre W hW=>hc rest pre W hW.1) W1 ⟨hI1,hL1,hK1⟩).mono ?_;rintro rest pre x W⟨hi,hl2,hk⟩ hpre;have hlt:= (ar.1 hl2).1;have hy:=run_yield (P:=prog) (args:=#[.string x]) hl2 (hrec▸hps.symm);rw[hrec]at hy;refine⟨fn,_,assign,body,hy,roundIn_of_wpIn hfn (hassign x W _ ?_)⟩;refine⟨_,run_beginRound hl2 (by rw[hrec]),?_⟩;have hl3:(W.putObj _ (.loop {rec .ready none with state:=.busy})).heap[W0.heap.size+1]?=some (.loop {rec .ready none with state:=.busy}):=World.putObj_heap_same hlt;have hk3:(W.putObj (W0.heap.size+1) (.loop {rec .ready none with state:=.busy})).heap[W0.heap.size]?=some (.deferred (some [])):=(World.putObj_heap_other ak).trans hk;apply wpIn_mono (hbody rest pre x _ (hoff _ _ _ _ _ hi hl2) hpre ⟨_,hl3⟩ hk3);rintro e a3 W3⟨rfl,hi3,e1,e2⟩;have hl4:=e1.trans hl3;have hr:=run_endRound (P:=prog) none hl4;refine⟨_,_,hr,rfl,hoff _ _ _ _ _ hi3 hl4,?_,?_⟩;rw[World.putObj_heap_same (ar.1 hl4).1,hrec];rfl;exact(World.putObj_heap_other ak).trans (e2.trans hk3);rintro rest rest' pre W⟨hi,hl2,hk⟩;have hcl:=(hc _ _ _ hi).1;have hne:∀p,(∃o,W.heap[p]?=some o/\∀c t f,o≠.cells c t f)->p≠pS:=λp hp e=>by
  let ⟨o,ho,hn⟩:=hp
  subst e;unfold World.cell? at hcl;rw[ho]at hcl;cases o<;>first|(exact hn _ _ _ rfl)|cases hcl
 exact⟨hset _ _ _ _ hi,(aQ W (aA pS 0) _ _ (hne _ ⟨_,hl2,by rintro c t f q;cases q⟩)).trans hl2,(aQ W (aA pS 0) _ _ (hne _ ⟨_,hk,by rintro c t f q;cases q⟩)).trans hk⟩;rintro e W2⟨⟨v,rfl⟩,rest,hi,hl2,hk⟩;refine⟨none,_,(by have:=run_endLoop (P:=prog) hl2 (by rw[hrec];simp);rw[hrec]at this;exact this),?_⟩;exact hdone rest _ (hoff _ _ _ _ _ hi hl2) ((World.putObj_heap_other ak).trans hk)
end Wld
end Go.Proofs.YtbebfliimjjohabGreatDoor
