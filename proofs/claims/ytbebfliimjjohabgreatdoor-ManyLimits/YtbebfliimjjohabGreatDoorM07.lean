/- Parts of the proof. -/
import Derived.Test.YtbebfliimjjohabGreatDoorM06
set_option maxRecDepth 100000
set_option maxHeartbeats 8000000
set_option linter.all false
namespace Go.Eqv
variable{es:Array Event}{mb:Bool}{d:Deferred}{fr:Frame}{x x':GStep}{g g' g1:Bm}{base cs:List Frame}{n N:Nat}{U:Pm}{α:Type}{w w' w1:A1}
section
variable{P:Bo}{κ:ju}{X:Nat->Bool}{A:Nat->Option Nat}
def MC(_:j8 P κ X A){a:Option Nat}{x:Operand}(h:Ov P κ X a x=true):okY P κ x:=by
 cases x with
 |tmp t=>trivial
 |const v=>exact h
 |global g=>simp only[Ov,bh,fv]at h;exact h.2
 |func f=>exact h
def MJ(P:Bo)(q:Question)(w:A1):(choose q).run P w=((choose q).runT P w #[]).1:=by
 show Sem.run P (.choose q .pure) w=(Sem.runT P (.choose q .pure) w #[]).1;simp only[Sem.run,Sem.runT];split<;>rfl
def CA(P:Bo)(q:Question)(w:A1):∃t w1,(choose q).runT P w #[]=(.ok t w1,#[]):=by
 show ∃t w1,Sem.runT P (.choose q .pure) w #[]=(.ok t w1,#[]);simp only[Sem.runT];split;exact⟨_,_,rfl⟩;exact⟨_,_,rfl⟩
def sc(fr:Frame)(f:Operand)(v:Bg)(t:Bi):resolve fr.eval {callee:=.value f,args:=#[.const v],argTypes:=#[]} t=Deferred.ofValue (fr.eval f) #[v]:=by
 unfold resolve;simp;rfl
def YR(w1:World):GStep->Prop
 |.go a w2 _=>(pz a\/NH a)/\(a.status=.running->a.dying=none->w1.heap.size<=w2.heap.size/\w1.drawn<=w2.drawn)
 |.ended _ _ _=>True
 |_=>False
def qq.H{fn:FuncId}(c:oJ κ X w w1 es)(d:¬Ee U w w' w1)(h:YR w1 x):qq P κ X A U base w w' (GStep.after (seen P fn es) x) x':=by
 cases x with
 |go m w2 f=>
  refine⟨h.1,λg i=>?_⟩;have a:=h.2 g i;exact⟨⟨aP c.h a.1,aP c.j a.2⟩,λq=>absurd ⟨λb k l=>q.e b k (aO l a.1),aP a.2 q.h⟩ d⟩
 |ended o w es=>trivial
 |_=>exact h.elim
def vK(κ:ju)(X:Nat->Bool)(N:Nat:=0):Pm:={f:=λb=>b,Gc:=λh=>h,zx:=κ.b,xT:=κ.h,VL:=κ.e,k:=0,X:=X,Y:=X,xy:=λ_=>rfl,wk:=false,N:=N,pn:=true}
def vX:oK P κ X (vK κ X N):=⟨⟨rfl,rfl,rfl⟩,rfl,rfl,λ_ _=>rfl⟩
def WF:uq κ X n (vK κ X N):=⟨⟨rfl,rfl,rfl⟩,rfl,λ_ _=>rfl,λ_ _ _=>rfl,λ_ _=>rfl⟩
def AD(d:Sh κ X w):ur (vK κ X N) w w:=by
 refine⟨λb o a e=>?_,λb a=>?_,λb g=>g,λi q _=>rfl,rfl⟩;rw[Sk (κ:=κ) (n:=w.heap.size) ⟨⟨rfl,rfl,rfl⟩,λ_ _=>rfl⟩ (d.h b o a e)];exact e;let ⟨_,c,t,f,j⟩:=d.x b a
 exact⟨c,t,f,j,c,t,rfl,.inl ⟨rfl,f⟩⟩
def Jy(R:j8 P κ X A)(a:Sh κ X w)(e:gN P κ X A w.heap.size fr)(hc:∀c∈cs,gN P κ X A w.heap.size c)(f:Eqv.BU fr cs){s:Sem Next}(b:∀ρ,uq κ X w.heap.size ρ->bZ P ρ (cV ρ) s s)(g:fr.oper?=none):YR w (stepG.apply P true fr cs none s w):=by
 have:=pA (U:=vK κ X) (base:=[]) R vX a (AD a) e hc f (b _ WF) (rV (dst:=none) a b) (λo d q _=>by rw[g]at q;cases q);revert this;generalize stepG.apply P true fr cs none s w=x;intro this;cases x with
 |go k w2 h=>exact⟨this.1,λi j=>(this.2 i j).1⟩
 |ended o w es=>trivial
 |_=>exact this.elim
theorem RS(R:j8 P κ X A)(T:oK P κ X U)(hw:Sh κ X w)(hR:ur U w w'){fr:Frame}{cs:List Frame}(hf:gN P κ X A w.heap.size fr)(hc:∀c∈cs,gN P κ X A w.heap.size c)(hb:Eqv.BU fr cs):
  qq P κ X A U base w w' (stepG.exec P true true fr cs none w) (stepG.exec P mb true (iW U fr) (cs.map (iW U)++base) none w'):=by
 obtain⟨fn,tmps,todo,defers,mode,kind,ro⟩:=fr
 have qt:∀k,(∀i∈k,JD P κ X w.heap.size (aF A ⟨fn,tmps,todo,defers,mode,kind,ro⟩) i)->qq P κ X A U base w w' (.go ⟨⟨fn,tmps,k,defers,mode,kind,ro⟩,cs,.running,none,none⟩ w #[]) (.go ⟨⟨fn,dI U tmps,k.map (jG U),defers.map (lN U),kh U mode,kind,ro.map U.f⟩,cs.map (iW U)++base,.running,none,none⟩ w' #[]):=λk hk=>
  qq.e hw hR (rz.mk' (aa _) (ST hf hk) hc (Eqv.BU.e (a:=⟨fn,tmps,todo,defers,mode,kind,ro⟩) (by rfl) hb)) rfl
 have cons:∀{i:Item} {k:List Item} {Q:Item->Prop},Q i->(∀j∈k,Q j)->∀j∈i::k,Q j:=λh1 h2 j hj=>by
  rcases bN.1 hj with rfl|hj
  .exact h1
  .exact h2 j hj
 have ret:∀(hn:ro=none),rz P κ X A w.heap.size ⟨⟨fn,tmps,todo,defers,.returning,kind,ro⟩,cs,.running,none,none⟩:=λ_=>
  rz.mk' (aa _) ⟨hf.u,hf.j,hf.p,hf.b,aE,hf.o,hf.h⟩ hc (Eqv.BU.e (a:=⟨fn,tmps,todo,defers,mode,kind,ro⟩) (by rfl) hb)
 cases todo with
 |nil=>
  cases ro with
  |none=>exact qq.e hw hR (ret rfl) rfl
  |some l=>
   unfold stepG.exec
   dsimp only[iW,List.map,Option.map]
   generalize hy:(Instr.endRound l none).runT P w #[]=y
   generalize hy':(Instr.endRound (U.f l) none).runT P w' #[]=y'
   obtain⟨r,es⟩:=y
   obtain⟨r',es'⟩:=y'
   dsimp only
   refine qv (mb:=mb) R T hw hR hf hc hb (hf.h l rfl) (λc h=>by cases h) hy hy' (λv w1 e=>?_) (λv w1 e=>?_) (λh w1 e=>?_)
   .subst e;rfl
   .subst e;rfl
   .subst e;trivial
 |cons i k=>
  have hk:∀j∈k,JD P κ X w.heap.size (aF A ⟨fn,tmps,i::k,defers,mode,kind,ro⟩) j:=λj hj=>hf.p j (bI _ hj)
  have hi:=hf.p i (cX ..)
  cases i with
  |code c=>
   cases c with
   |skip=>exact qt k hk
   |region id ops draw=>
    cases draw with
    |false=>exact qt (.inRegion ops (List.range ops.size)::k) (cons hi hk)
    |true=>
     unfold stepG.exec
     dsimp only[nT,List.map,jG]
     simp only[oX,eL,mj]
     rw[MJ,MJ]
     have hO:=bZ.V (P:=P) (U:=U) (q:=.order fn id) w w' #[] #[] hR zu.nil
     obtain⟨t,w1,hy⟩:=CA P (.order fn id) w
     rw[hy]at hO
     obtain⟨l,_⟩:=qC (pa:=λ_=>_root_.id) (s:=choose (.order fn id)) hw (λρ _=>bZ.V) hy
     rw[show (iW U ⟨fn,tmps,.code (.region id ops true)::k,defers,mode,kind,ro⟩).fn=fn from rfl,hy]
     have hl:=l.e (jy hy) (iH hy)
     have hff:gN P κ X A w1.heap.size ⟨fn,tmps,.inRegion ops (Region.schedule (P.follows .mixedOrders) ops t)::k,defers,mode,kind,ro⟩:=(ST hf (k:=.inRegion ops (Region.schedule (P.follows .mixedOrders) ops t)::k) (cons hi hk)).e hl.h
     refine⟨.inl ⟨rfl,rfl⟩,λ_ _=>⟨⟨hl.h,hl.j⟩,λhW=>?_⟩⟩
     rcases hO hW with⟨q,_⟩|⟨w1',es',q,he,ha⟩
     .rw[T.j]at q;cases q
     .have hes:es'=#[]:=by
       obtain⟨t2,w2,hy2⟩:=CA P (.order fn id) w'
       rw[hy2]at q;cases q;rfl
      subst hes
      rw[q]
      exact⟨rz.mk' hl.h hff hc (Eqv.BU.e (a:=⟨fn,tmps,_,defers,mode,kind,ro⟩) (by rfl) hb),hl,w1',#[],rfl,zu.nil,ha⟩
   |seq a b=>
    replace hi:(ip P κ X _ a&&ip P κ X _ b)=true:=hi
    rw[bh]at hi
    exact qt (.code a :: .code b::k) (cons hi.1 (cons hi.2 hk))
   |cond c a b=>
    replace hi:(Ov P κ X _ c&&ip P κ X _ a&&ip P κ X _ b)=true:=hi
    rw[bh,bh]at hi
    have he:=wY (U:=U) (fr:=⟨fn,tmps,.code (.cond c a b)::k,defers,mode,kind,ro⟩) T (MC R hi.1.1)
    unfold stepG.exec
    dsimp only[nT,List.map,jG]
    rw[he]
    cases q:Frame.eval ⟨fn,tmps,.code (.cond c a b)::k,defers,mode,kind,ro⟩ c with
    |bool t=>cases t with
     |true=>exact qt (.code a::k) (cons hi.1.2 hk)
     |false=>exact qt (.code b::k) (cons hi.2 hk)
    |_=>trivial
   |block id c=>exact qt (.code c :: .inBlock id::k) (cons hi (cons aE hk))
   |loop c=>exact qt (.code c :: .inLoop c::k) (cons hi (cons hi hk))
   |rangeFunc f ps a b=>
    replace hi:((aF A ⟨fn,tmps,.code (.rangeFunc f ps a b)::k,defers,mode,kind,ro⟩).isNone&&Ov P κ X (aF A ⟨fn,tmps,.code (.rangeFunc f ps a b)::k,defers,mode,kind,ro⟩) f&&κ.e a&&κ.e b)=true:=hi
    rw[bh,bh,bh]at hi
    obtain⟨⟨⟨ha0,hf0⟩,hca⟩,hcb⟩:=hi
    have hnone:aF A ⟨fn,tmps,.code (.rangeFunc f ps a b)::k,defers,mode,kind,ro⟩=none:=by simpa using ha0
    have hro:ro=none:=by
     cases ro with
     |none=>rfl
     |some l=>cases hnone
    subst hro
    have hall:=V0 hf hnone
    unfold stepG.exec
    dsimp only[nT,List.map,jG]
    have hE:=xW (P:=P) (U:=U) fn tmps ps a b none (by rw[T.h.1];exact hf.u) (by rw[T.h.2.2];exact hca) (by rw[T.h.2.2];exact hcb)
    have hN:∀ρ,uq κ X w.heap.size ρ->bZ P ρ (Ar ρ) (Instr.enterLoop fn tmps ps a b none) (Instr.enterLoop fn tmps ps a b none):=λρ hN=>by
     have:=xW (P:=P) (U:=ρ) fn tmps ps a b none (by rw[hN.i.1];exact hf.u) (by rw[hN.i.2.2];exact hca) (by rw[hN.i.2.2];exact hcb)
     rw[lX ⟨hN.i,hN.e⟩ _ hall]at this
     exact this
    have hO:=hE w w' #[] #[] hR zu.nil
    dsimp only[iW,Option.map]at hO⊢
    generalize hy:(Instr.enterLoop fn tmps ps a b none).runT P w #[]=y at hO⊢
    generalize hy':(Instr.enterLoop fn (dI U tmps) ps a b none).runT P w' #[]=y' at hO⊢
    obtain⟨r,es⟩:=y
    obtain⟨r',es'⟩:=y'
    cases r with
    |halt h w1=>
     refine uo.h (uo.e ?_)
     exact my
    |ok x w1=>
     obtain⟨l,mark⟩:=x
     obtain⟨lf,ρ,σ,hap,q⟩:=qC (pa:=λU=>Ar U) hw hN hy
     have hl:=lf.e (jy hy) (iH hy)
     have ql:=Prod.mk.inj q
     have hnum:gC κ w1.heap.size l:=lu hap ql.1
     have hmark:∀d∈mark,vI κ w1.heap.size d:=λd hd=>Gj hap (vM ql.2 d hd)
     dsimp only
     have hf2:gN P κ X A w1.heap.size ⟨fn,tmps,.inRangeFunc l::k,mark++defers,mode,kind,none⟩:=by
      have h:=hf.e hl.h
      refine⟨h.u,h.j,cons hnum (λj hj=>(hk j hj).e hl.h),λd hd=>?_,h.s,h.o,h.h⟩
      rcases bq.1 hd with hd|hd
      .exact hmark d hd
      .exact h.b d hd
     have hb2:Eqv.BU ⟨fn,tmps,.inRangeFunc l::k,mark++defers,mode,kind,none⟩ cs:=Eqv.BU.e (a:=⟨fn,tmps,.code (.rangeFunc f ps a b)::k,defers,mode,kind,none⟩) (by rfl) hb
     have hev:ix κ w1.heap.size (Frame.eval ⟨fn,tmps,.inRangeFunc l::k,mark++defers,mode,kind,none⟩ f):=vG R hl.i hf2 (x:=f) hf0
     have hcall:∀ρ:Pm,Of κ ρ->gi P ρ->rL P ρ->bZ P ρ (cV ρ) (Deferred.ofValue (Frame.eval ⟨fn,tmps,.inRangeFunc l::k,mark++defers,mode,kind,none⟩ f) #[.func (.yield l) #[] #[]] >>= λd=>invoke d.target d.args) (Deferred.ofValue (pV ρ (Frame.eval ⟨fn,tmps,.inRangeFunc l::k,mark++defers,mode,kind,none⟩ f)) (dI ρ #[.func (.yield l) #[] #[]]) >>= λd=>invoke d.target d.args):=λρ ho C E=>
      ZU C E λfn' a' b' e=>by
       rw[e]at hev
       exact CH ho hev.1
     have hN2:∀ρ,uq κ X w1.heap.size ρ->bZ P ρ (cV ρ) (Deferred.ofValue (Frame.eval ⟨fn,tmps,.inRangeFunc l::k,mark++defers,mode,kind,none⟩ f) #[.func (.yield l) #[] #[]] >>= λd=>invoke d.target d.args) (Deferred.ofValue (Frame.eval ⟨fn,tmps,.inRangeFunc l::k,mark++defers,mode,kind,none⟩ f) #[.func (.yield l) #[] #[]] >>= λd=>invoke d.target d.args):=λρ hN=>by
      obtain⟨C,E⟩:=hN.h R hl.i
      have:=hcall ρ hN.i C E
      rw[su ⟨hN.i,hN.e⟩ _ hev,show dI ρ #[.func (.yield l) #[] #[]]=#[.func (.yield (ρ.f l)) #[] #[]] from rfl,hN.e l hnum]at this
      exact this
     have hc2:∀c∈cs,gN P κ X A w1.heap.size c:=λc h=>(hc c h).e hl.h
     by_cases hWq:Ee U w w' w1
     .rcases hO hWq with⟨hk2,_⟩|⟨w1',es1,q,he,ha⟩
      .rw[T.j]at hk2;cases hk2
      .cases q
       dsimp only[Ar]
       refine qq.h hl (λ_=>⟨he,ha⟩) ?_
       have hT:=hcall U T.h (T.e R).1 (T.e R).2
       have het:=wY (U:=U) (fr:=⟨fn,tmps,.inRangeFunc l::k,mark++defers,mode,kind,none⟩) T (MC R hf0)
       rw[<-het]at hT
       have:=pA (base:=base) R T hl.i ha.h hf2 hc2 hb2 hT (dst:=none) (rV hl.i hN2) (λo d q _=>by cases q)
       simp only[iW,List.map,jG,dQ,Option.map]at this
       rw[sc,sc]
       exact this
     .refine qq.H hl hWq ?_
      rw[sc]
      exact Jy R hl.i hf2 hc2 hb2 hN2 rfl
   |exit id=>
    have ht:=wZ (U:=U) (id:=id) k
    cases q:exitTo id k with
    |some k1=>
     rw[q]at ht
     have:=qt k1 (λj hj=>hk j (zL id k k1 q j hj))
     unfold stepG.exec
     dsimp only[nT,List.map,jG]
     rw[ht,q]
     exact this
    |none=>
     rw[q]at ht
     unfold stepG.exec
     dsimp only[nT,List.map,jG]
     rw[ht,q]
     cases ro with
     |none=>trivial
     |some l=>
      dsimp only[iW,List.map,Option.map,Option.elim]
      generalize hy:(Instr.endRound l (some (.exit id))).runT P w #[]=y
      generalize hy':(Instr.endRound (U.f l) (some (.exit id))).runT P w' #[]=y'
      obtain⟨r,es⟩:=y
      obtain⟨r',es'⟩:=y'
      dsimp only
      refine qv (mb:=mb) R T hw hR hf hc hb (hf.h l rfl) (λc h=>by cases h;rfl) hy hy' (λv w1 e=>?_) (λv w1 e=>?_) (λh w1 e=>?_)
      .subst e;rfl
      .subst e;rfl
      .subst e;trivial
   |scope c=>cases hi
   |label l=>cases hi
   |goto l=>cases hi
   |ret=>
    cases ro with
    |none=>exact qq.e hw hR (ret rfl) rfl
    |some l=>
     unfold stepG.exec
     dsimp only[iW,List.map,Option.map,jG]
     generalize hy:(Instr.endRound l (some .ret)).runT P w #[]=y
     generalize hy':(Instr.endRound (U.f l) (some .ret)).runT P w' #[]=y'
     obtain⟨r,es⟩:=y
     obtain⟨r',es'⟩:=y'
     dsimp only
     refine qv (mb:=mb) R T hw hR hf hc hb (hf.h l rfl) (λc h=>by cases h;rfl) hy hy' (λv w1 e=>?_) (λv w1 e=>?_) (λh w1 e=>?_)
     .subst e;rfl
     .subst e;rfl
     .subst e;trivial
   |refuse m=>trivial
  |inBlock id=>exact qt k hk
  |inLoop c=>exact qt (.code c :: .inLoop c::k) (cons hi (cons hi hk))
  |inScope c=>exact hi.elim
  |inRegion ops l=>
   cases l with
   |nil=>exact qt k hk
   |cons j rest=>
    have hw1:=GX (U:=U) ops tmps j
    unfold stepG.exec
    dsimp only[nT,List.map,jG]
    rw[show (iW U ⟨fn,tmps,.inRegion ops (j::rest)::k,defers,mode,kind,ro⟩).tmps=dI U tmps from rfl,hw1]
    split
    .cases ho:ops[j]? with
     |none=>
      unfold stepG.oper
      simp only[Frame.oper?,ho]
      trivial
     |some o=>
      have hok:qB P κ X (aF A ⟨fn,tmps,.inRegion ops (j::rest)::k,defers,mode,kind,ro⟩) o=true:=i9.1 hi o (dU ho)
      have key:=pA (base:=base) R T hw hR hf hc hb (WM R T hf hw hok) (aar R hw hf hok) (λo' d h1 h2=>by
       have:o'=o:=by
        have:some o'=some o:=h1.symm.trans ho
        exact aZ this
       subst this;exact h2)
      have h1:Frame.oper? ⟨fn,tmps,.inRegion ops (j::rest)::k,defers,mode,kind,ro⟩=some o:=ho
      have h2:(iW U ⟨fn,tmps,.inRegion ops (j::rest)::k,defers,mode,kind,ro⟩).oper?=some o:=ho
      unfold stepG.oper
      rw[h1,h2]
      cases ro with
      |none=>exact key
      |some l=>
       obtain⟨dst,op,type,pos,after,guard⟩:=o
       cases op<;>first|exact key|cases hok
    .exact qq.e hw hR (g1:=⟨Frame.finish ⟨fn,tmps,.inRegion ops (j::rest)::k,defers,mode,kind,ro⟩ undef,cs,.running,none,none⟩) (rz.mk' (aa _) (jn hf λ_ _ _ _=>.inl lW) hc (hb.e (iK _ undef).symm)) (by
      have:=iL (U:=U) ⟨fn,tmps,.inRegion ops (j::rest)::k,defers,mode,kind,ro⟩ undef
      rw[zb]at this
      simp only[yY]
      rw[<-this])
  |inRangeFunc l=>trivial
  |endRangeFunc l=>
   unfold stepG.exec
   dsimp only[nT,List.map,jG]
   generalize hy:(Instr.endLoop l).runT P w #[]=y
   generalize hy':(Instr.endLoop (U.f l)).runT P w' #[]=y'
   obtain⟨r,es⟩:=y
   obtain⟨r',es'⟩:=y'
   dsimp only
   refine vW (pa:=λU=>Option.map (pJ U)) T hw hR (CC l) (λρ hN=>?_) hy hy' (λj w1 e hn _ hp=>?_) (λv w1 e hn hv=>?_) (λh w1 hh e=>?_)
   .have:=CC (P:=P) (U:=ρ) l
    rw[hN.e l hi]at this
    exact this
   .subst e
    obtain⟨ρ,σ,hap,q⟩:=hp
    have hj:=RM hap q
    refine .inr ⟨⟨⟨fn,tmps,(j.map Item.code).toList++k,defers,mode,kind,ro⟩,cs,.running,none,none⟩,rz.mk' hn (ST (hf.e hn) λi hi=>?_) hc (Eqv.BU.e (a:=⟨fn,tmps,_,defers,mode,kind,ro⟩) (by rfl) hb),rfl,λw1' e'=>?_⟩
    .rcases bq.1 hi with hi|hi
     .cases j with
      |none=>cases hi
      |some c=>
       have:i=.code c:=by simpa using hi
       subst this
       have:=hj c rfl
       cases c<;>first|rfl|cases this
     .exact(hk i hi).e hn
    .subst e'
     have:j.map (pJ U)=j:=Sm hj
     simp only[this,yY,iW,dQ]
     cases j<;>rfl
   .subst e
    refine .inr ⟨⟨Frame.raise ⟨fn,tmps,.endRangeFunc l::k,defers,mode,kind,ro⟩ [{v,recovered:=false}],cs,.running,none,none⟩,rz.mk' hn (tf (hf.e hn) λe he=>by rw[aL.1 he];exact hv) hc (hb.e (qD _).symm),rfl,λw1' e'=>?_⟩
    subst e'
    have:=qE (U:=U) ⟨fn,tmps,.endRangeFunc l::k,defers,mode,kind,ro⟩ [{v,recovered:=false}]
    simp only[yY]
    rw[<-this]
    rfl
   .subst e
    cases h<;>first|trivial|exact absurd rfl (hh _)
  |beginRound=>
   cases ro with
   |none=>
    exact pA (base := base) R T hw hR hf hc hb (s := do (none : Option Nat).elim (stuck "beginRound: no round") Instr.beginRound; pure .skip) (s' := do (none : Option Nat).elim (stuck "beginRound: no round") Instr.beginRound; pure .skip) bZ.ae (dst := none) (rV hw fun ρ _ => bZ.ae) (fun o d h1 _ => by cases h1)
   |some l=>
    have hl:=hf.h l rfl
    refine pA (base:=base) R T hw hR hf hc hb (bZ.e (vE (T.e R).1 l) λ_=>bZ.h rfl) (dst:=none) (rV hw λρ hN=>?_) (λo d h1 _=>by cases h1)
    have:=vE (hN.h R hw).1 l
    rw[hN.e l hl]at this
    exact bZ.e this λ_=>bZ.h rfl
  |call d a b c=>exact hi.elim
  |extern r a=>exact hi.elim
end
section
variable{P:Bo}{κ:ju}{X:Nat->Bool}{A:Nat->Option Nat}
def xV(h:gN P κ X A n fr):fr.catches P=false:=by
 have:=h.H;unfold Frame.catches;split;rename_i q;rw[q]at this;exact this.elim;rfl
def Ek(h:gN P κ X A n fr):(iW U fr).catches P=false:=by
 have:rY (iW U fr).todo:=h.H.e;unfold Frame.catches;split;rename_i q;rw[q]at this;exact this.elim;rfl
def qq.j{c a:Prop}[Decidable c][Decidable a]{y d:GStep}(b:a->c)(e:c->uo x)(f:qq P κ X A U base w w' y d):qq P κ X A U base w w' (if c then x else y) (if a then x' else d):=by
 by_cases q:c;rw[az q];exact uo.h (e q);rw[ax q,ax λh=>q (b h)];exact f
def GT{ρ:Pm}(a:Of κ ρ)(C:gi P ρ)(E:rL P ρ)(hd:vI κ n d):bZ P ρ (cV ρ) (invoke d.target d.args) (invoke (ir ρ d.target) (dI ρ d.args)):=
 zX C E d.args (λfn c e=>by have:=hd.1;rw[e]at this;exact CH a this.1) (λb x y z e=>by have:=hd.1;rw[e]at this;exact this) (λc e=>by have:=hd.1;rw[e]at this;exact this)
def wW(R:j8 P κ X A)(T:oK P κ X U)(N:Sh κ X w)(hR:ur U w w')(G:gN P κ X A w.heap.size fr)(hc:∀c∈cs,gN P κ X A w.heap.size c)(I:Eqv.BU fr cs)(hd:vI κ w.heap.size d):
  qq P κ X A U base w w' (callDeferred P fr cs none d w) (callDeferred P (iW U fr) (cs.map (iW U)++base) none (lN U d) w'):=by
 have Y:=GT T.h (T.e R).1 (T.e R).2 hd;have F:∀ρ,uq κ X w.heap.size ρ->bZ P ρ (cV ρ) (invoke d.target d.args) (invoke d.target d.args):=λρ F=>by
  have:=GT F.i (F.h R N).1 (F.h R N).2 hd;rw[Y7 ⟨F.i,F.e⟩ hd.1,lX ⟨F.i,F.e⟩ _ hd.2]at this;exact this
 let ⟨J,z⟩:=d
 dsimp only at Y F;unfold callDeferred;dsimp only[lN];refine qq.j (λhc=>?_) (λ_=>my) ?_;revert hc;let ⟨fn,E,Z,M,K,ad,ro⟩:=fr
 cases J<;>cases K<;>first|exactλh=>h|(intro h;cases h)
 have O:=Y w w' #[] #[] hR zu.nil;have H:=rV (a:=none) (dst:=none) N F;have f1:=H.1;have f2:=H.2;have Q:=T.j;have S:=And.intro (nK P (invoke J z) w #[]) (qF P (invoke J z) w #[]);generalize (invoke J z).runT P w #[]=y at *;generalize (invoke (ir U J) (dI U z)).runT P w' #[]=y' at *;let ⟨r,es⟩:=y
 let ⟨r',k⟩:=y'
 cases r with
 |ok x w1=>
  let ⟨B,D⟩:=f1 x w1 es rfl
  have C:Ee U w w' w1->∃g,r'=.ok (cV U x) g/\zu U es k/\ll U w w' w1 g:=λn=>by
   rcases O n with⟨L,_⟩|⟨g,V,q,o,t⟩
   rw[Q]at L;cases L;cases q;exact⟨g,rfl,o,t⟩
  have p:rz P κ X A w1.heap.size ⟨fr,cs,.running,none,none⟩:=rz.mk' B.h (G.e B.h) hc I;cases x with
  |value v=>
   refine gH (g1:=⟨fr,cs,.running,none,none⟩) B p λn=>?_;obtain⟨g,rfl,o,t⟩:=C n;exact⟨g,k,rfl,o,t⟩
  |skip=>
   refine gH (g1:=⟨fr,cs,.running,none,none⟩) B p λn=>?_;obtain⟨g,rfl,o,t⟩:=C n;exact⟨g,k,rfl,o,t⟩
  |defer d=>
   refine gH (g1:=⟨fr,cs,.running,none,none⟩) B p λn=>?_;obtain⟨g,rfl,o,t⟩:=C n;exact⟨g,k,rfl,o,t⟩
  |enter f z=>
   replace D:κ.b f=true/\gX κ w1.heap.size z:=D;refine gH (g1:=⟨Frame.enter P f z .deferred,fr::cs,.running,none,none⟩) B (rz.mk' B.h (pB R D.1 D.2 (.inr rfl)) (λc h=>by rcases bN.1 h with rfl|h;exact G;exact hc c h) I) λn=>?_;obtain⟨g,rfl,o,t⟩:=C n;exact⟨g,k,by simp only[cV,lx (show U.zx f=true by rw[T.h.1];exact D.1),zK];rfl,o,t⟩
  |round l f E a b=>
   replace D:gC κ w1.heap.size l/\κ.b f=true/\gX κ w1.heap.size E/\κ.e a=true/\κ.e b=true:=D;refine gH (g1:=⟨Frame.round l f E a b .deferred,fr::cs,.running,none,none⟩) B (rz.mk' B.h (C4 R D.2.1 D.2.2.1 D.1 D.2.2.2.1 D.2.2.2.2 (.inr rfl)) (λc h=>by rcases bN.1 h with rfl|h;exact G;exact hc c h) I) λn=>?_;obtain⟨g,rfl,o,t⟩:=C n;have ca:pC U a=a:=by simp only[pC,T.h.2.2,D.2.2.2.1,dC]
   have cb:pC U b=b:=by simp only[pC,T.h.2.2,D.2.2.2.2,dC]
   exact⟨g,k,by simp only[cV,lx (show U.zx f=true by rw[T.h.1];exact D.2.1),ca,cb,AH];rfl,o,t⟩
  |recover=>
   have s:=vT (U:=U) (base:=base) (G.e B.h) (λc h=>(hc c h).e B.h) I (sD G);cases q:tryRecover fr cs with
   |none=>
    rw[q]at s

    cases hm:fr.mode with
    |returning=>
     refine gH (g1:=⟨fr,cs,.running,none,none⟩) B p λn=>?_;obtain⟨g,rfl,o,t⟩:=C n;exact⟨g,k,by simp only[cV,s,Option.map,show (iW U fr).mode=.returning by simp[iW,hm,kh]];rfl,o,t⟩
    |run=>
     refine gH (g1:=⟨fr,cs,.running,none,none⟩) B p λn=>?_;obtain⟨g,rfl,o,t⟩:=C n;exact⟨g,k,by simp only[cV,s,Option.map,show (iW U fr).mode=.run by simp[iW,hm,kh]];rfl,o,t⟩
    |panicking ch=>
     refine gH (g1:=⟨fr,cs,.running,none,none⟩) B p λn=>?_;obtain⟨g,rfl,o,t⟩:=C n;exact⟨g,k,by simp only[cV,s,Option.map,show (iW U fr).mode=.panicking (ch.map (vQ U)) by simp[iW,hm,kh]];rfl,o,t⟩
   |some y=>
    let ⟨v,W⟩:=y
    rw[q]at s;let ⟨r1,r2,r3⟩:=rZ hc I (sD G) q

    cases hm:fr.mode with
    |returning=>
     refine gH (g1:=⟨fr,W,.running,none,none⟩) B (rz.mk' B.h (G.e B.h) r2 r3) λn=>?_;obtain⟨g,rfl,o,t⟩:=C n;exact⟨g,k,by simp only[cV,s,Option.map,show (iW U fr).mode=.returning by simp[iW,hm,kh]];rfl,o,t⟩
    |run=>
     refine gH (g1:=⟨fr,cs,.running,none,none⟩) B p λn=>?_;obtain⟨g,rfl,o,t⟩:=C n;exact⟨g,k,by simp only[cV,s,Option.map,show (iW U fr).mode=.run by simp[iW,hm,kh]];rfl,o,t⟩
    |panicking ch=>
     refine gH (g1:=⟨fr,cs,.running,none,none⟩) B p λn=>?_;obtain⟨g,rfl,o,t⟩:=C n;exact⟨g,k,by simp only[cV,s,Option.map,show (iW U fr).mode=.panicking (ch.map (vQ U)) by simp[iW,hm,kh]];rfl,o,t⟩
  |_=>exact D.elim
 |halt hh w1=>
  cases hh with
  |panic v=>
   let ⟨B,D⟩:=f2 v w1 es rfl
   refine gH (g1:=⟨fr.raise [{v,recovered:=false}],cs,.running,none,none⟩) B (rz.mk' B.h (tf (G.e B.h) λe o=>by rw[aL.1 o];exact D) hc (I.e (qD fr).symm)) λn=>?_;rcases O n with⟨L,_⟩|⟨g,V,q,o,t⟩
   rw[Q]at L;cases L;cases q;refine⟨g,k,?_,o,t⟩;have:=qE (U:=U) fr [{v,recovered:=false}];simp only[yY];rw[<-this];rfl
  |goexit=>
   refine⟨.inl ⟨rfl,rfl⟩,λ_ _=>⟨S,λn=>?_⟩⟩;have:=(O n).1;rw[Q]at this;cases this
  |blocked=>
   refine uo.h (uo.e ?_);exact oL (.inl rfl) rfl
  |waiting=>
   refine uo.h (uo.e ?_);exact oL (.inr rfl) rfl
  |exit c=>
   refine uo.h (uo.e ?_);exact my
  |fatal m=>
   refine uo.h (uo.e ?_);exact zN ..
  |throw m=>
   refine uo.h (uo.e ?_);exact uu rfl rfl rfl rfl
  |unsupported u=>
   refine uo.h (uo.e ?_);exact my
  |stuck m=>
   refine uo.h (uo.e ?_);exact my
end
section
variable{P:Bo}{κ:ju}{X:Nat->Bool}{A:Nat->Option Nat}
def Sc(f f':α->Sem Bg):∀l:List α,(∀a∈l,bZ P U (pV U) (f a) (f' a))->bZ P U (List.map (pV U)) (l.mapM f) (l.mapM f')
 | [],_=>by
  haveI:=xb;rw[Cp,Cp];exact bZ.h rfl
 |a::l,h=>by
  haveI:=xb;rw[zq,zq];exact bZ.e (h a (by simp)) λb=>bZ.e (Sc f f' l λa c=>h a (by simp[c])) λbs=>bZ.h rfl
def C3(C:gi P U)(fn:Func)(c b:Array Bg)(h:∀r∈fn.results,∀t,(r=.tmp t\/∃u,r=.cell t u)->b.getD t undef=pV U (c.getD t undef)):bZ P U (pV U) (results fn c) (results fn b):=by
 haveI:=xb;unfold results;rw[lM,lM];refine bZ.e (pa:=Array.map (pV U)) (bZ.e (pa:=List.map (pV U)) (Sc _ _ _ λr f=>?_) λl=>bZ.h (by simp)) λg=>bZ.h ?_;have d:r∈fn.results:=by simpa using f
 cases r with
 |tmp t=>dsimp only;exact bZ.h (h _ d t (.inl rfl)).symm
 |cell a t=>
  dsimp only;rw[h _ d a (.inr ⟨t,rfl⟩)];exact bZ.e (rM C _) λx=>jU t x
 by_cases q:g.size=1;simp only[q,eR,dif_pos,Array.getElem_map];simp only[q,eR,dif_neg,not_false_eq_true];simp[pV,dR]
def xa(a:Array Bg)(t:Nat):(dI U a).getD t undef=pV U (a.getD t undef):=by
 rw[dR,bL,bL,cD];cases a[t]?<;>rfl
def Kc(R:j8 P κ X A)(T:oK P κ X U)(F:Sh κ X w)(S:ur U w w')(g:gN P κ X A w.heap.size fr)(hc:∀c∈cs,gN P κ X A w.heap.size c)(V:Eqv.BU fr cs)(hz:¬(cs=[]/\fr.defers=[]/\∃ch,fr.mode=.panicking ch)):
  qq P κ X A U base w w' (unwind P true fr cs none w) (unwind P mb (iW U fr) (cs.map (iW U)++base) none w'):=by
 cases hd:fr.defers with
 |cons d W=>
  have m:vI κ w.heap.size d:=g.b d (by rw[hd];simp);have G:gN P κ X A w.heap.size {fr with defers:=W}:=⟨g.u,g.j,g.p,λd' h=>g.b d' (by rw[hd];simp[h]),g.s,g.o,g.h⟩;have H:Eqv.BU {fr with defers:=W} cs:=Eqv.BU.e (a:=fr) (by rfl) V;have I:=wW (base:=base) R T F S G hc H m;obtain⟨fn,J,K,k,L,M,ro⟩:=fr;dsimp only at hd;subst hd;obtain⟨tg,aS⟩:=d;cases tg with
  |fn f c=>exact I
  |nil=>exact I
  |builtin b x y z=>exact m.1.elim
  |coroexit c=>exact m.1.elim
  |collected b=>
   unfold unwind;dsimp only[iW,List.map,lN,ir];generalize Y:(Instr.takeDeferred b).runT P w #[]=y;generalize n:(Instr.takeDeferred (U.f b)).runT P w' #[]=Z;obtain⟨r,es⟩:=y;obtain⟨r',ad⟩:=Z;dsimp only;refine vW (pa:=λU=>List.map (lN U)) T F S (si b) (λρ B=>?_) Y n (λl w1 e C _ hp=>?_) (λv w1 e C hv=>?_) (λh w1 hh e=>?_);have:=si (P:=P) (U:=ρ) b;rw[B.e b m.1]at this;exact this;subst e;obtain⟨ρ,σ,D,q⟩:=hp;have h:=G.e C;refine .inr ⟨⟨⟨fn,J,K,l++W,L,M,ro⟩,cs,.running,none,none⟩,rz.mk' C ⟨h.u,h.j,h.p,λd hd=>?_,h.s,h.o,h.h⟩ hc (Eqv.BU.e (by rfl) H),rfl,λN e'=>?_⟩;rcases bq.1 hd with hd|hd
   exact(λd h=>Gj D (vM q d h)) d hd;exact h.b d hd;subst e';simp only[yY,iW,dQ];subst e;exact .inl aE;subst e;trivial
 |nil=>
  have aI:(iW U fr).defers=[]:=by simp[iW,hd]
  unfold unwind;rw[hd,aI];dsimp only;cases hm:fr.mode with
  |run=>trivial
  |panicking ch=>
   have E:(iW U fr).mode=.panicking (ch.map (vQ U)):=by simp[iW,hm,kh]
   rw[E];dsimp only;have O:=g.s;rw[hm]at O;rw[xV g,Ek g];simp;cases cs with
   |cons c cs=>
    refine qq.e F S (g1:=⟨c.raise ch,cs,.running,none,none⟩) (rz.mk' (aa _) (tf (hc c (by simp)) O) (λc' h=>hc c' (by simp[h])) (Eqv.BU.e (qD c (vs:=ch)).symm (show Eqv.BU c cs from V))) ?_;simp only[yY];rw[<-qE];rfl
   |nil=>exact(hz ⟨rfl,hd,ch,hm⟩).elim
  |returning=>
   have E:(iW U fr).mode=.returning:=by simp[iW,hm,kh]
   rw[E];dsimp only;obtain⟨fn,Q⟩:=R.Rx fr.fn g.u;rw[show (iW U fr).fn=fr.fn from rfl,Q];dsimp only;have B:∀ρ,uq κ X w.heap.size ρ->bZ P ρ (pV ρ) (results fn fr.tmps) (results fn fr.tmps):=λρ B=>
    C3 (B.h R F).1 fn fr.tmps fr.tmps λr hr t ht=>by
     refine(su ⟨B.i,B.e⟩ _ ?_).symm;rw[bL];cases q:fr.tmps[t]? with
     |none=>exact lW
     |some v=>
      rcases g.j t v q with h|⟨h,_⟩
      exact h;have:=R.res fr.fn fn g.u Q r hr t ht;unfold aF at h;split at h;exact absurd h this.2;exact absurd h this.1
   generalize Y:(results fn fr.tmps).runT P w #[]=y;generalize n:(results fn (iW U fr).tmps).runT P w' #[]=Z;obtain⟨r,es⟩:=y;obtain⟨r',ad⟩:=Z;dsimp only;refine vW (pa:=λU=>pV U) T F S (C3 (P:=P) (U:=U) (T.e R).1 fn fr.tmps (iW U fr).tmps λr _ t _=>xa fr.tmps t) B Y n (λv w1 e C _ hp=>?_) (λv w1 e C hv=>?_) (λh w1 hh e=>?_);subst e;obtain⟨ρ,σ,D,q⟩:=hp;rcases x9 (U:=U) (base:=base) R (g.e C) (λc h=>(hc c h).e C) V (ye D v q) with h|⟨g1,hg,k1,k2⟩
   exact .inl (h w1);exact .inr ⟨g1,hg,k1 w1,λN e'=>by subst e';exact k2 N⟩;subst e;exact .inl aE;subst e;cases h<;>trivial
def NG(g:Goroutine):Prop:=g.callers=[]/\g.frame.defers=[]/\∃ch,g.frame.mode=.panicking ch
def sg(R:j8 P κ X A)(T:oK P κ X U)(h:Sh κ X w)(i:ur U w w')(q:rz P κ X A w.heap.size g)(r:¬NG g):
  qq P κ X A U base w w' (stepG P true g w) (stepG P mb (yY U base g) w'):=by
 let ⟨fr,cs,s,t,u⟩:=g
 let ⟨d,e,f,j,k,l⟩:=q
 dsimp only at d e f j k l;subst j k l;have m:=Kc (mb:=mb) (base:=base) R T h i d e f r;let ⟨fn,n,o,b,a,p,v⟩:=fr
 cases a with
 |run=>exact(RS (mb:=mb) (base:=base) R T h i d e f)
 |returning=>exact m
 |panicking c=>exact m
end
section
variable{P:Bo}{κ:ju}{X:Nat->Bool}{A:Nat->Option Nat}
def vL{f:α->α}:∀{l:List α},(∀a∈l,f a=a)->l.map f=l
 | [],_=>rfl
 |a::l,h=>by rw[List.map,h a (by simp),vL λb c=>h b (by simp[c])]
def Et:NI κ n (vK κ X N):=⟨⟨rfl,rfl,rfl⟩,λ_ _=>rfl⟩
def YY(t:gN P κ X A n fr):iW (vK κ X N) fr=fr:=by
 let ⟨fn,k,m,a,l,o,u⟩:=fr
 have w:dI (vK κ X N) k=k:=by
  rw[dR];apply ib;intro i;rw[cD];cases q:k[i]? with
  |none=>rfl
  |some v=>
   rcases t.j i v q with h|⟨_,p,rfl,_⟩
   exact bY some (su Et v h);rfl
 have x:m.map (jG (vK κ X N))=m:=vL λi y=>by
  have:=t.p i y;cases i<;>first|rfl|exact this.elim
 have z:a.map (lN (vK κ X N))=a:=vL λd hd=>RN Et (t.b d hd);have B:kh (vK κ X N) l=l:=by
  cases l with
  |panicking c=>
   show FrameMode.panicking (c.map (vQ (vK κ X N)))=_;rw[vL λe C=>?_];let ⟨v,r,g⟩:=e
   show PanicEntry.mk _ r g=_;rw[su Et v (t.s _ C)]
  |_=>rfl
 have D:u.map (vK κ X N).f=u:=by cases u<;>rfl
 show Frame.mk fn (dI _ k) (m.map _) (a.map _) (kh _ l) o (u.map _)=_;rw[w,x,z,B,D]
def Z9(a:rz P κ X A n g)(base:List Frame):yY (vK κ X N) base g = {g with callers:=g.callers++base}:=by
 unfold yY;rw[YY a.e,vL λc hc=>YY (a.i c hc)]
def Wt(k:Sh κ X w)(l:Sh κ X w1){d:A1}(f:w'.heap=w.heap)(m:∀b,X b=true->w1.heap[b]?=w.heap[b]?)(a:ll (vK κ X N) w w' w1 d):d.heap=w1.heap:=by
 have n:d.heap.size=w1.heap.size:=by rw[a.j,f];have:=a.o;omega
 apply ib;intro b;cases q:w1.heap[b]? with
 |none=>
  have:w1.heap.size<=b:=by simpa using q
  exact dx (by omega)
 |some o=>
  cases hX:X b with
  |false=>
   have:=a.h.e b o hX q;rw[Sk Et (l.h b o hX q)]at this;exact this
  |true=>
   have:=a.i b (by rw[f];exact((k.e b hX).1)) (λg _ c e=>by
    have e:g=b:=e;subst e;have c:X g=false:=c;rw[hX]at c;cases c)
   rw[this,f,<-m b hX,q]
structure YP(P:Program)(κ:ju)(X:Nat->Bool)(A:Nat->Option Nat)(w:World)(g1:Goroutine)(w1:World)(es:Array Event):Prop where
 h:rz P κ X A w1.heap.size g1
 e:oJ κ X w w1 es
 x:∀b,X b=true->w1.heap[b]?=w.heap[b]?
 o:w1.os=w.os
 i:w1.output=w.output
 j:w1.tape=w.tape
def z9(R:j8 P κ X A)(d:Sh κ X w)(f:rz P κ X A w.heap.size g)(m:¬NG g)(h:stepG P true g w=.go g1 w1 es)(j:pz g1):YP P κ X A w g1 w1 es:=by
 have:=sg (mb:=true) (base:=[]) R (vX (N:=w1.drawn)) d (AD d) f m;rw[h]at this;let ⟨_,y,n⟩:(pz g1\/NH g1)/\_/\_:=⟨this.1,this.2 j.1 j.2⟩
 let ⟨o,r,s,v,q,z,c⟩:=n ⟨λb B _=>by show b=_;omega,aa _⟩
 rw[Z9 f,dP]at q;rw[show ({g with callers:=g.callers}:Bm)=g from rfl,h]at q;injection q with C x D
 subst x;refine⟨o,r,λb k=>?_,c.t,c.p,c.u⟩;exact c.i b (d.e b k).1 λl _ a e=>by
  have e:l=b:=e;subst e;have a:X l=false:=a;rw[k]at a;cases a
def uy(R:j8 P κ X A)(c:Sh κ X w)(k:rz P κ X A w.heap.size g)(n:¬NG g)(h:stepG P true g w=.go g1 w1 es)(l:pz g1){t:Nat->Question->Nat}{d:Nat}(B:∀i q,w.drawn+i<w1.drawn->t (d+i) q=w.tape (w.drawn+i) q)(base:List Frame):
  ∃a,stepG P true {g with callers:=g.callers++base} {w with tape:=t,drawn:=d} = .go {g1 with callers:=g1.callers++base} {w1 with tape:=t,drawn:=d+(w1.drawn-w.drawn)} a:=by
 have f:=z9 R c k n h l;have:=sg (mb:=true) (base:=base) (w':={w with tape:=t,drawn:=d}) R (vX (N:=w1.drawn)) c (by
  have r:=AD (N:=w1.drawn) c;exact⟨r.e,r.x,r.s,B,r.j⟩) k n
 rw[h]at this;let ⟨H,C⟩:=this.2 l.1 l.2
 let ⟨D,E,m,a,q,I,p⟩:=C ⟨λb f _=>by show b=w.heap.size+_;omega,aa _⟩
 rw[Z9 k,Z9 D]at q;refine⟨a,q.trans ?_⟩;have u:=Wt (w':={w with tape:=t,drawn:=d}) c E.i rfl f.x p;have ⟨_,_,_,_,v,y,z,F,J⟩:=p




 let ⟨K,tp,G,L,M⟩:=m
 dsimp only at u v y z F;subst u v y z;rw[<-f.o,<-f.i,show d+(w1.drawn-w.drawn)=G by omega]
end
inductive Tr where
 |leaf
 |node (f:World->Tr)
abbrev Mj:=Nat->Question->Nat
variable{s s':Mj}
def nh(w:World)(s:Mj):World:={w with tape:=s,drawn:=0}
def lQ(s:Mj)(k:Nat):Mj:=λi=>s (k+i)
section
variable(P:Bo)(κ:ju)(X:Nat->Bool)(A:Nat->Option Nat)(Stop:Bm->A1->Prop)
def LT:Tr->Goroutine->World->Prop
 |.leaf,g,w=>Stop g w
 |.node f,g,w=>∀s,∃g' w' es,stepG P true g (nh w s)=.go g' w' es/\pz g'/\LT (f (nh w s)) g' w'
def Rc:Nat->Mj->Goroutine->World->Prop
 |0,_,g,w=>Stop g w
 |n+1,s,g,w=>Stop g w\/∃g' w' es,stepG P true g (nh w s)=.go g' w' es/\pz g'/\Rc n (lQ s w'.drawn) g' w'
def Rr(g:Goroutine)(w:World):Prop:=rz P κ X A w.heap.size g/\Sh κ X w
def VW(g:Goroutine)(w:World):Prop:=∀s,∃n,Rc P Stop n s g w
def VV(g:Goroutine)(w:World):Prop:=Rr P κ X A g w/\VW P Stop g w/\¬ ∃T,LT P Stop T g w
end
section
variable{P:Bo}{κ:ju}{X:Nat->Bool}{A:Nat->Option Nat}{Stop:Bm->A1->Prop}
def RJ(o:NG g)(p:pz g)(q:rz P κ X A w.heap.size g):∀g' w' es,stepG P true g w=.go g' w' es->¬pz g':=by
 let ⟨fr,cs,r,s,t⟩:=g
 let ⟨a,c,ch,d⟩:=o
 let ⟨f,i⟩:=p
 dsimp only at a c d f i;subst a f i;let ⟨fn,j,k,b,l,m,u⟩:=fr
 dsimp only at c d;subst c d;intro g' w' es h n;simp only[stepG,unwind,(xV q.e),eL,mj]at h;split at h;injection h with a _ _
 subst a;cases n.1;split at h;injection h with a _ _
 subst a;cases n.2;cases h;cases h
def Ah(b:pz g)(c:Rr P κ X A g w)(h:stepG P true g (nh w s)=.go g' w' es)(a:pz g'):¬NG g:=λd=>RJ (w:=nh w s) d b c.1 g' w' es h a
def Sh.j(h:Sh κ X w)(s:Mj):Sh κ X (nh w s):=⟨h.h,h.x,h.g⟩
def Rr.e(h:Rr P κ X A g w):pz g:=⟨h.1.b,h.1.j⟩
def Rr.j(R:j8 P κ X A)(a:Rr P κ X A g w)(h:stepG P true g (nh w s)=.go g' w' es)(b:pz g'):YP P κ X A (nh w s) g' w' es:=
 z9 R (a.2.j s) a.1 (Ah a.e a h b) h b
def Rr.H(R:j8 P κ X A)(a:Rr P κ X A g w)(h:stepG P true g (nh w s)=.go g' w' es)(b:pz g'):Rr P κ X A g' w':=by
 have:=a.j R h b;exact⟨this.h,this.e.i⟩
def Rr.h(R:j8 P κ X A)(b:Rr P κ X A g w)(h:stepG P true g (nh w s)=.go g' w' es)(f:pz g')(hs:∀i,i<w'.drawn->s' i=s i):∃a,stepG P true g (nh w s')=.go g' {w' with tape:=s'} a:=by
 obtain⟨a,c⟩:=uy (t:=s') (d:=0) R (b.2.j s) b.1 (Ah b.e b h f) h f (λi q j=>by
  show s' (0+i) q=s (0+i) q;rw[hs _ (by simpa[nh] using j)]) []
 refine⟨a,?_⟩;simp only[dP]at c;rw[show (0:Nat)+(w'.drawn-(nh w s).drawn)=w'.drawn by show 0+(w'.drawn-0)=_;omega]at c;exact c
def Rc.e(a:∀g w s d,Stop g w->Stop g {w with tape:=s,drawn:=d}){t:Mj}{d:Nat}(h:Rc P Stop n s g w):Rc P Stop n s g {w with tape:=t,drawn:=d}:=by
 cases n with
 |zero=>exact a _ _ _ _ h
 |succ n=>exact h.imp (a _ _ _ _) id
def VW.h(R:j8 P κ X A)(f:∀g w s d,Stop g w->Stop g {w with tape:=s,drawn:=d})(j:Rr P κ X A g w)(a:VW P Stop g w)(c:¬Stop g w)(h:stepG P true g (nh w s)=.go g' w' es)(k:pz g'):VW P Stop g' w':=by
 intro b;let ⟨l,m⟩:=j.h (s':=λi=>if i<w'.drawn then s i else b (i-w'.drawn)) R h k (λi o=>by simp only[az o])
 let ⟨n,a⟩:=a (λi=>if i<w'.drawn then s i else b (i-w'.drawn))
 cases n with
 |zero=>exact absurd a c
 |succ n=>
  rcases a with a|⟨x,w2,p,q,r,a⟩
  exact absurd a c;rw[m]at q;injection q with u v y
  subst u v;refine⟨n,?_⟩;have e:lQ (λi=>if i<w'.drawn then s i else b (i-w'.drawn)) w'.drawn=b:=by
   funext i;show (if w'.drawn+i<w'.drawn then s (w'.drawn+i) else b (w'.drawn+i-w'.drawn))=b i;rw[ax (by omega),ng]
  rw[show ({w' with tape:=λi=>if i<w'.drawn then s i else b (i-w'.drawn)}:A1).drawn=w'.drawn from rfl,e]at a;exact a.e f (t:=w'.tape) (d:=w'.drawn)
def VV.e(R:j8 P κ X A)(l:∀g w s d,Stop g w->Stop g {w with tape:=s,drawn:=d})(h:VV P κ X A Stop g w):¬Stop g w/\∃s g' w' es,stepG P true g (nh w s)=.go g' w' es/\pz g'/\VV P κ X A Stop g' w':=by
 let ⟨j,k,b⟩:=h
 have a:¬Stop g w:=λh=>b ⟨.leaf,h⟩;refine⟨a,?_⟩;apply cO;intro hc;apply b;have c:∀s,∃T g' w' es,stepG P true g (nh w s)=.go g' w' es/\pz g'/\LT P Stop T g' w':=by
  intro s;let ⟨n,b⟩:=k s
  cases n with
  |zero=>exact absurd b a
  |succ n=>
   rcases b with b|⟨g',w',es,q,f,_⟩
   exact absurd b a;apply cO;intro i;exact hc ⟨s,g',w',es,q,f,j.H R q f,k.h R l j a q f,λ⟨T,m⟩=>i ⟨T,g',w',es,q,f,m⟩⟩
 refine⟨.node λw1=>(c w1.tape).choose,λs=>?_⟩;exact(c s).choose_spec
open Classical in
def WH(R:j8 P κ X A)(r:∀g w s d,Stop g w->Stop g {w with tape:=s,drawn:=d}):¬VV P κ X A Stop g w:=by
 intro h0;have nx:∀p:{p:Bm×A1 // VV P κ X A Stop p.1 p.2},∃(s:Mj) (v:{p:Bm×A1 // VV P κ X A Stop p.1 p.2}) (es:Array Event),stepG P true p.1.1 (nh p.1.2 s)=.go v.1.1 v.1.2 es/\pz v.1.1:=λp=>by
  let ⟨_,s,g',w',es,y,z,F⟩:=p.2.e R r
  exact⟨s,⟨(g',w'),F⟩,es,y,z⟩
 let B:{p:Bm×A1 // VV P κ X A Stop p.1 p.2}->Mj:=λp=>(nx p).choose
 let tz:{p:Bm×A1 // VV P κ X A Stop p.1 p.2}->{p:Bm×A1 // VV P κ X A Stop p.1 p.2}:=λp=>(nx p).choose_spec.choose
 let x:Nat->{p:Bm×A1 // VV P κ X A Stop p.1 p.2}:=λi=>Nat.rec ⟨(g,w),h0⟩ (λ_ p=>tz p) i
 let K:Nat->Nat:=λi=>Nat.rec 0 (λi k=>k+(x (i+1)).1.2.drawn) i
 have G:∀i,x (i+1)=tz (x i):=λ_=>rfl;have u:∀i,K (i+1)=K i+(x (i+1)).1.2.drawn:=λ_=>rfl;have l:∀i j,i<=j->K i<=K j:=λi j h=>by
  induction j with
  |zero=>rw[Nat.le_zero.1 h];exact aa _
  |succ j C=>
   rcases cz i (j+1) with q|q
   exact aP (C (by omega)) (by rw[u];omega);rw[show i=j+1 by omega];exact aa _
 have o:∀i j m,K i<=m->m<K (i+1)->K j<=m->m<K (j+1)->i=j:=λi j m a b c d=>by
  rcases FZ i j with q|q|q
  have:=l (i+1) j q;omega;exact q;have:=l (j+1) i q;omega
 let σ:Mj:=λm=>if h:∃i,K i<=m/\m<K (i+1) then B (x h.choose) (m-K h.choose) else λ_=>0
 have H:∀i m,m<(x (i+1)).1.2.drawn->σ (K i+m)=B (x i) m:=λi m E=>by
  have f:∃j,K j<=K i+m/\K i+m<K (j+1):=⟨i,by omega,by rw[u];omega⟩;show (if h:∃j,K j<=K i+m/\K i+m<K (j+1) then B (x h.choose) (K i+m-K h.choose) else λ_=>0)=_;rw[dif_pos f];have e:f.choose=i:=o _ _ _ f.choose_spec.1 f.choose_spec.2 (by omega) (by rw[u];omega);rw[e,ng]
 have D:∀n i,¬Rc P Stop n (lQ σ (K i)) (x i).1.1 (x i).1.2:=by
  intro n;induction n with
  |zero=>exactλi h=>((x i).2.e R r).1 h
  |succ n C=>
   intro i h;rcases h with h|⟨g',w',es,q,Q,h⟩
   exact((x i).2.e R r).1 h;obtain⟨I,y,z⟩:=(λp=>(nx p).choose_spec.choose_spec) _;obtain⟨J,L⟩:=(x i).2.1.h (s':=lQ σ (K i)) R y z (λm E=>H i m E);rw[L]at q;injection q with M N S
   subst M N;have e:lQ (lQ σ (K i)) (tz (x i)).1.2.drawn=lQ σ (K (i+1)):=by
    funext m;show σ _=σ _;rw[u,G,iZ]
   rw[show ({ (tz (x i)).1.2 with tape:=lQ σ _}:A1).drawn=(tz (x i)).1.2.drawn from rfl,e]at h;exact C (i+1) (h.e r (t:=(tz (x i)).1.2.tape) (d:=(tz (x i)).1.2.drawn))
 obtain⟨n,O⟩:=h0.2.1 _;exact D n 0 O
def Xa(R:j8 P κ X A)(a:∀g w s d,Stop g w->Stop g {w with tape:=s,drawn:=d})(b:Rr P κ X A g w)(c:VW P Stop g w):∃T,LT P Stop T g w:=
 cO λe=>WH R a ⟨b,c,e⟩
end
end Go.Eqv
