/- Parts of the proof. -/
import Derived.Test.YtbebfliimjjohabGreatDoorM06
set_option maxRecDepth 100000
set_option maxHeartbeats 8000000
set_option linter.all false
namespace Go.Eqv
variable{es:Array Event}{mb:Bool}{d:Deferred}{fr:Frame}{x x':GStep}{g g' g1:E4}{base cs:List Frame}{n N:Nat}{U:Pm}{α:Type}{w w' w1:Ba}
section
variable{P:Ft}{κ:iW}{X:Nat->Bool}{A:Nat->Option Nat}
def KN(_:jE P κ X A){a:Option Nat}{x:Operand}(h:Mz P κ X a x=true):okY P κ x:=by
 cases x with
 |tmp t=>trivial
 |const v=>exact h
 |global g=>simp only[Mz,aR,f9]at h;exact h.2
 |func f=>exact h
def KU(P:Ft)(q:Question)(w:Ba):(choose q).run P w=((choose q).runT P w #[]).1:=by
 show Sem.run P (.choose q .pure) w=(Sem.runT P (.choose q .pure) w #[]).1;simp only[Sem.run,Sem.runT];split<;>rfl
def BA(P:Ft)(q:Question)(w:Ba):∃t w1,(choose q).runT P w #[]=(.ok t w1,#[]):=by
 show ∃t w1,Sem.runT P (.choose q .pure) w #[]=(.ok t w1,#[]);simp only[Sem.runT];split;exact⟨_,_,rfl⟩;exact⟨_,_,rfl⟩
def qZ(fr:Frame)(f:Operand)(v:Dv)(t:DU):resolve fr.eval {callee:=.value f,args:=#[.const v],argTypes:=#[]} t=Deferred.ofValue (fr.eval f) #[v]:=by
 unfold resolve;simp;rfl
def Xd(w1:World):GStep->Prop
 |.go a w2 _=>(nY a\/LQ a)/\(a.status=.running->a.dying=none->w1.heap.size<=w2.heap.size/\w1.drawn<=w2.drawn)
 |.ended _ _ _=>True
 |_=>False
def oT.H{fn:FuncId}(c:nl κ X w w1 es)(d:¬C5 U w w' w1)(h:Xd w1 x):oT P κ X A U base w w' (GStep.after (seen P fn es) x) x':=by
 cases x with
 |go k w2 f=>
  refine⟨h.1,λg i=>?_⟩;have a:=h.2 g i;exact⟨⟨aO c.h a.1,aO c.j a.2⟩,λq=>absurd ⟨λb b1 b2=>q.e b b1 (aN b2 a.1),aO a.2 q.h⟩ d⟩
 |ended o w es=>trivial
 |_=>exact h.elim
def uE(κ:iW)(X:Nat->Bool)(N:Nat:=0):Pm:={f:=λb=>b,EH:=λh=>h,yy:=κ.b,wS:=κ.h,TZ:=κ.e,k:=0,X:=X,Y:=X,xy:=λ_=>rfl,wk:=false,N:=N,pn:=true}
def uO:nu P κ X (uE κ X N):=⟨⟨rfl,rfl,rfl⟩,rfl,rfl,λ_ _=>rfl⟩
def UX:tn κ X n (uE κ X N):=⟨⟨rfl,rfl,rfl⟩,rfl,λ_ _=>rfl,λ_ _ _=>rfl,λ_ _=>rfl⟩
def zu(d:Sh κ X w):tu (uE κ X N) w w:=by
 refine⟨λb o a e=>?_,λb a=>?_,λb g=>g,λi q _=>rfl,rfl⟩;rw[Qs (κ:=κ) (n:=w.heap.size) ⟨⟨rfl,rfl,rfl⟩,λ_ _=>rfl⟩ (d.h b o a e)];exact e;let ⟨_,c,t,f,j⟩:=d.x b a
 exact⟨c,t,f,j,c,t,rfl,.inl ⟨rfl,f⟩⟩
def Ib(R:jE P κ X A)(a:Sh κ X w)(e:gp P κ X A w.heap.size fr)(hc:∀c∈cs,gp P κ X A w.heap.size c)(f:Eqv.A0 fr cs){s:Sem Next}(b:∀ρ,tn κ X w.heap.size ρ->bU P ρ (dc ρ) s s)(g:fr.oper?=none):Xd w (stepG.apply P true fr cs none s w):=by
 have:=nZ (U:=uE κ X) (base:=[]) R uO a (zu a) e hc f (b _ UX) (qV (dst:=none) a b) (λo d q _=>by rw[g]at q;cases q);revert this;generalize stepG.apply P true fr cs none s w=x;intro this;cases x with
 |go k w2 h=>exact⟨this.1,λi j=>(this.2 i j).1⟩
 |ended o w es=>trivial
 |_=>exact this.elim
def P7(R:jE P κ X A)(T:nu P κ X U)(J:Sh κ X w)(W:tu U w w')(I:gp P κ X A w.heap.size fr)(hc:∀c∈cs,gp P κ X A w.heap.size c)(Y:Eqv.A0 fr cs):
  oT P κ X A U base w w' (stepG.exec P true true fr cs none w) (stepG.exec P mb true (i9 U fr) (cs.map (i9 U)++base) none w'):=by
 obtain⟨fn,n,M,g,B,z,F⟩:=fr;have qt:∀k,(∀i∈k,Ih P κ X w.heap.size (aF A ⟨fn,n,M,g,B,z,F⟩) i)->oT P κ X A U base w w' (.go ⟨⟨fn,n,k,g,B,z,F⟩,cs,.running,none,none⟩ w #[]) (.go ⟨⟨fn,dx U n,k.map (ja U),g.map (kQ U),jZ U B,z,F.map U.f⟩,cs.map (i9 U)++base,.running,none,none⟩ w' #[]):=λk S=>
  oT.e J W (qu.mk' (aj _) (QT I S) hc (Eqv.A0.e (a:=⟨fn,n,M,g,B,z,F⟩) (by rfl) Y)) rfl
 have cons:∀{i:Item} {k:List Item} {Q:Item->Prop},Q i->(∀j∈k,Q j)->∀j∈i::k,Q j:=λh1 h2 j hj=>by
  rcases bG.1 hj with rfl|hj
  exact h1;exact h2 j hj
 have ret:∀(hn:F=none),qu P κ X A w.heap.size ⟨⟨fn,n,M,g,.returning,z,F⟩,cs,.running,none,none⟩:=λ_=>
  qu.mk' (aj _) ⟨I.u,I.j,I.p,I.b,aB,I.o,I.h⟩ hc (Eqv.A0.e (a:=⟨fn,n,M,g,B,z,F⟩) (by rfl) Y)
 cases M with
 |nil=>
  cases F with
  |none=>exact oT.e J W (ret rfl) rfl
  |some l=>
   unfold stepG.exec;dsimp only[i9,List.map,Option.map];generalize N:(Instr.endRound l none).runT P w #[]=y;generalize O:(Instr.endRound (U.f l) none).runT P w' #[]=y';obtain⟨r,es⟩:=y;obtain⟨r',Z⟩:=y';dsimp only;refine oW (mb:=mb) R T J W I hc Y (I.h l rfl) (λc h=>by cases h) N O (λv w1 e=>?_) (λv w1 e=>?_) (λh w1 e=>?_);subst e;rfl;subst e;rfl;subst e;trivial
 |cons i k=>
  have S:∀j∈k,Ih P κ X w.heap.size (aF A ⟨fn,n,i::k,g,B,z,F⟩) j:=λj hj=>I.p j (cJ _ hj);have D:=I.p i (dj ..);cases i with
  |code c=>
   cases c with
   |skip=>exact qt k S
   |region id G draw=>
    cases draw with
    |false=>exact qt (.inRegion G (List.range G.size)::k) (cons D S)
    |true=>
     unfold stepG.exec;dsimp only[mR,List.map,ja];simp only[nL,dZ,nX];rw[KU,KU];have hO:=bU.V (P:=P) (U:=U) (q:=.order fn id) w w' #[] #[] W yx.nil;obtain⟨t,w1,N⟩:=BA P (.order fn id) w;rw[N]at hO;obtain⟨l,_⟩:=pk (pa:=λ_=>_root_.id) (s:=choose (.order fn id)) J (λρ _=>bU.V) N;rw[show (i9 U ⟨fn,n,.code (.region id G true)::k,g,B,z,F⟩).fn=fn from rfl,N];have K:=l.e (iX N) (gZ N);have cW:gp P κ X A w1.heap.size ⟨fn,n,.inRegion G (Region.schedule (P.follows .mixedOrders) G t)::k,g,B,z,F⟩:=(QT I (k:=.inRegion G (Region.schedule (P.follows .mixedOrders) G t)::k) (cons D S)).e K.h;refine⟨.inl ⟨rfl,rfl⟩,λ_ _=>⟨⟨K.h,K.j⟩,λhW=>?_⟩⟩;rcases hO hW with⟨q,_⟩|⟨a0,Z,q,he,ha⟩
     rw[T.j]at q;cases q;have dd:Z=#[]:=by
      obtain⟨t2,w2,df⟩:=BA P (.order fn id) w';rw[df]at q;cases q;rfl
     subst dd;rw[q];exact⟨qu.mk' K.h cW hc (Eqv.A0.e (a:=⟨fn,n,_,g,B,z,F⟩) (by rfl) Y),K,a0,#[],rfl,yx.nil,ha⟩
   |seq a b=>
    replace D:(gM P κ X _ a&&gM P κ X _ b)=true:=D;rw[aR]at D;exact qt (.code a :: .code b::k) (cons D.1 (cons D.2 S))
   |cond c a b=>
    replace D:(Mz P κ X _ c&&gM P κ X _ a&&gM P κ X _ b)=true:=D;rw[aR,aR]at D;have he:=vN (U:=U) (fr:=⟨fn,n,.code (.cond c a b)::k,g,B,z,F⟩) T (KN R D.1.1);unfold stepG.exec;dsimp only[mR,List.map,ja];rw[he];cases q:Frame.eval ⟨fn,n,.code (.cond c a b)::k,g,B,z,F⟩ c with
    |bool t=>cases t with
     |true=>exact qt (.code a::k) (cons D.1.2 S)
     |false=>exact qt (.code b::k) (cons D.2 S)
    |_=>trivial
   |block id c=>exact qt (.code c :: .inBlock id::k) (cons D (cons aB S))
   |loop c=>exact qt (.code c :: .inLoop c::k) (cons D (cons D S))
   |rangeFunc f ps a b=>
    replace D:((aF A ⟨fn,n,.code (.rangeFunc f ps a b)::k,g,B,z,F⟩).isNone&&Mz P κ X (aF A ⟨fn,n,.code (.rangeFunc f ps a b)::k,g,B,z,F⟩) f&&κ.e a&&κ.e b)=true:=D;rw[aR,aR,aR]at D;obtain⟨⟨⟨dk,cl⟩,cm⟩,co⟩:=D;have ad:aF A ⟨fn,n,.code (.rangeFunc f ps a b)::k,g,B,z,F⟩=none:=dD dk;have dm:F=none:=by
     cases F with
     |none=>rfl
     |some l=>cases ad
    subst dm;have cp:=Ul I ad;unfold stepG.exec;dsimp only[mR,List.map,ja];have hE:=wW (P:=P) (U:=U) fn n ps a b none (T.h.1▸I.u) (T.h.2.2▸cm) (T.h.2.2▸co);have L:∀ρ,tn κ X w.heap.size ρ->bU P ρ (zl ρ) (Instr.enterLoop fn n ps a b none) (Instr.enterLoop fn n ps a b none):=λρ L=>by
     have:=wW (P:=P) (U:=ρ) fn n ps a b none (L.i.1▸I.u) (L.i.2.2▸cm) (L.i.2.2▸co);rw[ll ⟨L.i,L.e⟩ _ cp]at this;exact this
    have hO:=hE w w' #[] #[] W yx.nil;dsimp only[i9,Option.map]at hO⊢;generalize N:(Instr.enterLoop fn n ps a b none).runT P w #[]=y at hO⊢;generalize O:(Instr.enterLoop fn (dx U n) ps a b none).runT P w' #[]=y' at hO⊢;obtain⟨r,es⟩:=y;obtain⟨r',Z⟩:=y';cases r with
    |halt h w1=>
     refine tj.h (tj.e ?_);exact lF
    |ok x w1=>
     obtain⟨l,mark⟩:=x;obtain⟨lf,ρ,σ,a1,q⟩:=pk (pa:=λU=>zl U) J L N;have K:=lf.e (iX N) (gZ N);have ql:=Prod.mk.inj q;have bm:fU κ w1.heap.size l:=kz a1 ql.1;have bO:∀d∈mark,uC κ w1.heap.size d:=λd hd=>EP a1 (uG ql.2 d hd);dsimp only;have bR:gp P κ X A w1.heap.size ⟨fn,n,.inRangeFunc l::k,mark++g,B,z,none⟩:=by
      have h:=I.e K.h;refine⟨h.u,h.j,cons bm (λj hj=>(S j hj).e K.h),λd hd=>?_,h.s,h.o,h.h⟩;rcases cI.1 hd with hd|hd
      exact bO d hd;exact h.b d hd
     have ct:Eqv.A0 ⟨fn,n,.inRangeFunc l::k,mark++g,B,z,none⟩ cs:=Eqv.A0.e (a:=⟨fn,n,.code (.rangeFunc f ps a b)::k,g,B,z,none⟩) (by rfl) Y;have ci:gQ κ w1.heap.size (Frame.eval ⟨fn,n,.inRangeFunc l::k,mark++g,B,z,none⟩ f):=uA R K.i bR (x:=f) cl;have aS:∀ρ:Pm,Of κ ρ->fD P ρ->qK P ρ->bU P ρ (dc ρ) (Deferred.ofValue (Frame.eval ⟨fn,n,.inRangeFunc l::k,mark++g,B,z,none⟩ f) #[.func (.yield l) #[] #[]] >>= λd=>invoke d.target d.args) (Deferred.ofValue (pV ρ (Frame.eval ⟨fn,n,.inRangeFunc l::k,mark++g,B,z,none⟩ f)) (dx ρ #[.func (.yield l) #[] #[]]) >>= λd=>invoke d.target d.args):=λρ ho C E=>
      Yc C E λdy a' b' e=>by
       rw[e]at ci;exact BH ho ci.1
     have cv:∀ρ,tn κ X w1.heap.size ρ->bU P ρ (dc ρ) (Deferred.ofValue (Frame.eval ⟨fn,n,.inRangeFunc l::k,mark++g,B,z,none⟩ f) #[.func (.yield l) #[] #[]] >>= λd=>invoke d.target d.args) (Deferred.ofValue (Frame.eval ⟨fn,n,.inRangeFunc l::k,mark++g,B,z,none⟩ f) #[.func (.yield l) #[] #[]] >>= λd=>invoke d.target d.args):=λρ L=>by
      obtain⟨C,E⟩:=L.h R K.i;have:=aS ρ L.i C E;rw[rl ⟨L.i,L.e⟩ _ ci,show dx ρ #[.func (.yield l) #[] #[]]=#[.func (.yield (ρ.f l)) #[] #[]] from rfl,L.e l bm]at this;exact this
     have cw:∀c∈cs,gp P κ X A w1.heap.size c:=λc h=>(hc c h).e K.h;by_cases cA:C5 U w w' w1;rcases hO cA with⟨cB,_⟩|⟨a0,dz,q,he,ha⟩
     rw[T.j]at cB;cases cB;cases q;dsimp only[zl];refine oT.h K (λ_=>⟨he,ha⟩) ?_;have hT:=aS U T.h (T.e R).1 (T.e R).2;have dn:=vN (U:=U) (fr:=⟨fn,n,.inRangeFunc l::k,mark++g,B,z,none⟩) T (KN R cl);rw[<-dn]at hT;have:=nZ (base:=base) R T K.i ha.h bR cw ct hT (dst:=none) (qV K.i cv) (λo d q _=>by cases q);simp only[i9,List.map,ja,dE,Option.map]at this;rw[qZ,qZ];exact this;refine oT.H K cA ?_;rw[qZ];exact Ib R K.i bR cw ct cv rfl
   |exit id=>
    have ht:=vO (U:=U) (id:=id) k;cases q:exitTo id k with
    |some k1=>
     rw[q]at ht;have:=qt k1 (λj hj=>S j (yK id k k1 q j hj));unfold stepG.exec;dsimp only[mR,List.map,ja];rw[ht,q];exact this
    |none=>
     rw[q]at ht;unfold stepG.exec;dsimp only[mR,List.map,ja];rw[ht,q];cases F with
     |none=>trivial
     |some l=>
      dsimp only[i9,List.map,Option.map,Option.elim];generalize N:(Instr.endRound l (some (.exit id))).runT P w #[]=y;generalize O:(Instr.endRound (U.f l) (some (.exit id))).runT P w' #[]=y';obtain⟨r,es⟩:=y;obtain⟨r',Z⟩:=y';dsimp only;refine oW (mb:=mb) R T J W I hc Y (I.h l rfl) (λc h=>by cases h;rfl) N O (λv w1 e=>?_) (λv w1 e=>?_) (λh w1 e=>?_);subst e;rfl;subst e;rfl;subst e;trivial
   |scope c=>cases D
   |label l=>cases D
   |goto l=>cases D
   |ret=>
    cases F with
    |none=>exact oT.e J W (ret rfl) rfl
    |some l=>
     unfold stepG.exec;dsimp only[i9,List.map,Option.map,ja];generalize N:(Instr.endRound l (some .ret)).runT P w #[]=y;generalize O:(Instr.endRound (U.f l) (some .ret)).runT P w' #[]=y';obtain⟨r,es⟩:=y;obtain⟨r',Z⟩:=y';dsimp only;refine oW (mb:=mb) R T J W I hc Y (I.h l rfl) (λc h=>by cases h;rfl) N O (λv w1 e=>?_) (λv w1 e=>?_) (λh w1 e=>?_);subst e;rfl;subst e;rfl;subst e;trivial
   |refuse m=>trivial
  |inBlock id=>exact qt k S
  |inLoop c=>exact qt (.code c :: .inLoop c::k) (cons D (cons D S))
  |inScope c=>exact D.elim
  |inRegion G l=>
   cases l with
   |nil=>exact qt k S
   |cons j rest=>
    have dr:=Fx (U:=U) G n j;unfold stepG.exec;dsimp only[mR,List.map,ja];rw[show (i9 U ⟨fn,n,.inRegion G (j::rest)::k,g,B,z,F⟩).tmps=dx U n from rfl,dr];split;cases ho:G[j]? with
    |none=>
     unfold stepG.oper;simp only[Frame.oper?,ho];trivial
    |some o=>
     have ck:pc P κ X (aF A ⟨fn,n,.inRegion G (j::rest)::k,g,B,z,F⟩) o=true:=iy.1 D o (dK ho);have cG:=nZ (base:=base) R T J W I hc Y (U3 R T I J ck) (Yx R J I ck) (λo' d h1 h2=>by
      have:o'=o:=by
       have:some o'=some o:=h1.symm.trans ho;exact bb this
      subst this;exact h2)
     have h1:Frame.oper? ⟨fn,n,.inRegion G (j::rest)::k,g,B,z,F⟩=some o:=ho;have h2:(i9 U ⟨fn,n,.inRegion G (j::rest)::k,g,B,z,F⟩).oper?=some o:=ho;unfold stepG.oper;rw[h1,h2];cases F with
     |none=>exact cG
     |some l=>
      obtain⟨cj,op,dv,dJ,ds,dt⟩:=o;cases op<;>first|exact cG|cases ck
    exact oT.e J W (g1:=⟨Frame.finish ⟨fn,n,.inRegion G (j::rest)::k,g,B,z,F⟩ undef,cs,.running,none,none⟩) (qu.mk' (aj _) (jV I λ_ _ _ _=>.inl lh) hc (Y.e (jf _ undef).symm)) (by
     have:=jg (U:=U) ⟨fn,n,.inRegion G (j::rest)::k,g,B,z,F⟩ undef;rw[yc]at this;simp only[x9];rw[<-this])
  |inRangeFunc l=>trivial
  |endRangeFunc l=>
   unfold stepG.exec;dsimp only[mR,List.map,ja];generalize N:(Instr.endLoop l).runT P w #[]=y;generalize O:(Instr.endLoop (U.f l)).runT P w' #[]=y';obtain⟨r,es⟩:=y;obtain⟨r',Z⟩:=y';dsimp only;refine uN (pa:=λU=>Option.map (pJ U)) T J W (BC l) (λρ L=>?_) N O (λj w1 e hn _ hp=>?_) (λv w1 e hn hv=>?_) (λh w1 hh e=>?_);have:=BC (P:=P) (U:=ρ) l;rw[L.e l D]at this;exact this;subst e;obtain⟨ρ,σ,a1,q⟩:=hp;have hj:=P2 a1 q;refine .inr ⟨⟨⟨fn,n,(j.map Item.code).toList++k,g,B,z,F⟩,cs,.running,none,none⟩,qu.mk' hn (QT (I.e hn) λi D=>?_) hc (Eqv.A0.e (a:=⟨fn,n,_,g,B,z,F⟩) (by rfl) Y),rfl,λa0 e'=>?_⟩;rcases cI.1 D with D|D
   cases j with
   |none=>cases D
   |some c=>
    have:i=.code c:=dD D;subst this;have:=hj c rfl;cases c<;>first|rfl|cases this
   exact(S i D).e hn;subst e';have:j.map (pJ U)=j:=Qu hj;simp only[this,x9,i9,dE];cases j<;>rfl;subst e;refine .inr ⟨⟨Frame.raise ⟨fn,n,.endRangeFunc l::k,g,B,z,F⟩ [{v,recovered:=false}],cs,.running,none,none⟩,qu.mk' hn (rS (I.e hn) λe he=>by rw[bA.1 he];exact hv) hc (Y.e (pm _).symm),rfl,λa0 e'=>?_⟩;subst e';have:=po (U:=U) ⟨fn,n,.endRangeFunc l::k,g,B,z,F⟩ [{v,recovered:=false}];simp only[x9];rw[<-this];rfl;subst e;cases h<;>first|trivial|exact absurd rfl (hh _)
  |beginRound=>
   cases F with
   |none=>
    exact nZ (base := base) R T J W I hc Y (s := do (none : Option Nat).elim (stuck "beginRound: no round") Instr.beginRound; pure .skip) (s' := do (none : Option Nat).elim (stuck "beginRound: no round") Instr.beginRound; pure .skip) bU.ae (dst := none) (qV J fun ρ _ => bU.ae) (fun o d h1 _ => by cases h1)
   |some l=>
    have K:=I.h l rfl;refine nZ (base:=base) R T J W I hc Y (bU.e (uy (T.e R).1 l) λ_=>bU.h rfl) (dst:=none) (qV J λρ L=>?_) (λo d h1 _=>by cases h1);have:=uy (L.h R J).1 l;rw[L.e l K]at this;exact bU.e this λ_=>bU.h rfl
  |call d a b c=>exact D.elim
  |extern r a=>exact D.elim
end
section
variable{P:Ft}{κ:iW}{X:Nat->Bool}{A:Nat->Option Nat}
def wV(h:gp P κ X A n fr):fr.catches P=false:=by
 have:=h.H;unfold Frame.catches;split;rename_i q;rw[q]at this;exact this.elim;rfl
def Dc(h:gp P κ X A n fr):(i9 U fr).catches P=false:=by
 have:qY (i9 U fr).todo:=h.H.e;unfold Frame.catches;split;rename_i q;rw[q]at this;exact this.elim;rfl
def oT.j{c a:Prop}[Decidable c][Decidable a]{y d:GStep}(b:a->c)(e:c->tj x)(f:oT P κ X A U base w w' y d):oT P κ X A U base w w' (if c then x else y) (if a then x' else d):=by
 by_cases q:c;rw[aH q];exact tj.h (e q);rw[ay q,ay λh=>q (b h)];exact f
def Fq{ρ:Pm}(f:Of κ ρ)(C:fD P ρ)(E:qK P ρ)(a:uC κ n d):bU P ρ (dc ρ) (invoke d.target d.args) (invoke (gO ρ d.target) (dx ρ d.args)):=
 yV C E d.args (λfn c e=>by have:=a.1;rw[e]at this;exact BH f this.1) (λb x y z e=>by have:=a.1;rw[e]at this;exact this) (λc e=>by have:=a.1;rw[e]at this;exact this)
def vL(R:jE P κ X A)(T:nu P κ X U)(O:Sh κ X w)(hR:tu U w w')(G:gp P κ X A w.heap.size fr)(hc:∀c∈cs,gp P κ X A w.heap.size c)(I:Eqv.A0 fr cs)(L:uC κ w.heap.size d):
  oT P κ X A U base w w' (callDeferred P fr cs none d w) (callDeferred P (i9 U fr) (cs.map (i9 U)++base) none (kQ U d) w'):=by
 have Z:=Fq T.h (T.e R).1 (T.e R).2 L;have F:∀ρ,tn κ X w.heap.size ρ->bU P ρ (dc ρ) (invoke d.target d.args) (invoke d.target d.args):=λρ F=>by
  have:=Fq F.i (F.h R O).1 (F.h R O).2 L;rw[Xr ⟨F.i,F.e⟩ L.1,ll ⟨F.i,F.e⟩ _ L.2]at this;exact this
 let ⟨M,k⟩:=d
 dsimp only at Z F;unfold callDeferred;dsimp only[kQ];refine oT.j (λhc=>?_) (λ_=>lF) ?_;revert hc;let ⟨fn,D,ad,N,J,aS,ro⟩:=fr
 cases M<;>cases J<;>first|exactλh=>h|(intro h;cases h)
 have Q:=Z w w' #[] #[] hR yx.nil;have H:=qV (a:=none) (dst:=none) O F;have f1:=H.1;have f2:=H.2;have S:=T.j;have V:=pq P (invoke M k) w #[];generalize (invoke M k).runT P w #[]=y at *;generalize (invoke (gO U M) (dx U k)).runT P w' #[]=y' at *;let ⟨r,es⟩:=y
 let ⟨r',p⟩:=y'
 cases r with
 |ok x w1=>
  let ⟨n,o⟩:=f1 x w1 es rfl
  have C:C5 U w w' w1->∃g,r'=.ok (dc U x) g/\yx U es p/\ko U w w' w1 g:=λs=>by
   rcases Q s with⟨K,_⟩|⟨g,W,q,t,B⟩
   rw[S]at K;cases K;cases q;exact⟨g,rfl,t,B⟩
  have E:qu P κ X A w1.heap.size ⟨fr,cs,.running,none,none⟩:=qu.mk' n.h (G.e n.h) hc I;cases x with
  |value|skip|defer=>
   refine iP (g1:=⟨fr,cs,.running,none,none⟩) n E λs=>?_;obtain⟨g,rfl,t,B⟩:=C s;exact⟨g,p,rfl,t,B⟩
  |enter f k=>
   replace o:κ.b f=true/\gA κ w1.heap.size k:=o;refine iP (g1:=⟨Frame.enter P f k .deferred,fr::cs,.running,none,none⟩) n (qu.mk' n.h (oa R o.1 o.2 (.inr rfl)) (λc h=>by rcases bG.1 h with rfl|h;exact G;exact hc c h) I) λs=>?_;obtain⟨g,rfl,t,B⟩:=C s;exact⟨g,p,by simp only[dc,kA (show U.yy f=true by rw[T.h.1];exact o.1),yJ];rfl,t,B⟩
  |round l f D a b=>
   replace o:fU κ w1.heap.size l/\κ.b f=true/\gA κ w1.heap.size D/\κ.e a=true/\κ.e b=true:=o;refine iP (g1:=⟨Frame.round l f D a b .deferred,fr::cs,.running,none,none⟩) n (qu.mk' n.h (B5 R o.2.1 o.2.2.1 o.1 o.2.2.2.1 o.2.2.2.2 (.inr rfl)) (λc h=>by rcases bG.1 h with rfl|h;exact G;exact hc c h) I) λs=>?_;obtain⟨g,rfl,t,B⟩:=C s;have ca:pC U a=a:=by simp only[pC,T.h.2.2,o.2.2.2.1,dG]
   have cb:pC U b=b:=by simp only[pC,T.h.2.2,o.2.2.2.2,dG]
   exact⟨g,p,by simp only[dc,kA (show U.yy f=true by rw[T.h.1];exact o.2.1),ca,cb,zy];rfl,t,B⟩
  |recover=>
   have z:=uM (U:=U) (base:=base) (G.e n.h) (λc h=>(hc c h).e n.h) I (uQ G);cases q:tryRecover fr cs with
   |none=>
    rw[q]at z

    cases hm:fr.mode<;>(
     refine iP (g1:=⟨fr,cs,.running,none,none⟩) n E λs=>?_;obtain⟨g,rfl,t,B⟩:=C s;exact⟨g,p,by simp only[dc,z,Option.map,show (i9 U fr).mode=jZ U fr.mode from rfl,hm,jZ];rfl,t,B⟩)
   |some y=>
    let ⟨v,Y⟩:=y
    rw[q]at z;let ⟨r1,r2,r3⟩:=xd hc I (uQ G) q

    cases hm:fr.mode with
    |returning=>
     refine iP (g1:=⟨fr,Y,.running,none,none⟩) n (qu.mk' n.h (G.e n.h) r2 r3) λs=>?_;obtain⟨g,rfl,t,B⟩:=C s;exact⟨g,p,by simp only[dc,z,Option.map,show (i9 U fr).mode=.returning by simp[i9,hm,jZ]];rfl,t,B⟩
    |_=>
     refine iP (g1:=⟨fr,cs,.running,none,none⟩) n E λs=>?_;obtain⟨g,rfl,t,B⟩:=C s;exact⟨g,p,by simp only[dc,z,Option.map,show (i9 U fr).mode=jZ U fr.mode from rfl,hm,jZ];rfl,t,B⟩
  |_=>exact o.elim
 |halt hh w1=>
  cases hh with
  |panic v=>
   let ⟨n,o⟩:=f2 v w1 es rfl
   refine iP (g1:=⟨fr.raise [{v,recovered:=false}],cs,.running,none,none⟩) n (qu.mk' n.h (rS (G.e n.h) λe t=>by rw[bA.1 t];exact o) hc (I.e (pm fr).symm)) λs=>?_;rcases Q s with⟨K,_⟩|⟨g,W,q,t,B⟩
   rw[S]at K;cases K;cases q;refine⟨g,p,?_,t,B⟩;have:=po (U:=U) fr [{v,recovered:=false}];simp only[x9];rw[<-this];rfl
  |goexit=>
   refine⟨.inl ⟨rfl,rfl⟩,λ_ _=>⟨V,λs=>?_⟩⟩;have:=(Q s).1;rw[S]at this;cases this
  |blocked=>
   refine tj.h (tj.e ?_);exact nv (.inl rfl) rfl
  |waiting=>
   refine tj.h (tj.e ?_);exact nv (.inr rfl) rfl
  |exit c=>
   refine tj.h (tj.e ?_);exact lF
  |fatal m=>
   refine tj.h (tj.e ?_);exact yL ..
  |throw m=>
   refine tj.h (tj.e ?_);exact tC rfl rfl rfl rfl
  |unsupported u=>
   refine tj.h (tj.e ?_);exact lF
  |stuck m=>
   refine tj.h (tj.e ?_);exact lF
end
section
variable{P:Ft}{κ:iW}{X:Nat->Bool}{A:Nat->Option Nat}
def Qm(f f':α->Sem Dv):∀l:List α,(∀a∈l,bU P U (pV U) (f a) (f' a))->bU P U (List.map (pV U)) (l.mapM f) (l.mapM f')
 | [],_=>by
  haveI:=vQ;rw[Bs,Bs];exact bU.h rfl
 |a::l,h=>by
  haveI:=vQ;rw[yq,yq];exact bU.e (h a aY) λb=>bU.e (Qm f f' l λa c=>h a (by simp[c])) λbs=>bU.h rfl
def B4(C:fD P U)(fn:Func)(c b:Array Dv)(h:∀r∈fn.results,∀t,(r=.tmp t\/∃u,r=.cell t u)->b.getD t undef=pV U (c.getD t undef)):bU P U (pV U) (results fn c) (results fn b):=by
 haveI:=vQ;unfold results;rw[kP,kP];refine bU.e (pa:=Array.map (pV U)) (bU.e (pa:=List.map (pV U)) (Qm _ _ _ λr f=>?_) λl=>bU.h aY) λg=>bU.h ?_;have d:r∈fn.results:=dD f;cases r with
 |tmp t=>dsimp only;exact bU.h (h _ d t (.inl rfl)).symm
 |cell a t=>
  dsimp only;rw[h _ d a (.inr ⟨t,rfl⟩)];exact bU.e (qL C _) λx=>jr t x
 by_cases q:g.size=1;simp only[q,eh,dif_pos,Array.getElem_map];simp only[q,eh,dif_neg,not_false_eq_true];simp[pV,dF]
def vP(a:Array Dv)(t:Nat):(dx U a).getD t undef=pV U (a.getD t undef):=by
 rw[dF,bD,bD,b9];cases a[t]?<;>rfl
def IT(R:jE P κ X A)(T:nu P κ X U)(G:Sh κ X w)(V:tu U w w')(g:gp P κ X A w.heap.size fr)(hc:∀c∈cs,gp P κ X A w.heap.size c)(W:Eqv.A0 fr cs)(hz:¬(cs=[]/\fr.defers=[]/\∃ch,fr.mode=.panicking ch)):
  oT P κ X A U base w w' (unwind P true fr cs none w) (unwind P mb (i9 U fr) (cs.map (i9 U)++base) none w'):=by
 cases m:fr.defers with
 |cons d Y=>
  have n:uC κ w.heap.size d:=g.b d (by rw[m];simp);have H:gp P κ X A w.heap.size {fr with defers:=Y}:=⟨g.u,g.j,g.p,λd' h=>g.b d' (by rw[m];simp[h]),g.s,g.o,g.h⟩;have I:Eqv.A0 {fr with defers:=Y} cs:=Eqv.A0.e (a:=fr) (by rfl) W;have J:=vL (base:=base) R T G V H hc I n;obtain⟨fn,K,L,k,M,N,ro⟩:=fr;dsimp only at m;subst m;obtain⟨tg,a0⟩:=d;cases tg with
  |fn f c=>exact J
  |nil=>exact J
  |builtin b x y z=>exact n.1.elim
  |coroexit c=>exact n.1.elim
  |collected b=>
   unfold unwind;dsimp only[i9,List.map,kQ,gO];generalize Z:(Instr.takeDeferred b).runT P w #[]=y;generalize B:(Instr.takeDeferred (U.f b)).runT P w' #[]=y';obtain⟨r,es⟩:=y;obtain⟨r',ad⟩:=y';dsimp only;refine uN (pa:=λU=>List.map (kQ U)) T G V (rh b) (λρ C=>?_) Z B (λl w1 e D _ hp=>?_) (λv w1 e D hv=>?_) (λh w1 hh e=>?_);have:=rh (P:=P) (U:=ρ) b;rw[C.e b n.1]at this;exact this;subst e;obtain⟨ρ,σ,E,q⟩:=hp;have h:=H.e D;refine .inr ⟨⟨⟨fn,K,L,l++Y,M,N,ro⟩,cs,.running,none,none⟩,qu.mk' D ⟨h.u,h.j,h.p,λd m=>?_,h.s,h.o,h.h⟩ hc (Eqv.A0.e (by rfl) I),rfl,λO e'=>?_⟩;rcases cI.1 m with m|m
   exact(λd h=>EP E (uG q d h)) d m;exact h.b d m;subst e';simp only[x9,i9,dE];subst e;exact .inl aB;subst e;trivial
 |nil=>
  have aS:(i9 U fr).defers=[]:=by simp[i9,m]
  unfold unwind;rw[m,aS];dsimp only;cases hm:fr.mode with
  |run=>trivial
  |panicking ch=>
   have F:(i9 U fr).mode=.panicking (ch.map (xN U)):=by simp[i9,hm,jZ]
   rw[F];dsimp only;have Q:=g.s;rw[hm]at Q;rw[wV g,Dc g];simp;cases cs with
   |cons c cs=>
    refine oT.e G V (g1:=⟨c.raise ch,cs,.running,none,none⟩) (qu.mk' (aj _) (rS (hc c aY) Q) (λc' h=>hc c' (by simp[h])) (Eqv.A0.e (pm c (vs:=ch)).symm (show Eqv.A0 c cs from W))) ?_;simp only[x9];rw[<-po];rfl
   |nil=>exact(hz ⟨rfl,m,ch,hm⟩).elim
  |returning=>
   have F:(i9 U fr).mode=.returning:=by simp[i9,hm,jZ]
   rw[F];dsimp only;obtain⟨fn,S⟩:=R.PL fr.fn g.u;rw[show (i9 U fr).fn=fr.fn from rfl,S];dsimp only;have C:∀ρ,tn κ X w.heap.size ρ->bU P ρ (pV ρ) (results fn fr.tmps) (results fn fr.tmps):=λρ C=>
    B4 (C.h R G).1 fn fr.tmps fr.tmps λr hr t ht=>by
     refine(rl ⟨C.i,C.e⟩ _ ?_).symm;rw[bD];cases q:fr.tmps[t]? with
     |none=>exact lh
     |some v=>
      rcases g.j t v q with h|⟨h,_⟩
      exact h;have:=R.res fr.fn fn g.u S r hr t ht;unfold aF at h;split at h;exact absurd h this.2;exact absurd h this.1
   generalize Z:(results fn fr.tmps).runT P w #[]=y;generalize B:(results fn (i9 U fr).tmps).runT P w' #[]=y';obtain⟨r,es⟩:=y;obtain⟨r',ad⟩:=y';dsimp only;refine uN (pa:=λU=>pV U) T G V (B4 (P:=P) (U:=U) (T.e R).1 fn fr.tmps (i9 U fr).tmps λr _ t _=>vP fr.tmps t) C Z B (λv w1 e D _ hp=>?_) (λv w1 e D hv=>?_) (λh w1 hh e=>?_);subst e;obtain⟨ρ,σ,E,q⟩:=hp;rcases xe (U:=U) (base:=base) R (g.e D) (λc h=>(hc c h).e D) W (xk E v q) with h|⟨g1,hg,k1,k2⟩
   exact .inl (h w1);exact .inr ⟨g1,hg,k1 w1,λO e'=>by subst e';exact k2 O⟩;subst e;exact .inl aB;subst e;cases h<;>trivial
def LP(g:Goroutine):Prop:=g.callers=[]/\g.frame.defers=[]/\∃ch,g.frame.mode=.panicking ch
def rg(R:jE P κ X A)(T:nu P κ X U)(h:Sh κ X w)(i:tu U w w')(q:qu P κ X A w.heap.size g)(r:¬LP g):
  oT P κ X A U base w w' (stepG P true g w) (stepG P mb (x9 U base g) w'):=by
 let ⟨fr,cs,s,t,u⟩:=g
 let ⟨d,e,f,j,k,l⟩:=q
 dsimp only at d e f j k l;subst j k l;have m:=IT (mb:=mb) (base:=base) R T h i d e f r;let ⟨fn,n,o,b,a,p,v⟩:=fr
 cases a with
 |run=>exact(P7 (mb:=mb) (base:=base) R T h i d e f)
 |returning=>exact m
 |panicking c=>exact m
end
section
variable{P:Ft}{κ:iW}{X:Nat->Bool}{A:Nat->Option Nat}
def uF{f:α->α}:∀{l:List α},(∀a∈l,f a=a)->l.map f=l
 | [],_=>rfl
 |a::l,h=>by rw[List.map,h a aY,uF λb c=>h b (by simp[c])]
def Di:LR κ n (uE κ X N):=⟨⟨rfl,rfl,rfl⟩,λ_ _=>rfl⟩
def Xj(t:gp P κ X A n fr):i9 (uE κ X N) fr=fr:=by
 let ⟨fn,k,m,a,l,o,u⟩:=fr
 have w:dx (uE κ X N) k=k:=by
  rw[dF];apply gB;intro i;rw[b9];cases q:k[i]? with
  |none=>rfl
  |some v=>
   rcases t.j i v q with h|⟨_,p,rfl,_⟩
   exact cr some (rl Di v h);rfl
 have x:m.map (ja (uE κ X N))=m:=uF λi y=>by
  have:=t.p i y;cases i<;>first|rfl|exact this.elim
 have z:a.map (kQ (uE κ X N))=a:=uF λd B=>P3 Di (t.b d B);have C:jZ (uE κ X N) l=l:=by
  cases l with
  |panicking c=>
   show FrameMode.panicking (c.map (xN (uE κ X N)))=_;rw[uF λe D=>?_];let ⟨v,r,g⟩:=e
   show PanicEntry.mk _ r g=_;rw[rl Di v (t.s _ D)]
  |_=>rfl
 have E:u.map (uE κ X N).f=u:=by cases u<;>rfl
 show Frame.mk fn (dx _ k) (m.map _) (a.map _) (jZ _ l) o (u.map _)=_;rw[w,x,z,C,E]
def Ym(a:qu P κ X A n g)(base:List Frame):x9 (uE κ X N) base g = {g with callers:=g.callers++base}:=by
 unfold x9;rw[Xj a.e,uF λc hc=>Xj (a.i c hc)]
def UO(g:Sh κ X w)(k:Sh κ X w1){d:Ba}(f:w'.heap=w.heap)(l:∀b,X b=true->w1.heap[b]?=w.heap[b]?)(a:ko (uE κ X N) w w' w1 d):d.heap=w1.heap:=by
 have m:d.heap.size=w1.heap.size:=by rw[a.j,f];have:=a.o;omega
 apply gB;intro b;cases q:w1.heap[b]? with
 |none=>
  have:w1.heap.size<=b:=dD q;exact cY ak
 |some o=>
  cases hX:X b with
  |false=>
   have:=a.h.e b o hX q;rw[Qs Di (k.h b o hX q)]at this;exact this
  |true=>
   have:=a.i b (by rw[f];exact((g.e b hX).1)) (λb2 _ c e=>by
    have e:b2=b:=e;subst e;have c:X b2=false:=c;rw[hX]at c;cases c)
   rw[this,f,<-l b hX,q]
structure Xb(P:Program)(κ:iW)(X:Nat->Bool)(A:Nat->Option Nat)(w:World)(g1:Goroutine)(w1:World)(es:Array Event):Prop where
 h:qu P κ X A w1.heap.size g1
 e:nl κ X w w1 es
 x:∀b,X b=true->w1.heap[b]?=w.heap[b]?
 o:w1.os=w.os
 i:w1.output=w.output
 j:w1.tape=w.tape
def yY(R:jE P κ X A)(d:Sh κ X w)(f:qu P κ X A w.heap.size g)(l:¬LP g)(h:stepG P true g w=.go g1 w1 es)(j:nY g1):Xb P κ X A w g1 w1 es:=by
 have:=rg (mb:=true) (base:=[]) R (uO (N:=w1.drawn)) d (zu d) f l;rw[h]at this;let ⟨_,x,m⟩:(nY g1\/LQ g1)/\_/\_:=⟨this.1,this.2 j.1 j.2⟩
 let ⟨n,o,r,u,q,y,c⟩:=m ⟨λb z _=>by show b=_;omega,aj _⟩
 rw[Ym f,ei]at q;rw[show ({g with callers:=g.callers}:E4)=g from rfl,h]at q;injection q with B v C
 subst v;refine⟨n,o,λb k=>?_,c.s,c.p,c.t⟩;exact c.i b (d.e b k).1 λb2 _ a e=>by
  have e:b2=b:=e;subst e;have a:X b2=false:=a;rw[k]at a;cases a
def tH(R:jE P κ X A)(c:Sh κ X w)(k:qu P κ X A w.heap.size g)(n:¬LP g)(h:stepG P true g w=.go g1 w1 es)(l:nY g1){t:Nat->Question->Nat}{d:Nat}(B:∀i q,w.drawn+i<w1.drawn->t (d+i) q=w.tape (w.drawn+i) q)(base:List Frame):
  ∃a,stepG P true {g with callers:=g.callers++base} {w with tape:=t,drawn:=d} = .go {g1 with callers:=g1.callers++base} {w1 with tape:=t,drawn:=d+(w1.drawn-w.drawn)} a:=by
 have f:=yY R c k n h l;have:=rg (mb:=true) (base:=base) (w':={w with tape:=t,drawn:=d}) R (uO (N:=w1.drawn)) c (by
  have r:=zu (N:=w1.drawn) c;exact⟨r.e,r.x,r.s,B,r.j⟩) k n
 rw[h]at this;let ⟨H,C⟩:=this.2 l.1 l.2
 let ⟨D,E,m,a,q,I,p⟩:=C ⟨λb f _=>by show b=w.heap.size+_;omega,aj _⟩
 rw[Ym k,Ym D]at q;refine⟨a,q.trans ?_⟩;have u:=UO (w':={w with tape:=t,drawn:=d}) c E.i rfl f.x p;have ⟨_,_,_,_,v,y,z,F,J⟩:=p




 let ⟨K,tp,G,L,M⟩:=m
 dsimp only at u v y z F;subst u v y z;rw[<-f.o,<-f.i,show d+(w1.drawn-w.drawn)=G by omega]
end
inductive Tr where
 |leaf
 |node (f:World->Tr)
abbrev Pu:=Nat->Question->Nat
variable{s s':Pu}
def qD(w:World)(s:Pu):World:={w with tape:=s,drawn:=0}
def kU(s:Pu)(k:Nat):Pu:=λi=>s (k+i)
section
variable(P:Ft)(κ:iW)(X:Nat->Bool)(A:Nat->Option Nat)(Stop:E4->Ba->Prop)
def LT:Tr->Goroutine->World->Prop
 |.leaf,g,w=>Stop g w
 |.node f,g,w=>∀s,∃g' w' es,stepG P true g (qD w s)=.go g' w' es/\nY g'/\LT (f (qD w s)) g' w'
def Rc:Nat->Pu->Goroutine->World->Prop
 |0,_,g,w=>Stop g w
 |n+1,s,g,w=>Stop g w\/∃g' w' es,stepG P true g (qD w s)=.go g' w' es/\nY g'/\Rc n (kU s w'.drawn) g' w'
def PF(g:Goroutine)(w:World):Prop:=qu P κ X A w.heap.size g/\Sh κ X w
def Uh(g:Goroutine)(w:World):Prop:=∀s,∃n,Rc P Stop n s g w
def Ug(g:Goroutine)(w:World):Prop:=PF P κ X A g w/\Uh P Stop g w/\¬ ∃T,LT P Stop T g w
end
section
variable{P:Ft}{κ:iW}{X:Nat->Bool}{A:Nat->Option Nat}{Stop:E4->Ba->Prop}
def PZ(o:LP g)(p:nY g)(q:qu P κ X A w.heap.size g):∀g' w' es,stepG P true g w=.go g' w' es->¬nY g':=by
 let ⟨fr,cs,r,s,t⟩:=g
 let ⟨a,c,ch,d⟩:=o
 let ⟨f,i⟩:=p
 dsimp only at a c d f i;subst a f i;let ⟨fn,j,k,b,l,m,u⟩:=fr
 dsimp only at c d;subst c d;intro g' w' es h n;simp only[stepG,unwind,(wV q.e),dZ,nX]at h;split at h;injection h with a _ _
 subst a;cases n.1;split at h;injection h with a _ _
 subst a;cases n.2;cases h;cases h
def ze(b:nY g)(c:PF P κ X A g w)(h:stepG P true g (qD w s)=.go g' w' es)(a:nY g'):¬LP g:=λd=>PZ (w:=qD w s) d b c.1 g' w' es h a
def Sh.j(h:Sh κ X w)(s:Pu):Sh κ X (qD w s):=⟨h.h,h.x,h.g⟩
def PF.e(h:PF P κ X A g w):nY g:=⟨h.1.b,h.1.j⟩
def PF.j(R:jE P κ X A)(a:PF P κ X A g w)(h:stepG P true g (qD w s)=.go g' w' es)(b:nY g'):Xb P κ X A (qD w s) g' w' es:=
 yY R (a.2.j s) a.1 (ze a.e a h b) h b
def PF.H(R:jE P κ X A)(a:PF P κ X A g w)(h:stepG P true g (qD w s)=.go g' w' es)(b:nY g'):PF P κ X A g' w':=by
 have:=a.j R h b;exact⟨this.h,this.e.i⟩
def PF.h(R:jE P κ X A)(b:PF P κ X A g w)(h:stepG P true g (qD w s)=.go g' w' es)(f:nY g')(hs:∀i,i<w'.drawn->s' i=s i):∃a,stepG P true g (qD w s')=.go g' {w' with tape:=s'} a:=by
 obtain⟨a,c⟩:=tH (t:=s') (d:=0) R (b.2.j s) b.1 (ze b.e b h f) h f (λi q j=>by
  show s' (0+i) q=s (0+i) q;rw[hs _ (by simpa[qD] using j)]) []
 refine⟨a,?_⟩;simp only[ei]at c;rw[show (0:Nat)+(w'.drawn-(qD w s).drawn)=w'.drawn by show 0+(w'.drawn-0)=_;omega]at c;exact c
def Rc.e(a:∀g w s d,Stop g w->Stop g {w with tape:=s,drawn:=d}){t:Pu}{d:Nat}(h:Rc P Stop n s g w):Rc P Stop n s g {w with tape:=t,drawn:=d}:=by
 cases n with
 |zero=>exact a _ _ _ _ h
 |succ n=>exact h.imp (a _ _ _ _) id
def Uh.h(R:jE P κ X A)(f:∀g w s d,Stop g w->Stop g {w with tape:=s,drawn:=d})(j:PF P κ X A g w)(a:Uh P Stop g w)(c:¬Stop g w)(h:stepG P true g (qD w s)=.go g' w' es)(k:nY g'):Uh P Stop g' w':=by
 intro b;let ⟨l,m⟩:=j.h (s':=λi=>if i<w'.drawn then s i else b (i-w'.drawn)) R h k (λi o=>by simp only[aH o])
 let ⟨n,a⟩:=a (λi=>if i<w'.drawn then s i else b (i-w'.drawn))
 cases n with
 |zero=>exact absurd a c
 |succ n=>
  rcases a with a|⟨x,w2,p,q,r,a⟩
  exact absurd a c;rw[m]at q;injection q with u v y
  subst u v;refine⟨n,?_⟩;have e:kU (λi=>if i<w'.drawn then s i else b (i-w'.drawn)) w'.drawn=b:=by
   funext i;show (if w'.drawn+i<w'.drawn then s (w'.drawn+i) else b (w'.drawn+i-w'.drawn))=b i;rw[ay ak,l7]
  rw[show ({w' with tape:=λi=>if i<w'.drawn then s i else b (i-w'.drawn)}:Ba).drawn=w'.drawn from rfl,e]at a;exact a.e f (t:=w'.tape) (d:=w'.drawn)
def Ug.e(R:jE P κ X A)(l:∀g w s d,Stop g w->Stop g {w with tape:=s,drawn:=d})(h:Ug P κ X A Stop g w):¬Stop g w/\∃s g' w' es,stepG P true g (qD w s)=.go g' w' es/\nY g'/\Ug P κ X A Stop g' w':=by
 let ⟨j,k,b⟩:=h
 have a:¬Stop g w:=λh=>b ⟨.leaf,h⟩;refine⟨a,?_⟩;apply cK;intro hc;apply b;have c:∀s,∃T g' w' es,stepG P true g (qD w s)=.go g' w' es/\nY g'/\LT P Stop T g' w':=by
  intro s;let ⟨n,b⟩:=k s
  cases n with
  |zero=>exact absurd b a
  |succ n=>
   rcases b with b|⟨g',w',es,q,f,_⟩
   exact absurd b a;apply cK;intro i;exact hc ⟨s,g',w',es,q,f,j.H R q f,k.h R l j a q f,λ⟨T,m⟩=>i ⟨T,g',w',es,q,f,m⟩⟩
 refine⟨.node λw1=>(c w1.tape).choose,λs=>?_⟩;exact(c s).choose_spec
open Classical in
def UY(R:jE P κ X A)(r:∀g w s d,Stop g w->Stop g {w with tape:=s,drawn:=d}):¬Ug P κ X A Stop g w:=by
 intro h0;have v:∀p:{p:E4×Ba // Ug P κ X A Stop p.1 p.2},∃(s:Pu) (y:{p:E4×Ba // Ug P κ X A Stop p.1 p.2}) (es:Array Event),stepG P true p.1.1 (qD p.1.2 s)=.go y.1.1 y.1.2 es/\nY y.1.1:=λp=>by
  let ⟨_,s,g',w',es,z,B,G⟩:=p.2.e R r
  exact⟨s,⟨(g',w'),G⟩,es,z,B⟩
 let C:{p:E4×Ba // Ug P κ X A Stop p.1 p.2}->Pu:=λp=>(v p).choose
 let tz:{p:E4×Ba // Ug P κ X A Stop p.1 p.2}->{p:E4×Ba // Ug P κ X A Stop p.1 p.2}:=λp=>(v p).choose_spec.choose
 let x:Nat->{p:E4×Ba // Ug P κ X A Stop p.1 p.2}:=λi=>Nat.rec ⟨(g,w),h0⟩ (λ_ p=>tz p) i
 let K:Nat->Nat:=λi=>Nat.rec 0 (λi k=>k+(x (i+1)).1.2.drawn) i
 have H:∀i,x (i+1)=tz (x i):=λ_=>rfl;have u:∀i,K (i+1)=K i+(x (i+1)).1.2.drawn:=λ_=>rfl;have l:∀i j,i<=j->K i<=K j:=λi j h=>by
  induction j with
  |zero=>rw[Nat.le_zero.1 h];exact aj _
  |succ j D=>
   rcases bX i (j+1) with q|q
   exact aO (D ak) (by rw[u];omega);rw[show i=j+1 by omega];exact aj _
 have o:∀i j m,K i<=m->m<K (i+1)->K j<=m->m<K (j+1)->i=j:=λi j m a b c d=>by
  rcases EE i j with q|q|q
  have:=l (i+1) j q;omega;exact q;have:=l (j+1) i q;omega
 let σ:Pu:=λm=>if h:∃i,K i<=m/\m<K (i+1) then C (x h.choose) (m-K h.choose) else λ_=>0
 have I:∀i m,m<(x (i+1)).1.2.drawn->σ (K i+m)=C (x i) m:=λi m F=>by
  have f:∃j,K j<=K i+m/\K i+m<K (j+1):=⟨i,ak,by rw[u];omega⟩;show (if h:∃j,K j<=K i+m/\K i+m<K (j+1) then C (x h.choose) (K i+m-K h.choose) else λ_=>0)=_;rw[dif_pos f];have e:f.choose=i:=o _ _ _ f.choose_spec.1 f.choose_spec.2 ak (by rw[u];omega);rw[e,l7]
 have E:∀n i,¬Rc P Stop n (kU σ (K i)) (x i).1.1 (x i).1.2:=by
  intro n;induction n with
  |zero=>exactλi h=>((x i).2.e R r).1 h
  |succ n D=>
   intro i h;rcases h with h|⟨g',w',es,q,S,h⟩
   exact((x i).2.e R r).1 h;obtain⟨J,z,B⟩:=(λp=>(v p).choose_spec.choose_spec) _;obtain⟨L,M⟩:=(x i).2.1.h (s':=kU σ (K i)) R z B (λm F=>I i m F);rw[M]at q;injection q with N O T
   subst N O;have e:kU (kU σ (K i)) (tz (x i)).1.2.drawn=kU σ (K (i+1)):=by
    funext m;show σ _=σ _;rw[u,H,ir]
   rw[show ({ (tz (x i)).1.2 with tape:=kU σ _}:Ba).drawn=(tz (x i)).1.2.drawn from rfl,e]at h;exact D (i+1) (h.e r (t:=(tz (x i)).1.2.tape) (d:=(tz (x i)).1.2.drawn))
 obtain⟨n,Q⟩:=h0.2.1 _;exact E n 0 Q
def Vn(R:jE P κ X A)(a:∀g w s d,Stop g w->Stop g {w with tape:=s,drawn:=d})(b:PF P κ X A g w)(c:Uh P Stop g w):∃T,LT P Stop T g w:=
 cK λe=>UY R a ⟨b,c,e⟩
end
end Go.Eqv
