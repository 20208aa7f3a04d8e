/- Parts of the proof. -/
import Derived.Test.YtbebfliimjjohabGreatDoorM07
import Derived.DyingOn
import Derived.Conc.Beside
set_option maxRecDepth 100000
set_option maxHeartbeats 8000000
set_option linter.all false
open Go.Conc
namespace Go.Eqv
variable{es:Array Event}{mb:Bool}{fr:Frame}{f:FuncId}{g g1:Bm}{Shun:Loc->Prop}{y:MemOp}{d n B k:Nat}{X:Nat->Bool}{Sn:Nat->Nat->Prop}{A rel:Nat->Option Nat}{S wk live stored S':Nat->Prop}{U ρ:Pm}{P:Bo}{a:Touch}{t u:Trace}{Q:Bg->Prop}{w w1 w2 w':A1}{κ:ju}
def SO(hs:g.status=.running)(h:stepG P true g w=.go g1 w1 es):step P (oneG g w)=.next (oneG g1 w1):=by
 rw[step,stepT,move_oneG hs];by_cases q:(g1.status==GoStatus.finished)=true<;>simp[runT,oneG,Array.swapAt!,h]
def AQ(hs:g.status=.running){o:Outcome}(h:stepG P true g w=.ended o w1 es):step P (oneG g w)=.ended o w1:=by
 rw[step,stepT,move_oneG hs];simp[runT,oneG,Array.swapAt!,h]
def zH:∀(n:Nat) {g:Bm} {w:A1},g.dyingOn P->∀fr a w',runN P n (oneG g w)≠.next (lone fr a w')
 |0,g,w,h,fr,a,w',e=>by
  obtain⟨_,d,hd,_⟩:=h;simp only[runN,jl,oneG,lone,jW]at e;have:=e.2.1;simp at this;subst this;cases hd
 |n+1,g,w,h,fr,a,w',e=>by
  rcases step_dyingOn (w:=w) h with⟨f,w1,b,c⟩|⟨o,w1,b,_⟩
  simp only[runN,b]at e;exact zH n c _ _ _ e;simp only[runN,b]at e;cases e
def BT(a:g.status=.blocked):∀n fr b w',runN P n (oneG g w)≠.next (lone fr b w')
 |0,fr,b,w',e=>by
  simp only[runN,jl,oneG,lone,jW]at e;have:=e.2.1;simp at this;subst this;cases a
 |n+1,fr,b,w',e=>by
  let ⟨c,d,l,h,f⟩:=g
  simp only at a;subst a;let ⟨i, w2, j, m⟩ := endWith_ended w 2 (bytes "fatal error: all goroutines are asleep - deadlock!\n") (.fatal "all goroutines are asleep - deadlock!")
  have k:step P (oneG ⟨c,d,.blocked,h,f⟩ w)=.ended i w2:=by
   simp[step,stepT,move,ask,askOn,oneG,runnable_eq,due,ahead,Goroutine.canRun,xQ,pure];rw[j]
  simp only[runN,k]at e;cases e
def ud(a:g.status=.waiting):∀n fr b w',runN P n (oneG g w)≠.next (lone fr b w')
 |0,fr,b,w',e=>by
  simp only[runN,jl,oneG,lone,jW]at e;have:=e.2.1;simp at this;subst this;cases a
 |n+1,fr,b,w',e=>by
  have c:step P (oneG g w)=.next (oneG g w):=by
   obtain⟨d,f,i,j,h⟩:=g;simp only at a;subst a;simp[step,stepT,move,ask,askOn,oneG,runnable_eq,due,ahead,Goroutine.canRun,xQ,pure,Sem.run]
  simp only[runN,c]at e;exact ud a n _ _ _ e
def NH.e(h:NH g)(n:Nat){cs:List Frame}:runN P n (oneG g w)≠.next (lone fr cs w'):=by
 rcases h with⟨a,d,b,c,f⟩|⟨h|h,_⟩
 exact zH n ⟨.inl a,d,b,c,by rw[f];exact NoEnter.nil P⟩ fr cs w';exact BT h n fr cs w';exact ud h n fr cs w'
def wX (P : Program) : Frame := { fn := P.funcs.size, tmps := #[], todo := [.call default false "fmt's door" #[]], defers := [], mode := .run, kind := .normal }
def NY(ch:List PanicEntry):∃o,step P (lone ((wX P).raise ch) [] w)=.ended o w:=by
 have h:(wX P).catches P=true:=by simp[Frame.catches,wX]
 exact ⟨.unsupported (.noEntry "a panic or Goexit out of a method that fmt calls behind a cut's door") (((wX P).raise ch).pos P), step_lone_ended (by
  have a:((wX P).raise ch).catches P=true:=h;simp[stepG,unwind,wX,Frame.raise]at a⊢;simp[a])⟩
def Cu(P:Program)(f:FuncId)(Q:Value->Prop)(g:Goroutine)(w:World):Prop:=
 pz g/\g.callers=[]/\g.frame.fn=f/\∃v t d,Q v/\g.frame.leaving P {w with tape:=t,drawn:=d} (.returned v)
def Cu.e(g:Bm)(w:A1)(s:Mj)(d:Nat)(h:Cu P f Q g w):Cu P f Q g {w with tape:=s,drawn:=d}:=h
def VW.e(R:j8 P κ X A){frA s:Frame}{Y Z:A1}{J K:Bg}(hA:Q J)(hB:Q K)(lA:frA.leaving P Y (.returned J))(lB:s.leaving P Z (.returned K))(fA:frA.fn=f)(fB:s.fn=f):
  ∀n m (g:Bm) (w:A1),Rr P κ X A g w->runN P n (oneG g w)=.next (lone frA [] Y)->runN P m (lone g.frame (g.callers++[wX P]) w)=.next (lone s [wX P] Z)->∃k,Rc P (Cu P f Q) k (lQ w.tape w.drawn) g w:=by
 intro n;induction n with
 |zero=>
  intro m g w a r b;simp only[runN,jl,oneG,lone,jW]at r;obtain⟨rfl,H,_⟩:=r;simp only[yQ,gP,mh]at H;subst H;exact⟨0,⟨rfl,rfl⟩,rfl,fA,J,w.tape,w.drawn,hA,lA⟩
 |succ n ih=>
  intro m g w a r b;have I:=a.e;by_cases v:NG g;exfalso;let ⟨p,H,ch,h3⟩:=v
  rw[p,cH]at b;cases m with
  |zero=>
   simp only[runN,jl,lone,jW]at b;have:=b.2.1;simp only[yQ,gP,mh,Goroutine.mk.injEq]at this;have hm:=lB.1;rw[<-this,h3]at hm;cases hm
  |succ m=>
   let ⟨fn,L⟩:=R.Rx g.frame.fn a.1.e.u
   have hs:=step_leave_panicked (c:=wX P) (cs:=[]) (w:=w) (fr:=g.frame) (chain:=ch) ⟨h3,H,fn,L⟩;simp only[runN,hs]at b;cases m with
   |zero=>
    simp only[runN,jl,lone,jW]at b;have:=b.2.1;simp at this
   |succ m=>
    let ⟨o,ho⟩:=NY (P:=P) (w:=w) ch
    simp only[runN,ho]at b;cases b
  cases hst:stepG P true g w with
  |go g1 w1 es=>
   have:=sg (mb:=true) (base:=[]) R (vX (N:=w1.drawn)) a.2 (AD a.2) a.1 v;rw[hst]at this;simp only[runN,SO I.1 hst]at r;rcases this.1 with u|hd
   have p:=z9 R a.2 a.1 v hst u;let ⟨ad,x⟩:=uy (t:=w.tape) (d:=w.drawn) R a.2 a.1 v hst u (λ_ _ _=>rfl) [wX P]
   have M:({w1 with tape:=w.tape,drawn:=w.drawn+(w1.drawn-w.drawn)}:A1)=w1:=by
    have:=p.j;have:=p.e.j;let ⟨hp,tp,dr,os,ou⟩:=w1
    dsimp only at *;subst tp;rw[show w.drawn+(dr-w.drawn)=dr by omega]
   rw[M]at x;cases m with
   |zero=>
    simp only[runN,jl,lone,jW]at b;obtain⟨rfl,l,_⟩:=b;simp only[yQ,gP,mh,Goroutine.mk.injEq]at l;let ⟨l,O⟩:=l
    have S:g.callers=[]:=by
     have:=bY List.length O;simp at this;exact this
    exact⟨0,I,S,by rw[l];exact fB,K,w.tape,w.drawn,hB,by rw[l];exact lB⟩
   |succ m=>
    let ⟨fr,cs,st,dy,of⟩:=g
    let ⟨y,z⟩:=I
    dsimp only at y z;subst y z;have T:of=none:=a.1.h;subst T;let ⟨B,C,aI,aS,U⟩:=g1
    let ⟨D,E⟩:=u
    dsimp only at D E;subst D E;have F:U=none:=p.h.h;subst F;have V:step P (lone fr (cs++[wX P]) w)=.next (lone B (C++[wX P]) w1):=step_lone_go (by
     show (stepG P true _ w).bare=_;rw[x];rfl)
    simp only[runN,V]at b;let ⟨k,hk⟩:=ih m ⟨B,C,.running,none,none⟩ w1 ⟨p.h,p.e.i⟩ r b
    let ⟨W,G⟩:=uy (t:=lQ w.tape w.drawn) (d:=0) R a.2 a.1 v hst ⟨rfl,rfl⟩ (λi q _=>by show w.tape (w.drawn+(0+i)) q=_;rw[b9]) []
    simp only[dP,b9]at G;refine⟨k+1,.inr ⟨_,_,W,G,⟨rfl,rfl⟩,?_⟩⟩;have e:lQ (lQ w.tape w.drawn) (w1.drawn-w.drawn)=lQ w1.tape w1.drawn:=by
     funext i;show w.tape (w.drawn+(w1.drawn-w.drawn+i))=w1.tape (w1.drawn+i);rw[p.j];have:=p.e.j;congr 1;omega
    show Rc P (Cu P f Q) k (lQ (lQ w.tape w.drawn) (w1.drawn-w.drawn)) _ _;rw[e];exact hk.e Cu.e
   exact absurd r (hd.e n)
  |ended o w1 es=>
   simp only[runN,AQ I.1 hst]at r;cases r
  |_=>
   exfalso;have:=sg (mb:=true) (base:=[]) R (vX (N:=0)) a.2 (AD a.2) a.1 v;rw[hst]at this;exact this
def OY(R:j8 P κ X A){args:Array Bg}(g:κ.b f=true)(a:gX κ w.heap.size args)(l:Sh κ X w)(hc:∀s,Calls P f args (nh w s) λe _=>∃v,e=.returned v/\Q v):∃T,LT P (Cu P f Q) T ⟨Frame.enter P f args .normal,[],.running,none,none⟩ w:=by
 refine Xa R Cu.e ⟨⟨pB R g a (.inl rfl),(λc h=>by cases h),rfl,rfl,rfl,rfl⟩,l⟩ λs=>?_;obtain⟨E,F,frA,⟨G,rfl,p⟩,q,r,u⟩:=hc s [];obtain⟨H,I,x,⟨J,rfl,y⟩,cB,z,B⟩:=hc s [wX P];let ⟨n,C⟩:=q
 let ⟨m,D⟩:=cB
 let ⟨k,o⟩:=VW.e R p y u B r z n m ⟨Frame.enter P f args .normal,[],.running,none,none⟩ (nh w s) ⟨⟨pB R g a (.inl rfl),(λc h=>by cases h),rfl,rfl,rfl,rfl⟩,l.j s⟩ C D
 have e:lQ (nh w s).tape (nh w s).drawn=s:=by funext i;show s (0+i)=s i;rw[b9]
 rw[e]at o;exact⟨k,o.e Cu.e (t:=w.tape) (d:=w.drawn)⟩
structure tM where
 F:Nat->Prop
 J:World->Prop
 M:Mark->Prop
 D:Prop
structure dc(E:tM)(S:Nat->Prop)(w w1:World):Prop where
 i:∀b,S b->w1.heap[b]?=w.heap[b]?
 p:∀b,E.F b->w1.heap[b]?=w.heap[b]?
 o:w.heap.size<=w1.heap.size
 s:w1.tape=w.tape
 t:w1.os=w.os
 j:w1.output=w.output
 h:E.J w1
def j9(S:Nat->Prop)(w w':World):Nat->Prop:=λb=>S b\/(w.heap.size<=b/\b<w'.heap.size)
def YO(E:tM)(mb:Bool)(S:Nat->Prop)(e:Event):Prop:=match e.loc with
 |.cell a=>S a.block\/(E.F a.block/\e.write=false)
 |.obj r=>S r
 |.mark m=>m=.noRoom\/(∃f,m=.extern f)\/(E.D/\m=.disable)\/(E.D/\m=.enable)\/(mb=true/\E.M m)
 |_=>True
structure tN(E:tM)(mb:Bool)(S:Nat->Prop)(w w':World)(es:Array Event):Prop where
 h:∀b,b<w.heap.size->¬S b->w'.heap[b]?=w.heap[b]?
 i:w.heap.size<=w'.heap.size
 o:w'.tape=w.tape
 s:w'.os=w.os
 j:w'.output=w.output
 p:∀e∈es,YO E mb (j9 S w w') e
abbrev gS:=(Nat->Prop)->Nat->Goroutine->World->Prop
variable{Stop Stop':gS}
def gu(P:Program)(mb:Bool)(E:tM)(Stop:gS):Tr->gS
 |.leaf,S,d,g,w=>Stop S d g w
 |.node f,S,d,g,w=>g.status=.running/\∀w1,dc E S w w1->∃a w' es,stepG P mb g w1=.go a w' es/\tN E mb S w1 w' es/\gu P mb E Stop (f w1) (j9 S w1 w') (deafBehind d es) a w'
def fp(P:Program)(mb:Bool)(E:tM)(Stop:gS):gS:=λS d g w=>∃T,gu P mb E Stop T S d g w
section
variable{E:tM}
def dc.H{E:tM}(S:Nat->Prop)(h:E.J w):dc E S w w:=⟨λ_ _=>rfl,λ_ _=>rfl,aa _,rfl,rfl,rfl,h⟩
def dc.e(h:dc E S w w1)(k:dc E S w1 w2):dc E S w w2:=
 ⟨λb a=>(k.i b a).trans (h.i b a),λb a=>(k.p b a).trans (h.p b a),aP h.o k.o,k.s.trans h.s,k.t.trans h.t,k.j.trans h.j,k.h⟩
def fp.h(h:Stop S d g w):fp P mb E Stop S d g w:=⟨.leaf,h⟩
def fp.I(hs:g.status=.running)(h:∀w1,dc E S w w1->∃g' w' es,stepG P mb g w1=.go g' w' es/\tN E mb S w1 w' es/\fp P mb E Stop (j9 S w1 w') (deafBehind d es) g' w'):fp P mb E Stop S d g w:=by
 have a:∀w1,∃T,dc E S w w1->∃g' w' es,stepG P mb g w1=.go g' w' es/\tN E mb S w1 w' es/\gu P mb E Stop T (j9 S w1 w') (deafBehind d es) g' w':=λw1=>by
  by_cases b:dc E S w w1;obtain⟨g',w',es,c,e,T,f⟩:=h w1 b;exact⟨T,λ_=>⟨g',w',es,c,e,f⟩⟩;exact⟨.leaf,λq=>absurd q b⟩
 exact⟨.node λw1=>(a w1).choose,hs,λw1 b=>(a w1).choose_spec b⟩
def gu.h(e:∀S d g w,Stop S d g w->fp P mb E Stop' S d g w):∀(T:Tr) {S:Nat->Prop} {d:Nat} {g:Bm} {w:A1},gu P mb E Stop T S d g w->fp P mb E Stop' S d g w
 |.leaf,S,d,g,w,h=>e _ _ _ _ h
 |.node f,S,d,g,w,h=>fp.I h.1 λw1 i=>by
  obtain⟨j,w',es,a,b,c⟩:=h.2 w1 i;exact⟨j,w',es,a,b,gu.h e (f w1) c⟩
def fp.ab(h:fp P mb E Stop S d g w)(a:∀S d g w,Stop S d g w->fp P mb E Stop' S d g w):fp P mb E Stop' S d g w:=by
 let ⟨T,h⟩:=h
 exact gu.h a T h
end
structure adL(U:Pm)(w w':World):Prop where
 h:∀b o,U.X b=false->w.heap[b]?=some o->w'.heap[U.f b]?=some (ei U o)
 x:∀b,U.X b=true->∃c t,w.heap[b]?=some (.pending c t)/\c.size≠0/\∃c' t',c'.size=c.size/\w'.heap[U.f b]?=some (.cells c' t' (0,0))
 e:w'.os.env=w.os.env
def Gr(h:oI κ n U ρ)(y:∀b,κ.G b=true->U.f b=ρ.f b)(u:gN P κ X A n fr):iW U fr=iW ρ fr:=by
 let ⟨fn,a,m,o,k,t,w⟩:=fr
 have x:dI U a=dI ρ a:=by
  rw[dR,dR];apply ib;intro i;rw[cD,cD];cases q:a[i]? with
  |none=>rfl
  |some v=>
   rcases u.j i v q with x|⟨_,p,rfl,z⟩
   exact bY some (tq h v x);simp only[mM,pV,br];rw[y _ z]
 have B:m.map (jG U)=m.map (jG ρ):=gL λi C=>by
  have:=u.p i C;cases i<;>first|rfl|exact this.elim|(simp only[jG];rw[h.2.2 _ this])
 have D:kh U k=kh ρ k:=by
  cases k with
  |panicking c=>
   show FrameMode.panicking (c.map (vQ U))=.panicking (c.map (vQ ρ));rw[gL λe E=>?_];let ⟨v,r,g⟩:=e
   show PanicEntry.mk _ r g=.mk _ r g;rw[tq h v (u.s _ E)]
  |_=>rfl
 have F:w.map U.f=w.map ρ.f:=by
  cases w with
  |none=>rfl
  |some l=>simp;rw[h.2.2 _ (u.h l rfl)]
 show Frame.mk fn (dI _ a) (m.map _) (o.map _) (kh _ k) t (w.map _)=Frame.mk fn (dI _ a) (m.map _) (o.map _) (kh _ k) t (w.map _);rw[x,B,(gL λd hd=>El h (u.b d hd)),D,F]
def Wp(h:oI κ n U ρ)(a:∀b,κ.G b=true->U.f b=ρ.f b)(d:rz P κ X A n g)(base:List Frame):yY U base g=yY ρ base g:=by
 unfold yY;rw[Gr h a d.e,gL λc hc=>Gr h a (d.i c hc)]
structure abU(P:Program)(κ:ju)(X:Nat->Bool)(U:Pm)(w w':World):Prop where
 h:oK P κ X U
 j:U.pn=false
 e:adL U w w'
 y:∀b,w'.heap.size<=b->U.Y b=false
 i:∀b,b<w.heap.size->U.f b<w'.heap.size
def Er(f:Nat->Nat)(n m b:Nat):Nat:=if b<n then f b else m+(b-n)
def Wl{m:Nat}(c:∀b,b<n->U.f b<m){a b:Nat}(h:Er U.f n m a=Er U.f n m b):a=b:=by
 unfold Er at h;repeat' split at h
 exact U.Gc h;rename_i d e;have:=c a d;omega;rename_i d e;have:=c b e;omega;omega
def ad6(U:Pm)(n m N:Nat)(a:∀b,b<n->U.f b<m)(c:∀b,U.X b=true->b<n)(d:∀b,m<=b->U.Y b=false):Pm where
 f:=Er U.f n m
 Gc:=Wl a
 zx:=U.zx
 xT:=U.xT
 VL:=U.VL
 k:=U.k
 X:=U.X
 Y:=U.Y
 xy:=λb=>by
  unfold Er;split
  .exact U.xy b
  .rename_i h;rw[d _ (by omega)];cases q:U.X b with
   |false=>rfl
   |true=>exact absurd (c b q) h
 wk:=U.wk
 N:=N
 pn:=U.pn
def ab3(f t:Nat)(Q:Value->Prop)(base:List Frame)(a:Nat)(_:Nat->Prop)(d:Nat)(g:Goroutine)(_:World):Prop:=
 d=a /\
 g.status=.running/\g.callers=base/\g.dying=none/\g.offers=none/\g.frame.fn=f/\g.frame.mode=.returning/\g.frame.defers=[]/\g.frame.kind=.normal/\Q (g.frame.tmps.getD t undef)
def V9(R:j8 P κ X A){E:tM}{f t:Nat}{fn:Func}{base:List Frame}(cl:P.funcs[f]?=some fn)(b2:fn.results=#[.tmp t])(hQ:∀U v,Q v->pV U v=v):
  ∀(T:Tr) (g:Bm) (w:A1),LT P (Cu P f Q) T g w->Rr P κ X A g w->∀(U:Pm) (w':A1) (S:Nat->Prop),abU P κ X U w w' ->
   (∀b,b<w.heap.size->X b=false->κ.G b=false->S (U.f b))->(∀b,X b=true\/κ.G b=true->E.F (U.f b))->fp P mb E (ab3 f t Q base d) S d (yY U base g) w':=by
 intro T;induction T with
 |leaf=>
  intro g w h s U w' S z hS hF;apply fp.h;let ⟨hl,hc,W,v,tp,d',hq,hm,hd,hk,cA,Z,L⟩:=h
  have ba:(yY U base g).frame.mode=.returning:=by show kh U g.frame.mode=_;rw[hm];rfl
  refine⟨rfl,hl.1,by show g.callers.map (iW U)++base=base;rw[hc];rfl,hl.2,s.1.h,W,ba,by show g.frame.defers.map (lN U)=[];rw[hd];rfl,hk,?_⟩;rw[W,cl]at Z;obtain rfl:=aZ Z;have hv:v=g.frame.tmps.getD t undef:=by
   haveI:=xb;unfold results at L;rw[b2,lM]at L;simp only[zq,Cp,map_pure,pure_bind]at L;cases L;rfl
  show Q ((dI U g.frame.tmps).getD t undef);rw[xa,<-hv,hQ U v hq];exact hq
 |node fT ih=>
  intro g w h s U w' S z hS hF;refine fp.I s.1.b λw1 L=>?_;let ⟨g1,w2,es,bc,V,hT⟩:=h (lQ w1.tape w1.drawn)
  have h1:=s.j R bc V;have hz:=Ah s.e s bc V;have cb:=L.o;have cc:∀b,b<w.heap.size->U.f b<w1.heap.size:=λb k=>aO (z.i b k) cb;have hX:∀b,U.X b=true->b<w.heap.size:=λb k=>by rw[z.h.x]at k;exact(s.2.e b k).1
  have hY:∀b,w1.heap.size<=b->U.Y b=false:=λb k=>z.y b (aP cb k);let ⟨n,hπ⟩:∃n,ad6 U w.heap.size w1.heap.size w2.drawn cc hX hY=n:=⟨_,rfl⟩
  have M:∀b,b<w.heap.size->n.f b=U.f b:=λb k=>by subst hπ;show Er _ _ _ b=_;unfold Er;rw[az k]
  have pg:∀b,w.heap.size<=b->n.f b=w1.heap.size+(b-w.heap.size):=λb k=>by subst hπ;show Er _ _ _ b=_;unfold Er;rw[ax (by omega)]
  have pX:n.X=X:=by subst hπ;exact z.h.x
  have pY:n.Y=U.Y:=by subst hπ;rfl
  have bg:n.pn=false:=by subst hπ;exact z.j
  have pN:n.N=w2.drawn:=by subst hπ;rfl
  have cG:P.globals.size<w.heap.size:=(s.2.e _ R.Ry).1;have bK:oK P κ X n:=⟨by subst hπ;exact z.h.h,pX,by subst hπ;exact z.h.j,λb k=>by rw[M b (by omega)];exact z.h.i b k⟩

  have ad:∀b,κ.G b=true->b<w.heap.size:=λb k=>s.2.H b k;have cd:oI κ w.heap.size n U:=⟨bK.h,z.h.h,λb k=>M b k.1⟩;have aI:∀b,κ.G b=true->n.f b=U.f b:=λb k=>M b (ad b k);have co:∀b,b<w.heap.size->X b=false->S (U.f b)\/E.F (U.f b):=λb k l=>by
   cases D:κ.G b with
   |true=>exact .inr (hF b (.inr D))
   |false=>exact .inl (hS b k l D)
  have H:∀b,b<w.heap.size->w1.heap[U.f b]?=w'.heap[U.f b]?:=λb k=>by
   cases l:X b with
   |true=>exact L.p _ (hF b (.inl l))
   |false=>
    rcases co b k l with q|q
    exact L.i _ q;exact L.p _ q
  have aS:ur n (nh w (lQ w1.tape w1.drawn)) w1:=by
   refine⟨λb o l ho=>?_,λb l=>?_,λb k=>?_,λi q _=>?_,?_⟩;have k:b<w.heap.size:=gT (w:=w) ho;rw[pX]at l;rw[M b k,H b k,z.e.h b o (by rw[z.h.x];exact l) ho,WI cd (s.2.h b o l ho)];rw[pX]at l;let ⟨c,t,h1,h2,c',t',h3,h4⟩:=z.e.x b (by rw[z.h.x];exact l)
   have k:=(s.2.e b l).1;exact⟨c,t,h1,h2,c',t',h3,.inr (by rw[M b k,H b k];exact h4)⟩;rw[pg b k];omega;show w1.tape (w1.drawn+i) q=w1.tape (w1.drawn+(0+i)) q;rw[b9];rw[L.t];exact z.e.e
  have a0:=sg (mb:=mb) (base:=base) R bK (s.2.j _) aS s.1 hz;rw[bc]at a0;let ⟨cM,hk⟩:=a0.2 V.1 V.2
  let ⟨f1,f2,B,bO,q,he,O⟩:=hk ⟨λb k _=>pg b k,by rw[pN];exact aa _⟩
  rw[Wp cd aI s.1]at q;have cT:B.heap.size=w1.heap.size+(w2.heap.size-w.heap.size):=O.j;have cW:w.heap.size<=w2.heap.size:=O.o;have ce:∀e∈bO,YO E mb (j9 S w1 B) e/\e.loc≠.mark .disable/\e.loc≠.mark .enable:=by
   intro e cg;have cp:xZ n e=true:=he.b bg e cg;have:e∈bO.filter (xZ n):=Array.mem_filter.2 ⟨cg,cp⟩;rw[he.h]at this;obtain⟨e0,h0,rfl⟩:=Array.mem_map.1 this;let ⟨h0,bR⟩:=Array.mem_filter.1 h0
   have b1:CS X e0=true:=by unfold ux at bR;unfold CS;rw[pX]at bR;exact bR
   have own:∀b,gC κ w2.heap.size b->X b=false->j9 S w1 B (n.f b):=λb k l=>by
    rcases cz b w.heap.size with a1|cs
    rw[M b a1];exact .inl (hS b a1 l k.2);rw[pg b cs];have:=k.1;exact .inr ⟨by omega,by omega⟩
   rcases f2.o e0 h0 b1 with J|⟨a,hl,hw,D⟩
   let ⟨ci,wr,sy⟩:=e0
   cases ci with
   |cell a=>exact⟨.inl (own a.block J (by simpa[CS] using b1)),by simp[ua,mX],by simp[ua,mX]⟩
   |obj r=>exact⟨own r J (by simpa[CS] using b1),by simp[ua,mX],by simp[ua,mX]⟩
   |mark m=>
    rcases J with rfl|⟨f',rfl⟩
    exact⟨.inl rfl,by simp[ua,mX,vR],by simp[ua,mX,vR]⟩;exact⟨.inr (.inl ⟨_,rfl⟩),by simp[ua,mX,vR],by simp[ua,mX,vR]⟩
   |output=>exact⟨aE,by simp[ua,mX],by simp[ua,mX]⟩
   |goroutines=>exact⟨aE,by simp[ua,mX],by simp[ua,mX]⟩
   let ⟨ci,wr,sy⟩:=e0
   dsimp only at hl hw;subst hl hw;exact⟨.inr ⟨by show E.F (n.f a.block);rw[aI _ D];exact hF _ (.inr D),rfl⟩,by simp[ua,mX],by simp[ua,mX]⟩
  refine⟨_,B,bO,q,⟨λb k ct=>?_,by omega,O.u,O.t,O.p,λe he=>(ce e he).1⟩,?_⟩;by_cases ck:∃b0,b0<w.heap.size/\X b0=false/\n.f b0=b;obtain⟨b0,K,C,rfl⟩:=ck;have D:κ.G b0=true:=by
   cases D:κ.G b0 with
   |true=>rfl
   |false=>exact absurd (by rw[M b0 K];exact hS b0 K C D) ct
  let ⟨o,ho⟩:∃o,w.heap[b0]?=some o:=⟨_,bj K⟩
  have e1:=aS.e b0 o (by rw[pX];exact C) ho;have e2:=O.h.e b0 o (by rw[pX];exact C) (by rw[f2.g b0 D];exact ho);rw[e1,e2];exact O.i b k λb0 K C cv=>ck ⟨b0,K,by rw[pX]at C;exact C,cv⟩;rw[Conc.deafBehind_still λe he=>(ce e he).2];refine ih _ g1 w2 hT ⟨h1.h,h1.e.i⟩ n B (j9 S w1 B) ⟨bK,bg,⟨λb o l ho=>O.h.e b o l ho,λb l=>?_,?_⟩,λb k=>by rw[pY];exact hY b (by omega),λb k=>?_⟩ (λb k l D=>?_) (λb k=>?_);let ⟨c,t,h1,h2,c',t',h3,h4⟩:=O.h.x b l
  rcases h4 with⟨h4,_⟩|h4
  rw[bg]at h4;cases h4;exact⟨c,t,h1,h2,c',t',h3,h4⟩;exact O.h.j;rcases cz b w.heap.size with q|q
  rw[M b q];have:=cc b q;omega;rw[pg b q];omega;rcases cz b w.heap.size with q|q
  rw[M b q];exact .inl (hS b q l D);rw[pg b q];exact .inr ⟨by omega,by omega⟩;have cw:b<w.heap.size:=by
   rcases k with q|q
   exact(s.2.e b q).1;exact ad b q
  rw[M b cw];exact hF b k
def jo(S:Nat->Prop):Loc->Prop
 |.cell a=>S a.block
 |.obj r=>S r
 |_=>False
def jo.h(h:∀b,S b->S' b):∀{l:Loc},jo S l->jo S' l
 |.cell _,x=>h _ x
 |.obj _,x=>h _ x
def jo.e{h:∀b,S b->S' b->False}:∀{l:Loc},jo S l->jo S' l->False
 |.cell _,x,y=>h _ x y
 |.obj _,x,y=>h _ x y
def nQ:MemAct->Bool
 |.mark (.release _)=>false
 |_=>true
structure Lay where
 b:Nat
 e:Nat
 h:Nat
 F:Nat->Prop
variable{L:Lay}
structure Ap(L:Lay)(Sn:Nat->Nat->Prop)(B:Nat):Prop where
 p:∀k b,Sn k b->b<B
 s:∀k b,Sn k b->¬L.F b
 x:∀k,¬Sn k L.b
 w:∀k,¬Sn k L.e
 u:∀k,¬Sn k L.h
 two:∀j k b,Sn j b->Sn k b->j=k
 I:¬L.F L.b
 H:¬L.F L.e
 C:¬L.F L.h
 t:L.b≠L.e
 y:L.b≠L.h
 A:L.e≠L.h
 o:∀b,L.F b->b<B
 h:L.b<B
 e:L.e<B
 i:L.h<B
structure TI(L:Lay)(Shun:Loc->Prop)(wk live:Nat->Prop)(Sn:Nat->Nat->Prop)(stored:Nat->Prop)(rel:Nat->Option Nat)(B:Nat)(t:Trace):Prop where
 o:∀said,¬Race said t
 s:∀k,live k->∀i a,touchAt t i=some a->jo (Sn k) a.loc->Knows t k i
 x:∀k,live k->∀i a,touchAt t i=some a->jo L.F a.loc->a.write=true->Knows t k i
 J:∀i a,touchAt t i=some a->jo (· = L.b) a.loc->(∀k,live k->Knows t k i)\/a.kind=.atomic\/(a.kind=.said/\Knows t 0 i)
 C:∀i a,touchAt t i=some a->jo (· = L.e) a.loc->(∀k,live k->Knows t k i)\/a.kind=.atomic
 A:∀i a,touchAt t i=some a->jo (· = L.h) a.loc->(∀k,live k->Knows t k i)\/∃p,a.loc=.cell ⟨L.h,p,none⟩/\stored p
 u:∀op∈t,op.act.low B
 V:∀k,wk k->∀i a,t.g? i=some k->touchAt t i=some a->a.loc.isMemory=true->∀p,rel k=some p->i<p\/(a.kind=.atomic/\jo (· = L.b) a.loc/\¬t.heard i)
 y:∀i g a,t.g? i=some g->¬wk g->touchAt t i=some a->a.loc.isMemory=true->Knows t 0 i\/(Shun a.loc/\a.kind=.atomic)
 w:∀i g,t.g? i=some g->g≠0->¬wk g->t.counts i->∃j,t.g? j=some 0/\HappensBefore t i j
 h:∀k p,rel k=some p->t.act? p=some (.mark (.releaseMerge ⟨L.b,0,none⟩))/\t.g? p=some k/\t.heard p
 b:∀op∈t,nQ op.act=true
def Al(L:Lay)(S:Nat->Prop)(B:Nat)(k:Nat)(nw:Nat->Prop)(x:Touch):Prop:=
 jo S x.loc\/jo (B<=·) x.loc\/(jo L.F x.loc/\x.write=false)\/(jo (· = L.b) x.loc/\(x.kind=.atomic\/(x.kind=.said/\k=0)))\/(jo (· = L.e) x.loc/\x.kind=.atomic)\/∃p,x.loc=.cell ⟨L.h,p,none⟩/\nw p
def iF{i:Nat}(h:touchAt (t++u) i=some a):(i<t.size/\touchAt t i=some a)\/(t.size<=i/\∃c,(t++u)[i]?=some c/\c∈u/\c.act.touch?=some a):=by
 obtain⟨x,g,b⟩:=touch_of h;rcases getElem?_append_cases g with⟨d,e⟩|⟨d,f⟩
 exact .inl ⟨d,by rw[touchAt_of e];exact b⟩;exact .inr ⟨d,x,g,f,b⟩
def CT{b:MemOp}(h:b.act.touch?=some a)(i:b.act.low B):¬jo (B<=·) a.loc:=by
 let ⟨g,fn,f,c⟩:=b
 cases c with
 |access e=>
  simp only[MemAct.touch?,aW]at h;subst h;let ⟨d,j,k⟩:=e
  cases d<;>simp_all [jo,MemAct.low,Loc.low]
 |mark m=>cases m<;>simp_all [MemAct.touch?,jo,MemAct.low]<;>(subst h;simp_all [jo])
 |_=>simp[MemAct.touch?]at h
def pI{l:Loc}(h:jo S l):l.isMemory=true:=by cases l<;>first|rfl|exact h.elim
def TI.j(h:TI L Shun wk live Sn stored rel B t)(ap:Ap L Sn B){B':Nat}{nw:Nat->Prop}(M:live k)(X:∀f∈u,f.g=k)(aI:∀f∈u,∀x,f.act.touch?=some x->x.loc.isMemory=true->Al L (Sn k) B k nw x)(bK:∀p,nw p->¬stored p)(hS:∀b,S' b->Sn k b\/B<=b)(cb:∀b,Sn k b->S' b)(hB:B<=B')(aS:∀f∈u,f.act.low B')(a0:wk k->∀p,rel k=some p->∀(i:Nat) f,(t++u)[i]?=some f->t.size<=i->∀x,f.act.touch?=some x->x.loc.isMemory=true->x.kind=.atomic/\jo (· = L.b) x.loc/\¬(t++u).heard i)(bO:∀f∈u,nQ f.act=true)(h0:k≠0->wk k):TI L Shun wk live (λj=>if j=k then S' else Sn j) (λp=>stored p\/nw p) rel B' (t++u):=by
 have N:∀{i a},touchAt t i=some a->¬jo (B<=·) a.loc:=λ{i a} n=>by
  obtain⟨f,r,bR⟩:=touch_of n;exact CT bR (h.u f (dU r))
 have O:∀f∈u,∀x,f.act.touch?=some x->∀{S:Nat->Prop},jo S x.loc->(∀b,S b->b<B)->(∀b,Sn k b->¬S b)->(jo L.F x.loc/\x.write=false)\/(jo (· = L.b) x.loc/\(x.kind=.atomic\/(x.kind=.said/\k=0)))\/(jo (· = L.e) x.loc/\x.kind=.atomic)\/∃p,x.loc=.cell ⟨L.h,p,none⟩/\nw p:=by
  intro f r x v S d E G;rcases aI f r x v (pI d) with q|q|q
  exact(jo.e (h:=λb a c=>G b a c) q d).elim;exact(jo.e (h:=λb a c=>by have:=E b c;omega) q d).elim;exact q
 refine⟨λa1=>?_,λj P i a n d=>?_,λj P i a n d Q=>?_,λi a n d=>?_,λi a n d=>?_,λi a n d=>?_,λf r=>?_,λj P i a K n W p hp=>?_,λi g a K Y n W=>?_,λi g K ba Y hc=>?_,λj p hp=>?_,λf r=>?_⟩
 ·
  refine noRace_append (h.o a1) X λi a n f r b hb hc=>?_;obtain⟨R,W,Q,D⟩:=hc;rcases aI f r b hb (by rw[<-R];exact W) with q|q|⟨q,qw⟩|⟨q,qk⟩|⟨q,qk⟩|⟨p,q,qn⟩
  exact h.s k M i a n (by rw[R];exact q);exact(N n (by rw[R];exact q)).elim;refine h.x k M i a n (by rw[R];exact q) ?_;rcases Q with Q|Q
  exact Q;rw[qw]at Q;cases Q;rcases h.J i a n (by rw[R];exact q) with e|e|⟨e,kn⟩
  exact e k M;rw[e]at D;rcases qk with U|⟨U,_⟩<;>rw[U]at D<;>rcases D with x|x|⟨_,x,_⟩<;>cases x
  rcases qk with U|⟨U,rfl⟩
  rw[e,U]at D;rcases D with x|x|⟨_,_,x⟩<;>cases x
  exact kn;rcases h.C i a n (by rw[R];exact q) with e|e
  exact e k M;rw[e,qk]at D;rcases D with x|x|⟨_,x,_⟩<;>cases x
  rcases h.A i a n (by rw[R,q];rfl) with e|⟨p',e1,U⟩
  exact e k M;rw[R,q]at e1;simp only[Loc.cell.injEq,kK,true_and,mh]at e1;subst e1;exact(bK p qn U).elim
 ·
  by_cases Z:j=k;subst Z;rw[az rfl]at d;rcases iF n with⟨_,m⟩|⟨_,f,r,l,_⟩
  refine(h.s j P i a m ?_).app u;have:=N m;cases R:a.loc<;>rw[R]at d this<;>first|exact d.elim|exact(hS _ d).elim id λq=>(this q).elim
  have:=knows_own r;rwa [X f l]at this;rw[ax Z]at d;rcases iF n with⟨_,m⟩|⟨_,f,r,l,v⟩
  exact(h.s j P i a m d).app u;exfalso;rcases O f l a v d (λb hb=>ap.p j b hb) (λb E G=>Z (ap.two _ _ b G E)) with⟨q,_⟩|⟨q,_⟩|⟨q,_⟩|⟨p,q,_⟩
  exact jo.e (h:=λb a c=>ap.s j b c a) q d;exact jo.e (h:=λb a c=>by subst a;exact ap.x j c) q d;exact jo.e (h:=λb a c=>by subst a;exact ap.w j c) q d;rw[q]at d;exact ap.u j d
 ·
  rcases iF n with⟨_,m⟩|⟨_,f,r,l,v⟩
  exact(h.x j P i a m d Q).app u;exfalso;rcases O f l a v d ap.o (λb E G=>ap.s k b E G) with⟨_,q⟩|⟨q,_⟩|⟨q,_⟩|⟨p,q,_⟩
  rw[q]at Q;cases Q;exact jo.e (h:=λb a c=>by subst a;exact ap.I c) q d;exact jo.e (h:=λb a c=>by subst a;exact ap.H c) q d;rw[q]at d;exact ap.C d
 ·
  rcases iF n with⟨_,m⟩|⟨_,f,r,l,v⟩
  exact(h.J i a m d).imp (λx k M=>(x k M).app u) λx=>x.imp id λx=>⟨x.1,x.2.app u⟩;rcases O f l a v d (λb e=>by subst e;exact ap.h) (λb E G=>by subst G;exact ap.x k E) with⟨q,_⟩|⟨_,q⟩|⟨q,_⟩|⟨p,q,_⟩
  exact(jo.e (h:=λb a c=>by subst c;exact ap.I a) q d).elim;refine .inr (q.imp id λx=>⟨x.1,?_⟩);have:=knows_own r;rwa [X f l,x.2]at this;exact(jo.e (h:=λb a c=>by subst a;exact ap.t c.symm) q d).elim;rw[q]at d;exact(ap.y d.symm).elim
 ·
  rcases iF n with⟨_,m⟩|⟨_,f,r,l,v⟩
  exact(h.C i a m d).imp (λx k M=>(x k M).app u) id;rcases O f l a v d (λb e=>by subst e;exact ap.e) (λb E G=>by subst G;exact ap.w k E) with⟨q,_⟩|⟨q,_⟩|⟨_,q⟩|⟨p,q,_⟩
  exact(jo.e (h:=λb a c=>by subst c;exact ap.H a) q d).elim;exact(jo.e (h:=λb a c=>by subst a;exact ap.t c) q d).elim;exact .inr q;rw[q]at d;exact(ap.A d.symm).elim
 ·
  rcases iF n with⟨_,m⟩|⟨_,f,r,l,v⟩
  rcases h.A i a m d with e|⟨p,e1,U⟩
  exact .inl λk M=>(e k M).app u;exact .inr ⟨p,e1,.inl U⟩;rcases O f l a v d (λb e=>by subst e;exact ap.i) (λb E G=>by subst G;exact ap.u k E) with⟨q,_⟩|⟨q,_⟩|⟨q,_⟩|⟨p,q,Y⟩
  exact(jo.e (h:=λb a c=>by subst c;exact ap.C a) q d).elim;exact(jo.e (h:=λb a c=>by subst a;exact ap.y c) q d).elim;exact(jo.e (h:=λb a c=>by subst a;exact ap.A c) q d).elim;exact .inr ⟨p,q,.inr Y⟩
 exact(cN.1 r).elim (λq=>MemAct.low_mono hB (h.u f q)) (aS f)
 ·
  rcases iF n with⟨T,m⟩|⟨T,f,r,l,v⟩
  rw[g?_old T]at K;refine(h.V j P i a K m W p hp).imp id λx=>⟨x.1,x.2.1,λq=>x.2.2 ((heard_old T).1 q)⟩;have:j=k:=by
   simp only[Trace.g?,r,mM,aW]at K;rw[<-K,X f l]
  subst this;exact .inr (a0 P p hp i f r T a v W)
 ·
  rcases iF n with⟨T,m⟩|⟨T,f,r,l,v⟩
  rw[g?_old T]at K;exact(h.y i g a K Y m W).imp (·.app u) id;have e:g=k:=by
   simp only[Trace.g?,r,mM,aW]at K;rw[<-K,X f l]
  subst e;have e0:g=0:=cO λq=>Y (h0 q);have:=knows_own r;rw[X f l,e0]at this;exact .inl this
 ·
  obtain⟨x,v,W,_⟩:=hc;obtain⟨f,bc,cc⟩:=touch_of v;rcases getElem?_append_cases bc with⟨T,b2⟩|⟨_,bg⟩
  obtain⟨j,P,hb⟩:=h.w i g (by rw[<-g?_old T];exact K) ba Y ((counts_old T).1 ⟨x,v,W,‹_›⟩);have b1:j<t.size:=by
   unfold Trace.g? at P;obtain⟨z,hz,_⟩:=bV.1 P;exact lt_size_of_getElem? hz
  exact⟨j,by rw[g?_old b1];exact P,hb_app u hb⟩;exfalso;have e:g=k:=by
   simp only[Trace.g?,bc,mM,aW]at K;rw[<-K,X f bg]
  subst e;exact Y (h0 ba)
 obtain⟨E,G,h3⟩:=h.h j p hp;have ad:=lt_of_act? E;exact⟨by rw[act?_old ad];exact E,by rw[g?_old ad];exact G,(heard_old ad).2 h3⟩;exact(cN.1 r).elim (h.b f) (bO f)
def TI.Z(h:TI L Shun wk live Sn stored rel B t){g:Nat}(l:∀d∈u,d.g=g)(S:∀d∈u,d.act.touch?=none)(E:∀d∈u,d.act.low B)(M:∀d∈u,nQ d.act=true):TI L Shun wk live Sn stored rel B (t++u):=by
 have e:∀{i a},touchAt (t++u) i=some a->i<t.size/\touchAt t i=some a:=λ{i a} f=>by
  rcases iF f with q|⟨_,d,_,N,F⟩
  exact q;rw[S d N]at F;cases F
 refine⟨λG=>noRace_append (h.o G) l λi a _ d H b K _=>(by rw[S d H]at K;cases K),λj m i a f c=>(h.s j m i a (e f).2 c).app u,λj m i a f c U=>(h.x j m i a (e f).2 c U).app u,
  λi a f c=>(h.J i a (e f).2 c).imp (λx k n=>(x k n).app u) λx=>x.imp id λx=>⟨x.1,x.2.app u⟩,λi a f c=>(h.C i a (e f).2 c).imp (λx k n=>(x k n).app u) id,λi a f c=>(h.A i a (e f).2 c).imp (λx k n=>(x k n).app u) id,
  λd H=>(cN.1 H).elim (h.u d) (E d),λj m i a l f I p O=>?_,λi g a l P f I=>?_,λi g l Q P hc=>?_,λj p O=>?_,λd H=>(cN.1 H).elim (h.b d) (M d)⟩
 let ⟨r,v⟩:=e f
 rw[g?_old r]at l;exact(h.V j m i a l v I p O).imp id λx=>⟨x.1,x.2.1,λq=>x.2.2 ((heard_old r).1 q)⟩;let ⟨r,v⟩:=e f
 rw[g?_old r]at l;exact(h.y i g a l P v I).imp (·.app u) id;let ⟨x,F,I,n⟩:=hc
 let ⟨r,_⟩:=e F
 let ⟨j,m,K⟩:=h.w i g (by rw[<-g?_old r];exact l) Q P ((counts_old r).1 ⟨x,F,I,n⟩)
 have R:j<t.size:=by
  unfold Trace.g? at m;let ⟨z,W,_⟩:=bV.1 m
  exact lt_size_of_getElem? W
 exact⟨j,by rw[g?_old R];exact m,hb_app u K⟩;let ⟨T,X,Y⟩:=h.h j p O
 have D:=lt_of_act? T;exact⟨by rw[act?_old D];exact T,by rw[g?_old D];exact X,(heard_old D).2 Y⟩
def TI.e(h:TI L Shun wk live Sn stored rel B t)(f:y.act.touch?=none)(c:y.act.low B)(d:nQ y.act=true):TI L Shun wk live Sn stored rel B (t++#[y]):=
 have one:∀a∈(#[y]:Trace),a=y:=λa b=>by simpa using b
 h.Z (g:=y.g) (λa b=>by rw[one a b]) (λa b=>by rw[one a b];exact f) (λa b=>by rw[one a b];exact c) (λa b=>by rw[one a b];exact d)
def TI.ab(h:TI L Shun wk live Sn stored rel B t){x:MemOp}{c:Nat}{S1 S2:Nat->Prop}(v:x.g=0/\x.act=.go c)(z:y.g=c/\y.act=.start)(h0:Deaf t 0=0)(hc:Deaf t c=0)(D:live 0)(H:∀b,S1 b->Sn 0 b)(I:∀b,S2 b->Sn 0 b):
  TI L Shun wk (λk=>live k\/k=c) (λk=>if k=c then S2 else if k=0 then S1 else Sn k) stored rel B (t++#[x,y]):=by
 have m:∀i,Knows t 0 i->Knows (t++#[x,y]) c i:=λi O=>ConcN.fork_knows v z h0 hc O;have P:t++#[x,y]=(t++#[x])++#[y]:=by apply wN;simp
 have n:=(h.e (y:=x) (by rw[v.2];rfl) (by rw[v.2];trivial) (by rw[v.2];rfl)).e (y:=y) (by rw[z.2];rfl) (by rw[z.2];trivial) (by rw[z.2];rfl);rw[<-P]at n;have p:∀{i a},touchAt (t++#[x,y]) i=some a->touchAt t i=some a:=λ{i a} l=>by
  rcases iF l with q|⟨_,M,_,K,G⟩
  exact q.2;rcases(by simpa using K:M=x\/M=y) with rfl|rfl
  rw[v.2]at G;cases G;rw[z.2]at G;cases G
 refine⟨n.o,λj f i a l d=>?_,λj f i a l d N=>?_,λi a l d=>?_,λi a l d=>?_,λi a l d=>?_,n.u,n.V,n.y,n.w,n.h,n.b⟩;by_cases r:j=c;subst r;rw[az rfl]at d;exact m i (h.s 0 D i a (p l) (jo.h I d));rw[ax r]at d;have E:live j:=f.elim id λq=>absurd q r;by_cases F:j=0;subst F;rw[az rfl]at d;exact n.s 0 E i a l (jo.h H d);rw[ax F]at d;exact n.s j E i a l d;rcases f with f|rfl
 exact n.x j f i a l d N;exact m i (h.x 0 D i a (p l) d N);refine(h.J i a (p l) d).imp (λq j f=>?_) λq=>q.imp id λq=>⟨q.1,q.2.app _⟩;rcases f with f|rfl
 exact(q j f).app _;exact m i (q 0 D);refine(h.C i a (p l) d).imp (λq j f=>?_) id;rcases f with f|rfl
 exact(q j f).app _;exact m i (q 0 D);refine(h.A i a (p l) d).imp (λq j f=>?_) id;rcases f with f|rfl
 exact(q j f).app _;exact m i (q 0 D)
def TI.O(h:TI L Shun wk live Sn stored rel B t)(ap:Ap L Sn B)(m:y.g=k/\y.act=.mark (.releaseMerge ⟨L.b,0,none⟩))(hd:Deaf t k=0)(G:rel k=none):TI L Shun wk live Sn stored (λj=>if j=k then some t.size else rel j) B (t++#[y]):=by
 have d:=h.e (y:=y) (by rw[m.2];rfl) (by rw[m.2];exact ap.h) (by rw[m.2];rfl);have c:(t++#[y])[t.size]?=some y:=by rw[kC (aa _)];simp
 refine⟨d.o,d.s,d.x,d.J,d.C,d.A,d.u,λj z i a D r E p l=>?_,d.y,d.w,λj p l=>?_,d.b⟩;by_cases f:j=k;subst f;rw[az rfl]at l;cases l;rcases iF r with q|⟨_,F,_,n,v⟩
 exact .inl q.1;have:F=y:=by simpa using n
 rw[this,m.2]at v;cases v;rw[ax f]at l;exact d.V j z i a D r E p l;by_cases f:j=k;subst f;rw[az rfl]at l;cases l;exact⟨by rw[act?_of c,m.2],by simp[Trace.g?,c,m.1],⟨j,by simp[Trace.g?,c,m.1],by rw[deaf_old (aa _)];exact hd⟩⟩;rw[ax f]at l;exact d.h j p l
def TI.I(h:TI L Shun wk live Sn stored rel B t)(ap:Ap L Sn B)(d:y.g=0/\y.act=.mark (.acquire ⟨L.b,0,none⟩))(hd:Deaf t 0=0)(A:∀k i,wk k->t.g? i=some k->∃p,rel k=some p):Past (λl=>Shun l\/jo (· = L.b) l) B (t++#[y]):=by
 have j:=h.e (y:=y) (by rw[d.2];rfl) (by rw[d.2];exact ap.h) (by rw[d.2];rfl);have c:(t++#[y])[t.size]?=some y:=by rw[kC (aa _)];simp
 have C:∀k p,rel k=some p->p<t.size/\HappensBefore (t++#[y]) p t.size:=λk p s=>by
  let ⟨O,N,r3⟩:=j.h k p s
  have r:p<t.size:=lt_of_act? (h.h k p s).1;refine⟨r,.single (.inr ⟨.marked (a:=(aA L.b 0)) r (.inr O) (by rw[act?_of c,d.2]) (λk Q R q=>?_),r3,(⟨0,by simp[Trace.g?,c,d.1],by rw[deaf_old (aa _)];exact hd⟩)⟩)⟩;let ⟨m,G,H⟩:=bV.1 q
  have E:=j.b m (dU G);rw[H]at E;cases E
 have D:∀i k a,wk k->(t++#[y]).g? i=some k->touchAt (t++#[y]) i=some a->a.loc.isMemory=true->HappensBefore (t++#[y]) i t.size\/(a.kind=.atomic/\jo (· = L.b) a.loc/\¬(t++#[y]).heard i):=λi k a n f v z=>by
  rcases iF v with q|⟨_,m,_,J,F⟩
  let ⟨p,s⟩:=A k i n (by rw[<-g?_old q.1];exact f)
  let ⟨r,P⟩:=C k p s
  rcases j.V k n i a f v z p s with K|K
  let ⟨_,N,_⟩:=j.h k p s
  refine .inl (.trans (.single (.inl ⟨K,k,f,N⟩)) P);exact .inr K;have:m=y:=by simpa using J
  rw[this,d.2]at F;cases F
 refine⟨j.o,λi a v z=>?_,λi g f M hc=>?_,?_,j.u⟩;let ⟨m,G,_⟩:=touch_of v
 have f:(t++#[y]).g? i=some m.g:=by unfold Trace.g?;rw[G];rfl
 by_cases n:wk m.g;rcases D i m.g a n f v z with q|q
 exact .inl ⟨t.size,y,c,d.1,.inr q⟩;exact .inr ⟨.inr q.2.1,q.1⟩;exact(j.y i m.g a f n v z).imp id λx=>⟨.inl x.1,x.2⟩;by_cases n:wk g;let ⟨x,F,z,E⟩:=hc
 refine⟨t.size,by simp[Trace.g?,c,d.1],?_⟩;rcases D i g x n f F z with q|q
 exact q;exact absurd q.1 (E.elim (λe=>e) λe=>absurd e q.2.2);exact j.w i g f M n hc;have:=Deaf_push t y 0;rw[this];unfold deafStep;rw[d.2];exact hd
def TI.start{S0:Nat->Prop}(h:Past Shun B t)(r:∀l,jo S0 l->¬Shun l)(s:∀l,jo L.F l->¬Shun l)(u:∀l,jo (· = L.b) l->¬Shun l)(v:∀l,jo (· = L.e) l->¬Shun l)(w:∀l,jo (· = L.h) l->¬Shun l)(x:∀y∈t,nQ y.act=true)(z:∀i g,t.g? i=some g->¬wk g):
  TI L Shun wk (· = 0) (λk=>if k=0 then S0 else λ_=>False) (λ_=>False) (λ_=>none) B t:=by
 have j:∀{i a},touchAt t i=some a->a.loc.isMemory=true->¬Shun a.loc->Knows t 0 i:=λ{i a} d m A=>(h.known i a d m).elim id λq=>absurd q.1 A;refine⟨h.clean,λk f i a d c=>?_,λk f i a d c _=>?_,λi a d c=>.inl λk f=>?_,λi a d c=>.inl λk f=>?_,λi a d c=>.inl λk f=>?_,h.seen,(λk _ i a _ _ _ p n=>by cases n),λi g a _ _ d m=>h.known i a d m,λi g C o _ hc=>h.over i g C o hc,(λk p n=>by cases n),x⟩;subst f;rw[az rfl]at c;exact j d (pI c) (r _ c);subst f;exact j d (pI c) (s _ c);subst f;exact j d (pI c) (u _ c);subst f;exact j d (pI c) (v _ c);subst f;exact j d (pI c) (w _ c)
end Go.Eqv
