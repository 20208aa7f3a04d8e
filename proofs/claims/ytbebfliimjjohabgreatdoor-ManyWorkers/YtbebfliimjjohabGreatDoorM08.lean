/- Parts of the proof. -/
import Derived.Test.YtbebfliimjjohabGreatDoorM07
import Derived.DyingOn
import Derived.Conc.Beside
set_option maxRecDepth 100000
set_option maxHeartbeats 8000000
set_option linter.all false
open Go.Conc
namespace Go.Eqv
variable{es:Array Event}{mb:Bool}{fr:Frame}{f:FuncId}{g g1:E4}{Shun:Loc->Prop}{y:MemOp}{d n B k:Nat}{X:Nat->Bool}{Sn:Nat->Nat->Prop}{A rel:Nat->Option Nat}{S wk live stored S':Nat->Prop}{U ρ:Pm}{P:Ft}{a:Touch}{t u:Trace}{Q:Dv->Prop}{w w1 w2 w':Ba}{κ:iW}
def QO(hs:g.status=.running)(h:stepG P true g w=.go g1 w1 es):step P (oneG g w)=.next (oneG g1 w1):=by
 rw[step,stepT,move_oneG hs];by_cases q:(g1.status==GoStatus.finished)=true<;>simp[runT,oneG,Array.swapAt!,h]
def zH(hs:g.status=.running){o:Outcome}(h:stepG P true g w=.ended o w1 es):step P (oneG g w)=.ended o w1:=by
 rw[step,stepT,move_oneG hs];simp[runT,oneG,Array.swapAt!,h]
def yG:∀(n:Nat) {g:E4} {w:Ba},g.dyingOn P->∀fr a w',runN P n (oneG g w)≠.next (lone fr a w')
 |0,g,w,h,fr,a,w',e=>by
  obtain⟨_,d,c,_⟩:=h;simp only[runN,iL,oneG,lone,jt]at e;have:=e.2.1;simp at this;subst this;cases c
 |n+1,g,w,h,fr,a,w',e=>by
  rcases step_dyingOn (w:=w) h with⟨i,w1,b,f⟩|⟨o,w1,b,_⟩
  simp only[runN,b]at e;exact yG n f _ _ _ e;simp only[runN,b]at e;cases e
def AZ(a:g.status=.blocked):∀n fr b w',runN P n (oneG g w)≠.next (lone fr b w')
 |0,fr,b,w',e=>by
  simp only[runN,iL,oneG,lone,jt]at e;have:=e.2.1;simp at this;subst this;cases a
 |n+1,fr,b,w',e=>by
  let ⟨c,d,l,h,f⟩:=g
  simp only at a;subst a;let ⟨i, w2, j, m⟩ := endWith_ended w 2 (bytes "fatal error: all goroutines are asleep - deadlock!\n") (.fatal "all goroutines are asleep - deadlock!")
  have k:step P (oneG ⟨c,d,.blocked,h,f⟩ w)=.ended i w2:=by
   simp[step,stepT,move,ask,askOn,oneG,runnable_eq,due,ahead,Goroutine.canRun,wP,pure];rw[j]
  simp only[runN,k]at e;cases e
def sN(a:g.status=.waiting):∀n fr b w',runN P n (oneG g w)≠.next (lone fr b w')
 |0,fr,b,w',e=>by
  simp only[runN,iL,oneG,lone,jt]at e;have:=e.2.1;simp at this;subst this;cases a
 |n+1,fr,b,w',e=>by
  have c:step P (oneG g w)=.next (oneG g w):=by
   obtain⟨d,f,i,j,h⟩:=g;simp only at a;subst a;simp[step,stepT,move,ask,askOn,oneG,runnable_eq,due,ahead,Goroutine.canRun,wP,pure,Sem.run]
  simp only[runN,c]at e;exact sN a n _ _ _ e
def LQ.e(h:LQ g)(n:Nat){cs:List Frame}:runN P n (oneG g w)≠.next (lone fr cs w'):=by
 rcases h with⟨a,d,b,c,f⟩|⟨h|h,_⟩
 exact yG n ⟨.inl a,d,b,c,by rw[f];exact NoEnter.nil P⟩ fr cs w';exact AZ h n fr cs w';exact sN h n fr cs w'
def vM (P : Program) : Frame := { fn := P.funcs.size, tmps := #[], todo := [.call default false "fmt's door" #[]], defers := [], mode := .run, kind := .normal }
def L9(ch:List PanicEntry):∃o,step P (lone ((vM P).raise ch) [] w)=.ended o w:=by
 have h:(vM P).catches P=true:=by simp[Frame.catches,vM]
 exact ⟨.unsupported (.noEntry "a panic or Goexit out of a method that fmt calls behind a cut's door") (((vM P).raise ch).pos P), step_lone_ended (by
  have a:((vM P).raise ch).catches P=true:=h;simp[stepG,unwind,vM,Frame.raise]at a⊢;simp[a])⟩
def Bu(P:Program)(f:FuncId)(Q:Value->Prop)(g:Goroutine)(w:World):Prop:=
 nY g/\g.callers=[]/\g.frame.fn=f/\∃v t d,Q v/\g.frame.leaving P {w with tape:=t,drawn:=d} (.returned v)
def Bu.e(g:E4)(w:Ba)(s:Pu)(d:Nat)(h:Bu P f Q g w):Bu P f Q g {w with tape:=s,drawn:=d}:=h
def Uh.e(R:jE P κ X A){frA s:Frame}{Y Z:Ba}{J K:Dv}(hA:Q J)(hB:Q K)(lA:frA.leaving P Y (.returned J))(lB:s.leaving P Z (.returned K))(fA:frA.fn=f)(fB:s.fn=f):
  ∀n m (g:E4) (w:Ba),PF P κ X A g w->runN P n (oneG g w)=.next (lone frA [] Y)->runN P m (lone g.frame (g.callers++[vM P]) w)=.next (lone s [vM P] Z)->∃k,Rc P (Bu P f Q) k (kU w.tape w.drawn) g w:=by
 intro n;induction n with
 |zero=>
  intro m g w a r b;simp only[runN,iL,oneG,lone,jt]at r;obtain⟨rfl,H,_⟩:=r;simp only[xW,gr,lD]at H;subst H;exact⟨0,⟨rfl,rfl⟩,rfl,fA,J,w.tape,w.drawn,hA,lA⟩
 |succ n ih=>
  intro m g w a r b;have I:=a.e;by_cases v:LP g;exfalso;let ⟨p,H,ch,h3⟩:=v
  rw[p,cS]at b;cases m with
  |zero=>
   simp only[runN,iL,lone,jt]at b;have:=b.2.1;simp only[xW,gr,lD,Goroutine.mk.injEq]at this;have hm:=lB.1;rw[<-this,h3]at hm;cases hm
  |succ m=>
   let ⟨fn,L⟩:=R.PL g.frame.fn a.1.e.u
   have hs:=step_leave_panicked (c:=vM P) (cs:=[]) (w:=w) (fr:=g.frame) (chain:=ch) ⟨h3,H,fn,L⟩;simp only[runN,hs]at b;cases m with
   |zero=>
    simp only[runN,iL,lone,jt]at b;have:=b.2.1;simp at this
   |succ m=>
    let ⟨o,ho⟩:=L9 (P:=P) (w:=w) ch
    simp only[runN,ho]at b;cases b
  cases hst:stepG P true g w with
  |go g1 w1 es=>
   have:=rg (mb:=true) (base:=[]) R (uO (N:=w1.drawn)) a.2 (zu a.2) a.1 v;rw[hst]at this;simp only[runN,QO I.1 hst]at r;rcases this.1 with u|hd
   have p:=yY R a.2 a.1 v hst u;let ⟨ad,x⟩:=tH (t:=w.tape) (d:=w.drawn) R a.2 a.1 v hst u (λ_ _ _=>rfl) [vM P]
   have M:({w1 with tape:=w.tape,drawn:=w.drawn+(w1.drawn-w.drawn)}:Ba)=w1:=by
    have:=p.j;have:=p.e.j;let ⟨hp,tp,dr,os,ou⟩:=w1
    dsimp only at *;subst tp;rw[show w.drawn+(dr-w.drawn)=dr by omega]
   rw[M]at x;cases m with
   |zero=>
    simp only[runN,iL,lone,jt]at b;obtain⟨rfl,l,_⟩:=b;simp only[xW,gr,lD,Goroutine.mk.injEq]at l;let ⟨l,O⟩:=l
    have S:g.callers=[]:=by
     have:=cr List.length O;simp at this;exact this
    exact⟨0,I,S,l▸fB,K,w.tape,w.drawn,hB,l▸lB⟩
   |succ m=>
    let ⟨fr,cs,st,dy,of⟩:=g
    let ⟨y,z⟩:=I
    dsimp only at y z;subst y z;have T:of=none:=a.1.h;subst T;let ⟨B,C,aS,a0,U⟩:=g1
    let ⟨D,E⟩:=u
    dsimp only at D E;subst D E;have F:U=none:=p.h.h;subst F;have V:step P (lone fr (cs++[vM P]) w)=.next (lone B (C++[vM P]) w1):=step_lone_go (by
     show (stepG P true _ w).bare=_;rw[x];rfl)
    simp only[runN,V]at b;let ⟨k,hk⟩:=ih m ⟨B,C,.running,none,none⟩ w1 ⟨p.h,p.e.i⟩ r b
    let ⟨W,G⟩:=tH (t:=kU w.tape w.drawn) (d:=0) R a.2 a.1 v hst ⟨rfl,rfl⟩ (λi q _=>by show w.tape (w.drawn+(0+i)) q=_;rw[bY]) []
    simp only[ei,bY]at G;refine⟨k+1,.inr ⟨_,_,W,G,⟨rfl,rfl⟩,?_⟩⟩;have e:kU (kU w.tape w.drawn) (w1.drawn-w.drawn)=kU w1.tape w1.drawn:=by
     funext i;show w.tape (w.drawn+(w1.drawn-w.drawn+i))=w1.tape (w1.drawn+i);rw[p.j];have:=p.e.j;congr 1;omega
    show Rc P (Bu P f Q) k (kU (kU w.tape w.drawn) (w1.drawn-w.drawn)) _ _;rw[e];exact hk.e Bu.e
   exact absurd r (hd.e n)
  |ended o w1 es=>
   simp only[runN,zH I.1 hst]at r;cases r
  |_=>
   exfalso;have:=rg (mb:=true) (base:=[]) R (uO (N:=0)) a.2 (zu a.2) a.1 v;rw[hst]at this;exact this
def M2(R:jE P κ X A){args:Array Dv}(g:κ.b f=true)(a:gA κ w.heap.size args)(l:Sh κ X w)(hc:∀s,Calls P f args (qD w s) λe _=>∃v,e=.returned v/\Q v):∃T,LT P (Bu P f Q) T ⟨Frame.enter P f args .normal,[],.running,none,none⟩ w:=by
 refine Vn R Bu.e ⟨⟨oa R g a (.inl rfl),(λc h=>by cases h),rfl,rfl,rfl,rfl⟩,l⟩ λs=>?_;obtain⟨F,G,frA,⟨H,rfl,p⟩,q,r,u⟩:=hc s [];obtain⟨I,J,x,⟨K,rfl,y⟩,z,B,C⟩:=hc s [vM P];let ⟨n,D⟩:=q
 let ⟨m,E⟩:=z
 let ⟨k,o⟩:=Uh.e R p y u C r B n m ⟨Frame.enter P f args .normal,[],.running,none,none⟩ (qD w s) ⟨⟨oa R g a (.inl rfl),(λc h=>by cases h),rfl,rfl,rfl,rfl⟩,l.j s⟩ D E
 have e:kU (qD w s).tape (qD w s).drawn=s:=by funext i;show s (0+i)=s i;rw[bY]
 rw[e]at o;exact⟨k,o.e Bu.e (t:=w.tape) (d:=w.drawn)⟩
structure rM where
 F:Nat->Prop
 J:World->Prop
 M:Mark->Prop
 D:Prop
structure cF(E:rM)(S:Nat->Prop)(w w1:World):Prop where
 i:∀b,S b->w1.heap[b]?=w.heap[b]?
 s:∀b,E.F b->w1.heap[b]?=w.heap[b]?
 p:w.heap.size<=w1.heap.size
 t:w1.tape=w.tape
 u:w1.os=w.os
 o:w1.output=w.output
 h:E.J w1
def jF(S:Nat->Prop)(w w':World):Nat->Prop:=λb=>S b\/(w.heap.size<=b/\b<w'.heap.size)
def Xa(E:rM)(mb:Bool)(S:Nat->Prop)(e:Event):Prop:=match e.loc with
 |.cell a=>S a.block\/(E.F a.block/\e.write=false)
 |.obj r=>S r
 |.mark m=>m=.noRoom\/(∃f,m=.extern f)\/(E.D/\m=.disable)\/(E.D/\m=.enable)\/(mb=true/\E.M m)
 |_=>True
structure sr(E:rM)(mb:Bool)(S:Nat->Prop)(w w':World)(es:Array Event):Prop where
 h:∀b,b<w.heap.size->¬S b->w'.heap[b]?=w.heap[b]?
 i:w.heap.size<=w'.heap.size
 o:w'.tape=w.tape
 s:w'.os=w.os
 j:w'.output=w.output
 p:∀e∈es,Xa E mb (jF S w w') e
abbrev gL:=(Nat->Prop)->Nat->Goroutine->World->Prop
variable{Stop Stop':gL}
def fL(P:Program)(mb:Bool)(E:rM)(Stop:gL):Tr->gL
 |.leaf,S,d,g,w=>Stop S d g w
 |.node f,S,d,g,w=>g.status=.running/\∀w1,cF E S w w1->∃a w' es,stepG P mb g w1=.go a w' es/\sr E mb S w1 w' es/\fL P mb E Stop (f w1) (jF S w1 w') (deafBehind d es) a w'
def fC(P:Program)(mb:Bool)(E:rM)(Stop:gL):gL:=λS d g w=>∃T,fL P mb E Stop T S d g w
section
variable{E:rM}
def cF.j{E:rM}(S:Nat->Prop)(h:E.J w):cF E S w w:=⟨λ_ _=>rfl,λ_ _=>rfl,aj _,rfl,rfl,rfl,h⟩
def cF.e(h:cF E S w w1)(k:cF E S w1 w2):cF E S w w2:=
 ⟨λb a=>(k.i b a).trans (h.i b a),λb a=>(k.s b a).trans (h.s b a),aO h.p k.p,k.t.trans h.t,k.u.trans h.u,k.o.trans h.o,k.h⟩
def rtr(h:cF E S w w1)(k:cF E S w1 w2):cF E S w w2:=h.e k
def fC.h(h:Stop S d g w):fC P mb E Stop S d g w:=⟨.leaf,h⟩
def fC.H(hs:g.status=.running)(h:∀w1,cF E S w w1->∃g' w' es,stepG P mb g w1=.go g' w' es/\sr E mb S w1 w' es/\fC P mb E Stop (jF S w1 w') (deafBehind d es) g' w'):fC P mb E Stop S d g w:=by
 have a:∀w1,∃T,cF E S w w1->∃g' w' es,stepG P mb g w1=.go g' w' es/\sr E mb S w1 w' es/\fL P mb E Stop T (jF S w1 w') (deafBehind d es) g' w':=λw1=>by
  by_cases b:cF E S w w1;obtain⟨g',w',es,c,e,T,f⟩:=h w1 b;exact⟨T,λ_=>⟨g',w',es,c,e,f⟩⟩;exact⟨.leaf,λq=>absurd q b⟩
 exact⟨.node λw1=>(a w1).choose,hs,λw1 b=>(a w1).choose_spec b⟩
def fL.h(e:∀S d g w,Stop S d g w->fC P mb E Stop' S d g w):∀(T:Tr) {S:Nat->Prop} {d:Nat} {g:E4} {w:Ba},fL P mb E Stop T S d g w->fC P mb E Stop' S d g w
 |.leaf,S,d,g,w,h=>e _ _ _ _ h
 |.node f,S,d,g,w,h=>fC.H h.1 λw1 i=>by
  obtain⟨j,w',es,a,b,c⟩:=h.2 w1 i;exact⟨j,w',es,a,b,fL.h e (f w1) c⟩
def fC.Z(h:fC P mb E Stop S d g w)(a:∀S d g w,Stop S d g w->fC P mb E Stop' S d g w):fC P mb E Stop' S d g w:=by
 let ⟨T,h⟩:=h
 exact fL.h a T h
end
structure abD(U:Pm)(w w':World):Prop where
 h:∀b o,U.X b=false->w.heap[b]?=some o->w'.heap[U.f b]?=some (dR U o)
 x:∀b,U.X b=true->∃c t,w.heap[b]?=some (.pending c t)/\c.size≠0/\∃c' t',c'.size=c.size/\w'.heap[U.f b]?=some (.cells c' t' (0,0))
 e:w'.os.env=w.os.env
def EV(h:nk κ n U ρ)(y:∀b,κ.G b=true->U.f b=ρ.f b)(u:gp P κ X A n fr):i9 U fr=i9 ρ fr:=by
 let ⟨fn,a,m,o,k,t,w⟩:=fr
 have x:dx U a=dx ρ a:=by
  rw[dF,dF];apply gB;intro i;rw[b9,b9];cases q:a[i]? with
  |none=>rfl
  |some v=>
   rcases u.j i v q with x|⟨_,p,rfl,z⟩
   exact cr some (rW h v x);simp only[lN,pV,bh];rw[y _ z]
 have B:m.map (ja U)=m.map (ja ρ):=gl λi C=>by
  have:=u.p i C;cases i<;>first|rfl|exact this.elim|(simp only[ja];rw[h.2.2 _ this])
 have D:jZ U k=jZ ρ k:=by
  cases k with
  |panicking c=>
   show FrameMode.panicking (c.map (xN U))=.panicking (c.map (xN ρ));rw[gl λe E=>?_];let ⟨v,r,g⟩:=e
   show PanicEntry.mk _ r g=.mk _ r g;rw[rW h v (u.s _ E)]
  |_=>rfl
 have F:w.map U.f=w.map ρ.f:=by
  cases w with
  |none=>rfl
  |some l=>simp;rw[h.2.2 _ (u.h l rfl)]
 show Frame.mk fn (dx _ a) (m.map _) (o.map _) (jZ _ k) t (w.map _)=Frame.mk fn (dx _ a) (m.map _) (o.map _) (jZ _ k) t (w.map _);rw[x,B,(gl λd H=>Dd h (u.b d H)),D,F]
def UM(h:nk κ n U ρ)(a:∀b,κ.G b=true->U.f b=ρ.f b)(d:qu P κ X A n g)(base:List Frame):x9 U base g=x9 ρ base g:=by
 unfold x9;rw[EV h a d.e,gl λc hc=>EV h a (d.i c hc)]
structure ZZ(P:Program)(κ:iW)(X:Nat->Bool)(U:Pm)(w w':World):Prop where
 h:nu P κ X U
 j:U.pn=false
 e:abD U w w'
 y:∀b,w'.heap.size<=b->U.Y b=false
 i:∀b,b<w.heap.size->U.f b<w'.heap.size
def Dg(f:Nat->Nat)(n m b:Nat):Nat:=if b<n then f b else m+(b-n)
def UH{m:Nat}(c:∀b,b<n->U.f b<m){a b:Nat}(h:Dg U.f n m a=Dg U.f n m b):a=b:=by
 unfold Dg at h;repeat' split at h
 exact U.EH h;rename_i d e;have:=c a d;omega;rename_i d e;have:=c b e;omega;omega
def abY(U:Pm)(n m N:Nat)(a:∀b,b<n->U.f b<m)(c:∀b,U.X b=true->b<n)(d:∀b,m<=b->U.Y b=false):Pm where
 f:=Dg U.f n m
 EH:=UH a
 yy:=U.yy
 wS:=U.wS
 TZ:=U.TZ
 k:=U.k
 X:=U.X
 Y:=U.Y
 xy:=λb=>by
  unfold Dg;split
  .exact U.xy b
  .rename_i h;rw[d _ ak];cases q:U.X b with
   |false=>rfl
   |true=>exact absurd (c b q) h
 wk:=U.wk
 N:=N
 pn:=U.pn
def aad(f t:Nat)(Q:Value->Prop)(base:List Frame)(a:Nat)(_:Nat->Prop)(d:Nat)(g:Goroutine)(_:World):Prop:=
 d=a /\
 g.status=.running/\g.callers=base/\g.dying=none/\g.offers=none/\g.frame.fn=f/\g.frame.mode=.returning/\g.frame.defers=[]/\g.frame.kind=.normal/\Q (g.frame.tmps.getD t undef)
def Uv(R:jE P κ X A){E:rM}{f t:Nat}{fn:Func}{base:List Frame}(cW:P.funcs[f]?=some fn)(cp:fn.results=#[.tmp t])(hQ:∀U v,Q v->pV U v=v):
  ∀(T:Tr) (g:E4) (w:Ba),LT P (Bu P f Q) T g w->PF P κ X A g w->∀(U:Pm) (w':Ba) (S:Nat->Prop),ZZ P κ X U w w' ->
   (∀b,b<w.heap.size->X b=false->κ.G b=false->S (U.f b))->(∀b,X b=true\/κ.G b=true->E.F (U.f b))->fC P mb E (aad f t Q base d) S d (x9 U base g) w':=by
 intro T;induction T with
 |leaf=>
  intro g w h z U w' S B hS hF;apply fC.h;let ⟨hl,hc,Z,v,tp,d',hq,hm,hd,hk,ds,ad,M⟩:=h
  have bR:(x9 U base g).frame.mode=.returning:=by show jZ U g.frame.mode=_;rw[hm];rfl
  refine⟨rfl,hl.1,by show g.callers.map (i9 U)++base=base;rw[hc];rfl,hl.2,z.1.h,Z,bR,by show g.frame.defers.map (kQ U)=[];rw[hd];rfl,hk,?_⟩;rw[Z,cW]at ad;obtain rfl:=bb ad;have hv:v=g.frame.tmps.getD t undef:=by
   haveI:=vQ;unfold results at M;rw[cp,kP]at M;simp only[yq,Bs,map_pure,pure_bind]at M;cases M;rfl
  show Q ((dx U g.frame.tmps).getD t undef);rw[vP,<-hv,hQ U v hq];exact hq
 |node fT ih=>
  intro g w h z U w' S B hS hF;refine fC.H z.1.b λw1 M=>?_;let ⟨g1,w2,es,ci,W,hT⟩:=h (kU w1.tape w1.drawn)
  have h1:=z.j R ci W;have hz:=ze z.e z ci W;have cs:=M.p;have ct:∀b,b<w.heap.size->U.f b<w1.heap.size:=λb k=>aN (B.i b k) cs;have hX:∀b,U.X b=true->b<w.heap.size:=λb k=>by rw[B.h.x]at k;exact(z.2.e b k).1
  have hY:∀b,w1.heap.size<=b->U.Y b=false:=λb k=>B.y b (aO cs k);let ⟨n,hπ⟩:∃n,abY U w.heap.size w1.heap.size w2.drawn ct hX hY=n:=⟨_,rfl⟩
  have O:∀b,b<w.heap.size->n.f b=U.f b:=λb k=>by subst hπ;show Dg _ _ _ b=_;unfold Dg;rw[aH k]
  have pg:∀b,w.heap.size<=b->n.f b=w1.heap.size+(b-w.heap.size):=λb k=>by subst hπ;show Dg _ _ _ b=_;unfold Dg;rw[ay ak]
  have pX:n.X=X:=by subst hπ;exact B.h.x
  have pY:n.Y=U.Y:=by subst hπ;rfl
  have cj:n.pn=false:=by subst hπ;exact B.j
  have pN:n.N=w2.drawn:=by subst hπ;rfl
  have dt:P.globals.size<w.heap.size:=(z.2.e _ R.PM).1;have ck:nu P κ X n:=⟨by subst hπ;exact B.h.h,pX,by subst hπ;exact B.h.j,λb k=>by rw[O b ak];exact B.h.i b k⟩

  have aS:∀b,κ.G b=true->b<w.heap.size:=λb k=>z.2.H b k;have cv:nk κ w.heap.size n U:=⟨ck.h,B.h.h,λb k=>O b k.1⟩;have a0:∀b,κ.G b=true->n.f b=U.f b:=λb k=>O b (aS b k);have dd:∀b,b<w.heap.size->X b=false->S (U.f b)\/E.F (U.f b):=λb k l=>by
   cases I:κ.G b with
   |true=>exact .inr (hF b (.inr I))
   |false=>exact .inl (hS b k l I)
  have J:∀b,b<w.heap.size->w1.heap[U.f b]?=w'.heap[U.f b]?:=λb k=>by
   cases l:X b with
   |true=>exact M.s _ (hF b (.inl l))
   |false=>
    rcases dd b k l with q|q
    exact M.i _ q;exact M.s _ q
  have a1:tu n (qD w (kU w1.tape w1.drawn)) w1:=by
   refine⟨λb o l ho=>?_,λb l=>?_,λb k=>?_,λi q _=>?_,?_⟩;have k:b<w.heap.size:=gu (w:=w) ho;rw[pX]at l;rw[O b k,J b k,B.e.h b o (B.h.x▸l) ho,UZ cv (z.2.h b o l ho)];rw[pX]at l;let ⟨c,t,h1,h2,c',t',h3,h4⟩:=B.e.x b (B.h.x▸l)
   have k:=(z.2.e b l).1;exact⟨c,t,h1,h2,c',t',h3,.inr (by rw[O b k,J b k];exact h4)⟩;rw[pg b k];omega;show w1.tape (w1.drawn+i) q=w1.tape (w1.drawn+(0+i)) q;rw[bY];rw[M.u];exact B.e.e
  have bm:=rg (mb:=mb) (base:=base) R ck (z.2.j _) a1 z.1 hz;rw[ci]at bm;let ⟨dv,hk⟩:=bm.2 W.1 W.2
  let ⟨f1,f2,C,cl,q,he,V⟩:=hk ⟨λb k _=>pg b k,by rw[pN];exact aj _⟩
  rw[UM cv a0 z.1]at q;have dy:C.heap.size=w1.heap.size+(w2.heap.size-w.heap.size):=V.j;have dz:w.heap.size<=w2.heap.size:=V.o;have cw:∀e∈cl,Xa E mb (jF S w1 C) e/\e.loc≠.mark .disable/\e.loc≠.mark .enable:=by
   intro e cA;have df:xa n e=true:=he.b cj e cA;have:e∈cl.filter (xa n):=Array.mem_filter.2 ⟨cA,df⟩;rw[he.h]at this;obtain⟨e0,h0,rfl⟩:=Array.mem_map.1 this;let ⟨h0,cm⟩:=Array.mem_filter.1 h0
   have co:BQ X e0=true:=by unfold tG at cm;unfold BQ;rw[pX]at cm;exact cm
   have own:∀b,fU κ w2.heap.size b->X b=false->jF S w1 C (n.f b):=λb k l=>by
    rcases bX b w.heap.size with bO|dk
    rw[O b bO];exact .inl (hS b bO l k.2);rw[pg b dk];have:=k.1;exact .inr ⟨ak,ak⟩
   rcases f2.o e0 h0 co with K|⟨a,hl,hw,I⟩
   let ⟨cB,wr,sy⟩:=e0
   cases cB with
   |cell a=>exact⟨.inl (own a.block K (by simpa[BQ] using co)),by simp[sL,lU],by simp[sL,lU]⟩
   |obj r=>exact⟨own r K (by simpa[BQ] using co),by simp[sL,lU],by simp[sL,lU]⟩
   |mark m=>
    rcases K with rfl|⟨f',rfl⟩
    exact⟨.inl rfl,by simp[sL,lU,uK],by simp[sL,lU,uK]⟩;exact⟨.inr (.inl ⟨_,rfl⟩),by simp[sL,lU,uK],by simp[sL,lU,uK]⟩
   |output=>exact⟨aB,by simp[sL,lU],by simp[sL,lU]⟩
   |goroutines=>exact⟨aB,by simp[sL,lU],by simp[sL,lU]⟩
   let ⟨cB,wr,sy⟩:=e0
   dsimp only at hl hw;subst hl hw;exact⟨.inr ⟨by show E.F (n.f a.block);rw[a0 _ I];exact hF _ (.inr I),rfl⟩,by simp[sL,lU],by simp[sL,lU]⟩
  refine⟨_,C,cl,q,⟨λb k dm=>?_,ak,V.t,V.s,V.p,λe he=>(cw e he).1⟩,?_⟩;by_cases cG:∃b0,b0<w.heap.size/\X b0=false/\n.f b0=b;obtain⟨b0,L,D,rfl⟩:=cG;have I:κ.G b0=true:=by
   cases I:κ.G b0 with
   |true=>rfl
   |false=>exact absurd (by rw[O b0 L];exact hS b0 L D I) dm
  let ⟨o,ho⟩:∃o,w.heap[b0]?=some o:=⟨_,aW L⟩
  have e1:=a1.e b0 o (pX▸D) ho;have e2:=V.h.e b0 o (pX▸D) (by rw[f2.g b0 I];exact ho);rw[e1,e2];exact V.i b k λb0 L D dn=>cG ⟨b0,L,by rw[pX]at D;exact D,dn⟩;rw[Conc.deafBehind_still λe he=>(cw e he).2];refine ih _ g1 w2 hT ⟨h1.h,h1.e.i⟩ n C (jF S w1 C) ⟨ck,cj,⟨λb o l ho=>V.h.e b o l ho,λb l=>?_,?_⟩,λb k=>by rw[pY];exact hY b ak,λb k=>?_⟩ (λb k l I=>?_) (λb k=>?_);let ⟨c,t,h1,h2,c',t',h3,h4⟩:=V.h.x b l
  rcases h4 with⟨h4,_⟩|h4
  rw[cj]at h4;cases h4;exact⟨c,t,h1,h2,c',t',h3,h4⟩;exact V.h.j;rcases bX b w.heap.size with q|q
  rw[O b q];have:=ct b q;omega;rw[pg b q];omega;rcases bX b w.heap.size with q|q
  rw[O b q];exact .inl (hS b q l I);rw[pg b q];exact .inr ⟨ak,ak⟩;have dr:b<w.heap.size:=by
   rcases k with q|q
   exact(z.2.e b q).1;exact aS b q
  rw[O b dr];exact hF b k
def iO(S:Nat->Prop):Loc->Prop
 |.cell a=>S a.block
 |.obj r=>S r
 |_=>False
def iO.h(h:∀b,S b->S' b):∀{l:Loc},iO S l->iO S' l
 |.cell _,x=>h _ x
 |.obj _,x=>h _ x
def iO.e{h:∀b,S b->S' b->False}:∀{l:Loc},iO S l->iO S' l->False
 |.cell _,x,y=>h _ x y
 |.obj _,x,y=>h _ x y
def mP:MemAct->Bool
 |.mark (.release _)=>false
 |_=>true
structure Zy where
 b:Nat
 e:Nat
 h:Nat
 F:Nat->Prop
variable{L:Zy}
structure Ap(L:Zy)(Sn:Nat->Nat->Prop)(B:Nat):Prop where
 p:∀k b,Sn k b->b<B
 s:∀k b,Sn k b->¬L.F b
 x:∀k,¬Sn k L.b
 w:∀k,¬Sn k L.e
 u:∀k,¬Sn k L.h
 two:∀j k b,Sn j b->Sn k b->j=k
 I:¬L.F L.b
 H:¬L.F L.e
 C:¬L.F L.h
 t:L.b≠L.e
 y:L.b≠L.h
 A:L.e≠L.h
 o:∀b,L.F b->b<B
 h:L.b<B
 e:L.e<B
 i:L.h<B
structure TI(L:Zy)(Shun:Loc->Prop)(wk live:Nat->Prop)(Sn:Nat->Nat->Prop)(stored:Nat->Prop)(rel:Nat->Option Nat)(B:Nat)(t:Trace):Prop where
 o:∀said,¬Race said t
 s:∀k,live k->∀i a,touchAt t i=some a->iO (Sn k) a.loc->Knows t k i
 x:∀k,live k->∀i a,touchAt t i=some a->iO L.F a.loc->a.write=true->Knows t k i
 J:∀i a,touchAt t i=some a->iO (· = L.b) a.loc->(∀k,live k->Knows t k i)\/a.kind=.atomic\/(a.kind=.said/\Knows t 0 i)
 C:∀i a,touchAt t i=some a->iO (· = L.e) a.loc->(∀k,live k->Knows t k i)\/a.kind=.atomic
 A:∀i a,touchAt t i=some a->iO (· = L.h) a.loc->(∀k,live k->Knows t k i)\/∃p,a.loc=.cell ⟨L.h,p,none⟩/\stored p
 u:∀op∈t,op.act.low B
 V:∀k,wk k->∀i a,t.g? i=some k->touchAt t i=some a->a.loc.isMemory=true->∀p,rel k=some p->i<p\/(a.kind=.atomic/\iO (· = L.b) a.loc/\¬t.heard i)
 y:∀i g a,t.g? i=some g->¬wk g->touchAt t i=some a->a.loc.isMemory=true->Knows t 0 i\/(Shun a.loc/\a.kind=.atomic)
 w:∀i g,t.g? i=some g->g≠0->¬wk g->t.counts i->∃j,t.g? j=some 0/\HappensBefore t i j
 h:∀k p,rel k=some p->t.act? p=some (.mark (.releaseMerge ⟨L.b,0,none⟩))/\t.g? p=some k/\t.heard p
 b:∀op∈t,mP op.act=true
def Al(L:Zy)(S:Nat->Prop)(B:Nat)(k:Nat)(nw:Nat->Prop)(x:Touch):Prop:=
 iO S x.loc\/iO (B<=·) x.loc\/(iO L.F x.loc/\x.write=false)\/(iO (· = L.b) x.loc/\(x.kind=.atomic\/(x.kind=.said/\k=0)))\/(iO (· = L.e) x.loc/\x.kind=.atomic)\/∃p,x.loc=.cell ⟨L.h,p,none⟩/\nw p
def gX{i:Nat}(h:touchAt (t++u) i=some a):(i<t.size/\touchAt t i=some a)\/(t.size<=i/\∃c,(t++u)[i]?=some c/\c∈u/\c.act.touch?=some a):=by
 obtain⟨x,g,b⟩:=touch_of h;rcases getElem?_append_cases g with⟨d,e⟩|⟨d,f⟩
 exact .inl ⟨d,by rw[touchAt_of e];exact b⟩;exact .inr ⟨d,x,g,f,b⟩
def BR{b:MemOp}(h:b.act.touch?=some a)(i:b.act.low B):¬iO (B<=·) a.loc:=by
 let ⟨g,fn,f,c⟩:=b
 cases c with
 |access e=>
  simp only[MemAct.touch?,ba]at h;subst h;let ⟨d,j,k⟩:=e
  cases d<;>simp_all [iO,MemAct.low,Loc.low]
 |mark m=>cases m<;>simp_all [MemAct.touch?,iO,MemAct.low]<;>(subst h;simp_all [iO])
 |_=>simp[MemAct.touch?]at h
def om{l:Loc}(h:iO S l):l.isMemory=true:=by cases l<;>first|rfl|exact h.elim
def TI.j(h:TI L Shun wk live Sn stored rel B t)(ap:Ap L Sn B){B':Nat}{nw:Nat->Prop}(M:live k)(X:∀f∈u,f.g=k)(aS:∀f∈u,∀x,f.act.touch?=some x->x.loc.isMemory=true->Al L (Sn k) B k nw x)(cj:∀p,nw p->¬stored p)(hS:∀b,S' b->Sn k b\/B<=b)(cp:∀b,Sn k b->S' b)(hB:B<=B')(a0:∀f∈u,f.act.low B')(a1:wk k->∀p,rel k=some p->∀(i:Nat) f,(t++u)[i]?=some f->t.size<=i->∀x,f.act.touch?=some x->x.loc.isMemory=true->x.kind=.atomic/\iO (· = L.b) x.loc/\¬(t++u).heard i)(ck:∀f∈u,mP f.act=true)(h0:k≠0->wk k):TI L Shun wk live (λj=>if j=k then S' else Sn j) (λp=>stored p\/nw p) rel B' (t++u):=by
 have N:∀{i a},touchAt t i=some a->¬iO (B<=·) a.loc:=λ{i a} n=>by
  obtain⟨f,r,cl⟩:=touch_of n;exact BR cl (h.u f (dK r))
 have O:∀f∈u,∀x,f.act.touch?=some x->∀{S:Nat->Prop},iO S x.loc->(∀b,S b->b<B)->(∀b,Sn k b->¬S b)->(iO L.F x.loc/\x.write=false)\/(iO (· = L.b) x.loc/\(x.kind=.atomic\/(x.kind=.said/\k=0)))\/(iO (· = L.e) x.loc/\x.kind=.atomic)\/∃p,x.loc=.cell (aA L.h p)/\nw p:=by
  intro f r x v S d E G;rcases aS f r x v (om d) with q|q|q
  exact(iO.e (h:=λb a c=>G b a c) q d).elim;exact(iO.e (h:=λb a c=>by have:=E b c;omega) q d).elim;exact q
 refine⟨λbm=>?_,λj P i a n d=>?_,λj P i a n d Q=>?_,λi a n d=>?_,λi a n d=>?_,λi a n d=>?_,λf r=>?_,λj P i a K n W p hp=>?_,λi g a K Y n W=>?_,λi g K bO Y hc=>?_,λj p hp=>?_,λf r=>?_⟩
 ·
  refine noRace_append (h.o bm) X λi a n f r b hb hc=>?_;obtain⟨R,W,Q,D⟩:=hc;rcases aS f r b hb (R▸W) with q|q|⟨q,qw⟩|⟨q,qk⟩|⟨q,qk⟩|⟨p,q,qn⟩
  exact h.s k M i a n (R▸q);exact(N n (R▸q)).elim;refine h.x k M i a n (R▸q) ?_;rcases Q with Q|Q
  exact Q;rw[qw]at Q;cases Q;rcases h.J i a n (R▸q) with e|e|⟨e,kn⟩
  exact e k M;rw[e]at D;rcases qk with U|⟨U,_⟩<;>rw[U]at D<;>rcases D with x|x|⟨_,x,_⟩<;>cases x
  rcases qk with U|⟨U,rfl⟩
  rw[e,U]at D;rcases D with x|x|⟨_,_,x⟩<;>cases x
  exact kn;rcases h.C i a n (R▸q) with e|e
  exact e k M;rw[e,qk]at D;rcases D with x|x|⟨_,x,_⟩<;>cases x
  rcases h.A i a n (by rw[R,q];rfl) with e|⟨p',e1,U⟩
  exact e k M;rw[R,q]at e1;simp only[Loc.cell.injEq,jY,true_and,lD]at e1;subst e1;exact(cj p qn U).elim
 ·
  by_cases Z:j=k;subst Z;rw[aH rfl]at d;rcases gX n with⟨_,m⟩|⟨_,f,r,l,_⟩
  refine(h.s j P i a m ?_).app u;have:=N m;cases R:a.loc<;>rw[R]at d this<;>first|exact d.elim|exact(hS _ d).elim id λq=>(this q).elim
  have:=knows_own r;rwa [X f l]at this;rw[ay Z]at d;rcases gX n with⟨_,m⟩|⟨_,f,r,l,v⟩
  exact(h.s j P i a m d).app u;exfalso;rcases O f l a v d (λb hb=>ap.p j b hb) (λb E G=>Z (ap.two _ _ b G E)) with⟨q,_⟩|⟨q,_⟩|⟨q,_⟩|⟨p,q,_⟩
  exact iO.e (h:=λb a c=>ap.s j b c a) q d;exact iO.e (h:=λb a c=>by subst a;exact ap.x j c) q d;exact iO.e (h:=λb a c=>by subst a;exact ap.w j c) q d;rw[q]at d;exact ap.u j d
 ·
  rcases gX n with⟨_,m⟩|⟨_,f,r,l,v⟩
  exact(h.x j P i a m d Q).app u;exfalso;rcases O f l a v d ap.o (λb E G=>ap.s k b E G) with⟨_,q⟩|⟨q,_⟩|⟨q,_⟩|⟨p,q,_⟩
  rw[q]at Q;cases Q;exact iO.e (h:=λb a c=>by subst a;exact ap.I c) q d;exact iO.e (h:=λb a c=>by subst a;exact ap.H c) q d;rw[q]at d;exact ap.C d
 ·
  rcases gX n with⟨_,m⟩|⟨_,f,r,l,v⟩
  exact(h.J i a m d).imp (λx k M=>(x k M).app u) λx=>x.imp id λx=>⟨x.1,x.2.app u⟩;rcases O f l a v d (λb e=>by subst e;exact ap.h) (λb E G=>by subst G;exact ap.x k E) with⟨q,_⟩|⟨_,q⟩|⟨q,_⟩|⟨p,q,_⟩
  exact(iO.e (h:=λb a c=>by subst c;exact ap.I a) q d).elim;refine .inr (q.imp id λx=>⟨x.1,?_⟩);have:=knows_own r;rwa [X f l,x.2]at this;exact(iO.e (h:=λb a c=>by subst a;exact ap.t c.symm) q d).elim;rw[q]at d;exact(ap.y d.symm).elim
 ·
  rcases gX n with⟨_,m⟩|⟨_,f,r,l,v⟩
  exact(h.C i a m d).imp (λx k M=>(x k M).app u) id;rcases O f l a v d (λb e=>by subst e;exact ap.e) (λb E G=>by subst G;exact ap.w k E) with⟨q,_⟩|⟨q,_⟩|⟨_,q⟩|⟨p,q,_⟩
  exact(iO.e (h:=λb a c=>by subst c;exact ap.H a) q d).elim;exact(iO.e (h:=λb a c=>by subst a;exact ap.t c) q d).elim;exact .inr q;rw[q]at d;exact(ap.A d.symm).elim
 ·
  rcases gX n with⟨_,m⟩|⟨_,f,r,l,v⟩
  rcases h.A i a m d with e|⟨p,e1,U⟩
  exact .inl λk M=>(e k M).app u;exact .inr ⟨p,e1,.inl U⟩;rcases O f l a v d (λb e=>by subst e;exact ap.i) (λb E G=>by subst G;exact ap.u k E) with⟨q,_⟩|⟨q,_⟩|⟨q,_⟩|⟨p,q,Y⟩
  exact(iO.e (h:=λb a c=>by subst c;exact ap.C a) q d).elim;exact(iO.e (h:=λb a c=>by subst a;exact ap.y c) q d).elim;exact(iO.e (h:=λb a c=>by subst a;exact ap.A c) q d).elim;exact .inr ⟨p,q,.inr Y⟩
 exact(cE.1 r).elim (λq=>MemAct.low_mono hB (h.u f q)) (a0 f)
 ·
  rcases gX n with⟨T,m⟩|⟨T,f,r,l,v⟩
  rw[g?_old T]at K;refine(h.V j P i a K m W p hp).imp id λx=>⟨x.1,x.2.1,λq=>x.2.2 ((heard_old T).1 q)⟩;have:j=k:=by
   simp only[Trace.g?,r,lN,ba]at K;rw[<-K,X f l]
  subst this;exact .inr (a1 P p hp i f r T a v W)
 ·
  rcases gX n with⟨T,m⟩|⟨T,f,r,l,v⟩
  rw[g?_old T]at K;exact(h.y i g a K Y m W).imp (·.app u) id;have e:g=k:=by
   simp only[Trace.g?,r,lN,ba]at K;rw[<-K,X f l]
  subst e;have e0:g=0:=cK λq=>Y (h0 q);have:=knows_own r;rw[X f l,e0]at this;exact .inl this
 ·
  obtain⟨x,v,W,_⟩:=hc;obtain⟨f,bR,cs⟩:=touch_of v;rcases getElem?_append_cases bR with⟨T,co⟩|⟨_,ci⟩
  obtain⟨j,P,hb⟩:=h.w i g (by rw[<-g?_old T];exact K) bO Y ((counts_old T).1 ⟨x,v,W,‹_›⟩);have cm:j<t.size:=by
   unfold Trace.g? at P;obtain⟨z,hz,_⟩:=bS.1 P;exact lt_size_of_getElem? hz
  exact⟨j,by rw[g?_old cm];exact P,hb_app u hb⟩;exfalso;have e:g=k:=by
   simp only[Trace.g?,bR,lN,ba]at K;rw[<-K,X f ci]
  subst e;exact Y (h0 bO)
 obtain⟨E,G,h3⟩:=h.h j p hp;have ad:=lt_of_act? E;exact⟨by rw[act?_old ad];exact E,by rw[g?_old ad];exact G,(heard_old ad).2 h3⟩;exact(cE.1 r).elim (h.b f) (ck f)
def TI.Z(h:TI L Shun wk live Sn stored rel B t){g:Nat}(l:∀d∈u,d.g=g)(S:∀d∈u,d.act.touch?=none)(E:∀d∈u,d.act.low B)(M:∀d∈u,mP d.act=true):TI L Shun wk live Sn stored rel B (t++u):=by
 have e:∀{i a},touchAt (t++u) i=some a->i<t.size/\touchAt t i=some a:=λ{i a} f=>by
  rcases gX f with q|⟨_,d,_,N,F⟩
  exact q;rw[S d N]at F;cases F
 refine⟨λG=>noRace_append (h.o G) l λi a _ d H b K _=>(by rw[S d H]at K;cases K),λj m i a f c=>(h.s j m i a (e f).2 c).app u,λj m i a f c U=>(h.x j m i a (e f).2 c U).app u,
  λi a f c=>(h.J i a (e f).2 c).imp (λx k n=>(x k n).app u) λx=>x.imp id λx=>⟨x.1,x.2.app u⟩,λi a f c=>(h.C i a (e f).2 c).imp (λx k n=>(x k n).app u) id,λi a f c=>(h.A i a (e f).2 c).imp (λx k n=>(x k n).app u) id,
  λd H=>(cE.1 H).elim (h.u d) (E d),λj m i a l f I p O=>?_,λi g a l P f I=>?_,λi g l Q P hc=>?_,λj p O=>?_,λd H=>(cE.1 H).elim (h.b d) (M d)⟩
 let ⟨r,v⟩:=e f
 rw[g?_old r]at l;exact(h.V j m i a l v I p O).imp id λx=>⟨x.1,x.2.1,λq=>x.2.2 ((heard_old r).1 q)⟩;let ⟨r,v⟩:=e f
 rw[g?_old r]at l;exact(h.y i g a l P v I).imp (·.app u) id;let ⟨x,F,I,n⟩:=hc
 let ⟨r,_⟩:=e F
 let ⟨j,m,K⟩:=h.w i g (by rw[<-g?_old r];exact l) Q P ((counts_old r).1 ⟨x,F,I,n⟩)
 have R:j<t.size:=by
  unfold Trace.g? at m;let ⟨z,W,_⟩:=bS.1 m
  exact lt_size_of_getElem? W
 exact⟨j,by rw[g?_old R];exact m,hb_app u K⟩;let ⟨T,X,Y⟩:=h.h j p O
 have D:=lt_of_act? T;exact⟨by rw[act?_old D];exact T,by rw[g?_old D];exact X,(heard_old D).2 Y⟩
def TI.e(h:TI L Shun wk live Sn stored rel B t)(f:y.act.touch?=none)(c:y.act.low B)(d:mP y.act=true):TI L Shun wk live Sn stored rel B (t++#[y]):=
 have one:∀a∈(#[y]:Trace),a=y:=λa b=>dD b;h.Z (g:=y.g) (λa b=>by rw[one a b]) (λa b=>by rw[one a b];exact f) (λa b=>by rw[one a b];exact c) (λa b=>by rw[one a b];exact d)
def TI.ab(h:TI L Shun wk live Sn stored rel B t){x:MemOp}{c:Nat}{S1 S2:Nat->Prop}(v:x.g=0/\x.act=.go c)(z:y.g=c/\y.act=.start)(h0:Deaf t 0=0)(hc:Deaf t c=0)(D:live 0)(H:∀b,S1 b->Sn 0 b)(I:∀b,S2 b->Sn 0 b):
  TI L Shun wk (λk=>live k\/k=c) (λk=>if k=c then S2 else if k=0 then S1 else Sn k) stored rel B (t++#[x,y]):=by
 have m:∀i,Knows t 0 i->Knows (t++#[x,y]) c i:=λi O=>ConcN.fork_knows v z h0 hc O;have P:t++#[x,y]=(t++#[x])++#[y]:=by apply vE;simp
 have n:=(h.e (y:=x) (v.2▸rfl) (by rw[v.2];trivial) (v.2▸rfl)).e (y:=y) (z.2▸rfl) (by rw[z.2];trivial) (z.2▸rfl);rw[<-P]at n;have p:∀{i a},touchAt (t++#[x,y]) i=some a->touchAt t i=some a:=λ{i a} l=>by
  rcases gX l with q|⟨_,M,_,K,G⟩
  exact q.2;rcases(by simpa using K:M=x\/M=y) with rfl|rfl
  rw[v.2]at G;cases G;rw[z.2]at G;cases G
 refine⟨n.o,λj f i a l d=>?_,λj f i a l d N=>?_,λi a l d=>?_,λi a l d=>?_,λi a l d=>?_,n.u,n.V,n.y,n.w,n.h,n.b⟩;by_cases r:j=c;subst r;rw[aH rfl]at d;exact m i (h.s 0 D i a (p l) (iO.h I d));rw[ay r]at d;have E:live j:=f.elim id λq=>absurd q r;by_cases F:j=0;subst F;rw[aH rfl]at d;exact n.s 0 E i a l (iO.h H d);rw[ay F]at d;exact n.s j E i a l d;rcases f with f|rfl
 exact n.x j f i a l d N;exact m i (h.x 0 D i a (p l) d N);refine(h.J i a (p l) d).imp (λq j f=>?_) λq=>q.imp id λq=>⟨q.1,q.2.app _⟩;rcases f with f|rfl
 exact(q j f).app _;exact m i (q 0 D);refine(h.C i a (p l) d).imp (λq j f=>?_) id;rcases f with f|rfl
 exact(q j f).app _;exact m i (q 0 D);refine(h.A i a (p l) d).imp (λq j f=>?_) id;rcases f with f|rfl
 exact(q j f).app _;exact m i (q 0 D)
def TI.O(h:TI L Shun wk live Sn stored rel B t)(ap:Ap L Sn B)(m:y.g=k/\y.act=.mark (.releaseMerge ⟨L.b,0,none⟩))(z:Deaf t k=0)(H:rel k=none):TI L Shun wk live Sn stored (λj=>if j=k then some t.size else rel j) B (t++#[y]):=by
 have d:=h.e (y:=y) (m.2▸rfl) (m.2▸ap.h) (m.2▸rfl);have c:(t++#[y])[t.size]?=some y:=by rw[jS (aj _)];simp
 refine⟨d.o,d.s,d.x,d.J,d.C,d.A,d.u,λj D i a E r F p l=>?_,d.y,d.w,λj p l=>?_,d.b⟩;by_cases f:j=k;subst f;rw[aH rfl]at l;cases l;rcases gX r with q|⟨_,G,_,n,v⟩
 exact .inl q.1;have:G=y:=dD n;rw[this,m.2]at v;cases v;rw[ay f]at l;exact d.V j D i a E r F p l;by_cases f:j=k;subst f;rw[aH rfl]at l;cases l;exact⟨by rw[act?_of c,m.2],by simp[Trace.g?,c,m.1],⟨j,by simp[Trace.g?,c,m.1],by rw[deaf_old (aj _)];exact z⟩⟩;rw[ay f]at l;exact d.h j p l
def TI.I(h:TI L Shun wk live Sn stored rel B t)(ap:Ap L Sn B)(d:y.g=0/\y.act=.mark (.acquire ⟨L.b,0,none⟩))(N:Deaf t 0=0)(A:∀k i,wk k->t.g? i=some k->∃p,rel k=some p):Past (λl=>Shun l\/iO (· = L.b) l) B (t++#[y]):=by
 have j:=h.e (y:=y) (d.2▸rfl) (d.2▸ap.h) (d.2▸rfl);have c:(t++#[y])[t.size]?=some y:=by rw[jS (aj _)];simp
 have C:∀k p,rel k=some p->p<t.size/\HappensBefore (t++#[y]) p t.size:=λk p s=>by
  let ⟨P,O,r3⟩:=j.h k p s
  have r:p<t.size:=lt_of_act? (h.h k p s).1;refine⟨r,.single (.inr ⟨.marked (a:=(aA L.b 0)) r (.inr P) (by rw[act?_of c,d.2]) (λk R S q=>?_),r3,(⟨0,by simp[Trace.g?,c,d.1],by rw[deaf_old (aj _)];exact N⟩)⟩)⟩;let ⟨m,G,H⟩:=bS.1 q
  have E:=j.b m (dK G);rw[H]at E;cases E
 have D:∀i k a,wk k->(t++#[y]).g? i=some k->touchAt (t++#[y]) i=some a->a.loc.isMemory=true->HappensBefore (t++#[y]) i t.size\/(a.kind=.atomic/\iO (· = L.b) a.loc/\¬(t++#[y]).heard i):=λi k a n f v z=>by
  rcases gX v with q|⟨_,m,_,J,F⟩
  let ⟨p,s⟩:=A k i n (by rw[<-g?_old q.1];exact f)
  let ⟨r,Q⟩:=C k p s
  rcases j.V k n i a f v z p s with K|K
  let ⟨_,O,_⟩:=j.h k p s
  refine .inl (.trans (.single (.inl ⟨K,k,f,O⟩)) Q);exact .inr K;have:m=y:=dD J;rw[this,d.2]at F;cases F
 refine⟨j.o,λi a v z=>?_,λi g f M hc=>?_,?_,j.u⟩;let ⟨m,G,_⟩:=touch_of v
 have f:(t++#[y]).g? i=some m.g:=by unfold Trace.g?;rw[G];rfl
 by_cases n:wk m.g;rcases D i m.g a n f v z with q|q
 exact .inl ⟨t.size,y,c,d.1,.inr q⟩;exact .inr ⟨.inr q.2.1,q.1⟩;exact(j.y i m.g a f n v z).imp id λx=>⟨.inl x.1,x.2⟩;by_cases n:wk g;let ⟨x,F,z,E⟩:=hc
 refine⟨t.size,by simp[Trace.g?,c,d.1],?_⟩;rcases D i g x n f F z with q|q
 exact q;exact absurd q.1 (E.elim (λe=>e) λe=>absurd e q.2.2);exact j.w i g f M n hc;have:=Deaf_push t y 0;rw[this];unfold deafStep;rw[d.2];exact N
def TI.start{S0:Nat->Prop}(h:Past Shun B t)(r:∀l,iO S0 l->¬Shun l)(hF:∀l,iO L.F l->¬Shun l)(s:∀l,iO (· = L.b) l->¬Shun l)(u:∀l,iO (· = L.e) l->¬Shun l)(v:∀l,iO (· = L.h) l->¬Shun l)(w:∀x∈t,mP x.act=true)(y:∀i g,t.g? i=some g->¬wk g):
  TI L Shun wk (· = 0) (λk=>if k=0 then S0 else λ_=>False) (λ_=>False) (λ_=>none) B t:=by
 have j:∀{i a},touchAt t i=some a->a.loc.isMemory=true->¬Shun a.loc->Knows t 0 i:=λ{i a} d m z=>(h.known i a d m).elim id λq=>absurd q.1 z;refine⟨h.clean,λk f i a d c=>?_,λk f i a d c _=>?_,λi a d c=>.inl λk f=>?_,λi a d c=>.inl λk f=>?_,λi a d c=>.inl λk f=>?_,h.seen,(λk _ i a _ _ _ p n=>by cases n),λi g a _ _ d m=>h.known i a d m,λi g A o _ hc=>h.over i g A o hc,(λk p n=>by cases n),w⟩;subst f;rw[aH rfl]at c;exact j d (om c) (r _ c);subst f;exact j d (om c) (hF _ c);subst f;exact j d (om c) (s _ c);subst f;exact j d (om c) (u _ c);subst f;exact j d (om c) (v _ c)
end Go.Eqv
