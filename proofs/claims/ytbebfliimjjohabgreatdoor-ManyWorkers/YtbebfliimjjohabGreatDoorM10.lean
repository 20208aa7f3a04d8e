/- Parts of the proof. -/
import Derived.Test.YtbebfliimjjohabGreatDoorM09
set_option maxRecDepth 100000
set_option maxHeartbeats 8000000
set_option linter.all false
open Go.Conc
open Go.ConcR (KK wgBlock WgAt stA smA rd wr mk)
open Go.ConcN (sumTo sumTo_congr)
namespace Go.Eqv
variable{ad:Addr}{es:Array Event}{gs gs':Array E4}{buf:Array Dv}{cl tm:Bool}{a g g' g0:E4}{st sm:Int}{Shun:Loc->Prop}{x x':MTag}{i n p b m c cap s r B:Nat}{dn:Nat->Nat}{Sn:Nat->Nat->Prop}{rel rel':Nat->Option Nat}{stored stored':Nat->Prop}{Tm:Nat->Tr}{tg:Nat->WTag}{wn:Nat->Ba}{sl:Option (Nat×Nat)}{T:Tr}{t u:Trace}{y:WTag}{w w2:Ba}{C:dQ}{Anc AncW Fin:gL}
section
variable{v:Dv}
def gm.ae(l:gm C x tg stored rel n w)(k:C.dT<=i)(M:i<n)(g:∀j,j≠i->rel' j=rel j)(G:(y.e<=5->∃p,rel' i=some p)/\(6<=y.e->rel' i=none))(K:lS x=false->y=.recv\/y=.park\/∃p,y=.busy p)(D:y=.park->lS x=false/\∀r,x≠.sendP r)(m:∃s r,w2.heap[C.L.e]?=some (.chan 0 #[] (lS x) s r false))(o:∃st sm,WgAt C.ty C.L.b w2 st sm/\qr C x (up tg i y) n st sm)(t:∀p,p<EZ C x->stored' p\/∃c,C.dT<=c/\c<n/\up tg i y c=.busy p)(v:∀c p,C.dT<=c->c<n->up tg i y c=.busy p->p<EZ C x/\¬stored' p)(z:∀c j p,C.dT<=c->c<n->C.dT<=j->j<n->up tg i y c=.busy p->up tg i y j=.busy p->c=j)(B:∃cs,w2.heap[C.L.h]?=some (.cells cs C.ta)/\cs.size=C.nt/\∀p,stored' p->p<EZ C x/\cs[p]?=some (C.AT p)):gm C x (up tg i y) stored' rel' n w2:=by
 have d:∀j,(up tg i y j=tg j/\j≠i)\/(j=i/\up tg i y j=y):=λj=>by
  by_cases a:j=i;subst a;exact .inr ⟨rfl,cu⟩;exact .inl ⟨cV a,a⟩
 refine⟨l.h,l.A,l.H,λj a=>?_,m,o,λj k a=>?_,λj a=>?_,λhc j k a=>?_,λhc j a=>?_,λr E j a=>?_,t,v,z,B⟩;rw[cV ak];exact l.I j a;rcases d j with⟨e,f⟩|⟨rfl,e⟩
 rw[e,g j f];exact l.e j k a;rw[e];exact G;rw[g j ak];exact l.F j a;rcases d j with⟨e,f⟩|⟨rfl,e⟩
 rw[e];exact l.u hc j k a;rw[e];exact K hc;rcases d j with⟨e,f⟩|⟨rfl,e⟩
 rw[e];exact l.J hc j a;rw[e];intro q;rw[(D q).1]at hc;cases hc;rcases d j with⟨e,f⟩|⟨rfl,e⟩
 rw[e];exact l.O r E j a;rw[e];intro q;exact(D q).2 r E
def rP(b:∀p,y≠.busy p){j:Nat}(h:up tg i y j=.busy p):tg j=.busy p/\j≠i:=by
 by_cases a:j=i;subst a;rw[cu]at h;exact absurd h (b p);rw[cV a]at h;exact⟨h,a⟩
def gm.V(l:gm C x tg stored rel n w)(k:C.dT<=i)(m:i<n)(a:∀j,j≠i->rel' j=rel j)(s:(y.e<=5->∃p,rel' i=some p)/\(6<=y.e->rel' i=none))(u:lS x=false->y=.recv\/y=.park\/∃p,y=.busy p)(v:y=.park->lS x=false/\∀r,x≠.sendP r)(z:∀p,tg i≠.busy p)(c:∀p,y≠.busy p)(d:w2.heap[C.L.e]?=w.heap[C.L.e]?)(f:w2.heap[C.L.h]?=w.heap[C.L.h]?)(g:∃st sm,WgAt C.ty C.L.b w2 st sm/\qr C x (up tg i y) n st sm):gm C x (up tg i y) stored rel' n w2:=by
 refine l.ae k m a s u v (d▸l.t) g (λp A=>?_) (λj p b1 b2 e=>l.y j p b1 b2 (rP c e).1) (λj D p b1 b2 b3 b4 E F=>l.two j D p b1 b2 b3 b4 (rP c E).1 (rP c F).1) (f▸l.o);rcases l.B p A with q|⟨j,b1,b2,b3⟩
 exact .inl q;exact .inr ⟨j,b1,b2,by rw[cV (λe=>by subst e;exact z p b3)];exact b3⟩
def qr.e(c:qr C x tg n st sm)(hc:(tg i).h=y.h)(d:(tg i).j=false)(f:y.j=false):qr C x (up tg i y) n st sm:=by
 have a:∀j,(up tg i y j).j=(tg j).j:=λj=>by
  by_cases b:j=i;subst b;rw[cu,d,f];rw[cV b]
 have g:∀j,((up tg i y j=.d2\/up tg i y j=.d3)↔(tg j=.d2\/tg j=.d3))/\(up tg i y j=.d4↔tg j=.d4):=λj=>by
  by_cases b:j=i;subst b;rw[cu];constructor;constructor<;>(rintro(q|q)<;>simp_all [WTag.j]);constructor<;>(intro q;simp_all [WTag.j]);rw[cV b];exact⟨AR,AR⟩
 unfold qr at c⊢;simp only[ib hc,a,g];exact c
def iB(w:Ba)(ad:Addr)(v:Dv)(h:b≠ad.block):(w.setCell ad v).heap[b]?=w.heap[b]?:=by
 show (w.heap.modify ad.block _)[b]?=_;rw[bL,ay (λe=>h e.symm)]
def ra(w:Ba)(ad:Addr)(v:Dv):(w.setCell ad v).heap.size=w.heap.size:=by simp[World.setCell]
def xH.j(ap:Ap C.L Sn w.heap.size)(c:C.E.J (w.setCell ad v))(a:ad.block=C.L.b\/ad.block=C.L.h):xH C (Sn i) (Sn i) w (w.setCell ad v):=
 ⟨eL (ra w ad v).symm,rfl,rfl,rfl,λb _ _ d _ f=>iB w ad v (λe=>a.elim (λq=>d (e.trans q)) λq=>f (e.trans q)),c,λ_ q=>q,λ_ q=>.inl q⟩
def Kx(i:C.E.J w)(ap:Ap C.L Sn w.heap.size)(a:WgAt C.ty C.L.b w st sm)(v:Int):C.E.J (w.setCell (stA C.L.b) (.int .u64 v))/\C.E.J (w.setCell (smA C.L.b) (.int .u32 v)):=by
 obtain⟨_,⟨cl,s,r,c⟩,d,f,g⟩:=i;have c1:∀ad u,ad.block=C.L.b->(w.setCell ad u).heap[C.L.e]?=w.heap[C.L.e]?:=λad u h=>iB w ad u (by rw[h];exactλe=>ap.t e.symm);have c2:∀ad u,ad.block=C.L.b->(w.setCell ad u).heap[C.L.h]?=w.heap[C.L.h]?:=λad u h=>iB w ad u (by rw[h];exactλe=>ap.y e.symm);exact⟨⟨⟨_,_,a.setSt v⟩,⟨cl,s,r,by rw[c1 _ _ rfl];exact c⟩,d,by rw[c2 _ _ rfl];exact f,g⟩,⟨⟨_,_,a.setSm v⟩,⟨cl,s,r,by rw[c1 _ _ rfl];exact c⟩,d,by rw[c2 _ _ rfl];exact f,g⟩⟩
def Uw{α:Type}(es:Array α)(m:Nat):es.extract 0 m++es.extract m es.size=es:=by
 apply vE;rw[Array.toList_append,xX,xX];simp;rw[jC (l:=es.toList.drop m) aY,jR]
def fK.ag(h:fK C Anc AncW Fin Shun x tg Tm Sn dn wn stored rel a gs w t)(A:1<=C.dT)(M:i=0\/(C.dT<=i/\i<gs.size))(B:i<gs.size)(U:1<=dn i)(l:∀e∈es,(∃ad:Addr,ad.block=C.L.b/\e.loc=.cell ad/\e.sync=true)\/(e.loc=.mark .disable\/e.loc=.mark .enable))(D:∀k,k<=es.size->1<=deafBehind (dn i) (es.extract 0 k))(hs:w2.heap.size=w.heap.size)(fn:FuncId)(c:String):
  TI C.L Shun (C.dT<=·) (λk=>k=0\/(C.dT<=k/\k<gs.size)) Sn stored rel w2.heap.size (t++MemOp.ofEvents i fn c es):=by
 have:=h.y.j h.h (u:=MemOp.ofEvents i fn c es) (k:=i) (B':=w2.heap.size) (S':=Sn i) (nw:=λ_=>False) M (λv g=>by obtain⟨e,_,rfl⟩:=Conc.mem_ofEvents g;rfl) (λv g y m O=>?_) (λ_ q=>q.elim) (λb A=>.inl A) (λb A=>A) (eL hs.symm) (λv g=>?_)
  (λN p V k v g P y m O=>?_) (λv g=>?_) (λh0=>M.elim (λq=>absurd q h0) (λq=>q.1))
 rw[DL,wh,jl]at this;exact this;obtain⟨e,n,rfl⟩:=Conc.mem_ofEvents g;let ⟨r,E,F⟩:=e
 rcases l _ n with⟨ad,f,d,s⟩|d|d<;>dsimp only at d<;>subst d
 dsimp only at s;subst s;simp only[MemAct.ofEvent,MemAct.touch?,ba]at m;subst m;exact .inr (.inr (.inr (.inl ⟨f,.inl rfl⟩)));simp[MemAct.ofEvent,MemAct.touch?]at m;simp[MemAct.ofEvent,MemAct.touch?]at m;obtain⟨e,n,rfl⟩:=Conc.mem_ofEvents g;let ⟨r,E,F⟩:=e
 rcases l _ n with⟨ad,f,d,s⟩|d|d<;>dsimp only at d<;>subst d
 show ad.block<_;rw[f,hs];exact h.h.h;trivial;trivial
 ·
  have G:v∈MemOp.ofEvents i fn c es:=by
   rcases getElem?_append_cases g with⟨q,_⟩|⟨_,q⟩
   omega;exact q
  obtain⟨e,n,rfl⟩:=Conc.mem_ofEvents G;let ⟨r,E,F⟩:=e
  rcases l _ n with⟨ad,f,d,s⟩|d|d<;>dsimp only at d<;>subst d
  dsimp only at s;subst s;simp only[MemAct.ofEvent,MemAct.touch?,ba]at m;subst m;refine⟨rfl,f,λQ=>?_⟩;let ⟨g0,z,H⟩:=Q
  have I:g0=i:=by
   simp only[Trace.g?,g,lN,ba]at z;exact z.symm
  subst I;have N:k<=(t++MemOp.ofEvents g0 fn c es).size:=vH (lt_size_of_getElem? g);have J:(MemOp.ofEvents g0 fn c es).size=es.size:=by rw[ofEvents_eq];simp
  have K:k-t.size<=es.size:=by rw[jT,J]at N;omega
  have R:(t++MemOp.ofEvents g0 fn c es).deaf g0 k=deafBehind (dn g0) (es.extract 0 (k-t.size)):=by
   have S:t++MemOp.ofEvents g0 fn c es=(t++MemOp.ofEvents g0 fn c (es.extract 0 (k-t.size)))++(MemOp.ofEvents g0 fn c (es.extract (k-t.size) es.size)):=by
    rw[ofEvents_eq,ofEvents_eq,ofEvents_eq,Array.append_assoc,<-nj];rw[Uw es (k-t.size)]
   have T:(t++MemOp.ofEvents g0 fn c (es.extract 0 (k-t.size))).size=k:=by rw[jT,ofEvents_eq,eh,Array.size_extract];omega
   rw[S,deaf_old ak,<-h.o g0 B,<-Deaf_own];unfold Deaf;rw[T]
  rw[R]at H;have:=D _ K;omega;simp[MemAct.ofEvent,MemAct.touch?]at m;simp[MemAct.ofEvent,MemAct.touch?]at m
 obtain⟨e,n,rfl⟩:=Conc.mem_ofEvents g;let ⟨r,E,F⟩:=e
 rcases l _ n with⟨ad,f,d,s⟩|d|d<;>dsimp only at d<;>subst d<;>rfl
end
section
variable{v:Dv}
theorem uH(i:Nat)(fn:FuncId)(pos:String)(e:Event):MemOp.ofEvents i fn pos #[e]=#[{g:=i,fn,pos,act:=.ofEvent e}]:=by rw[ofEvents_eq];simp
def mQ(i:Nat)(fn:FuncId)(a:String):MemOp.ofEvents i fn a #[]=#[]:=by rw[ofEvents_eq];simp
def xJ(d:Nat){e:Event}(a:e.loc≠.mark .disable)(b:e.loc≠.mark .enable):deafBehind d #[e]=d:=by
 refine deafBehind_still (λx c=>?_) d;have:x=e:=dD c;rw[this];exact⟨a,b⟩
def xH.e(h:fK C Anc AncW Fin Shun x tg Tm Sn dn wn stored rel a gs w t)(b:i<gs.size):xH C (Sn i) (Sn i) w w:=
 ⟨aj _,rfl,rfl,rfl,λ_ _ _ _ _ _=>rfl,(h.e i b).h,λ_ q=>q,λ_ q=>.inl q⟩
def Fo(hA:fE C Anc)(hF:∀{S d g w},Fin S d g w->g.status=.running)(h:fK C Anc AncW Fin Shun x tg Tm Sn dn wn stored rel a gs w t)(l:gm C x tg stored rel gs.size w)(hg:gs[i]?=some g)(G:0<i)(m:C.dT<=i)(f:tg i=.busy p)(Q:uw C Anc p (Sn i) (dn i) g (wn i)):
  ui C Anc AncW Fin Shun (ga C x tg Tm a gs.size) t (runT C.P (crowd gs w sl) i):=by
 have c:=(ar.1 hg).1;have hr:=h.e i c;let ⟨hd,_,Q⟩:=Q
 let ⟨g',R,T,hT⟩:=Q w hr
 let ⟨U,V⟩:=l.y i p m c f
 let ⟨cs,W,H,X⟩:=l.o
 have ad:p<C.nt:=by
  have:EZ C x<=C.nt:=by cases x<;>simp[EZ]
  omega
 have hset:(w.setCell (aA C.L.h p) (C.AT p)).heap[C.L.h]?=some (.cells (cs.setIfInBounds p (C.AT p)) C.ta):=by
  show (w.heap.modify C.L.h _)[C.L.h]?=_;rw[bL,aH rfl,W];rfl
 have v:(w.setCell (aA C.L.h p) (C.AT p)).heap[C.L.b]?=w.heap[C.L.b]?:=iB w _ _ h.h.y;have I:(w.setCell (aA C.L.h p) (C.AT p)).heap[C.L.e]?=w.heap[C.L.e]?:=iB w _ _ h.h.A;have hJ:C.E.J (w.setCell (aA C.L.h p) (C.AT p)):=by
  let ⟨⟨st,sm,Y⟩,⟨cl,s,r,Z⟩,_⟩:=hr.h
  exact⟨⟨st,sm,by unfold WgAt at *;rw[v];exact Y⟩,⟨cl,s,r,I▸Z⟩,_,hset,dD H⟩
 have n:=(l.e i m c).2 (by rw[f];simp[WTag.e]);have z:∀{j q},up tg i .recv j=.busy q->tg j=.busy q/\j≠i:=λe=>rP aY e;refine zE (y:=.recv) (T:=T) (S':=Sn i) (stored':=λq=>stored q\/q=p) (rel':=rel) hA hF h l hg G R ?_ (xH.j h.h hJ (.inr rfl)) ?_ ?_ (.inl v) λa'=>?_;rw[hd];exact hT
 .rw[jl,uH];have:=h.y.j h.h (u:=#[{g:=i,fn:=g.frame.fn,pos:=g.frame.place,act:=.ofEvent ⟨.cell (aA C.L.h p),true,false⟩}]) (k:=i) (B':=(w.setCell (aA C.L.h p) (C.AT p)).heap.size) (S':=Sn i) (nw:=(· = p)) (.inr ⟨m,c⟩) (λM N=>?_) (λM N y f hm=>?_) (λq e=>by subst e;exact V) (λb m=>.inl m) (λb m=>m) (eL (ra w _ _).symm) (λM N=>?_) (λ_ q F=>by rw[n]at F;cases F) (λM N=>?_) (λ_=>m);rw[DL,jl]at this;exact this;all_goals (have e:M = {g:=i,fn:=g.frame.fn,pos:=g.frame.place,act:=.ofEvent ⟨.cell (aA C.L.h p),true,false⟩}:=dD N)
  all_goals subst e
  rfl;simp only[MemAct.ofEvent,MemAct.touch?,ba]at f;subst f;exact .inr (.inr (.inr (.inr (.inr ⟨p,rfl,rfl⟩))));show C.L.h<_;rw[ra];exact h.h.i;rfl
 refine l.ae m c (λ_ _=>rfl) ⟨λq=>by simp[WTag.e]at q,λ_=>n⟩ (λ_=>.inl rfl) (λq=>by cases q) (I▸l.t) ?_ (λq F=>?_) (λj q b1 b2 e=>?_) (λj j' q b1 b2 b3 b4 O e2=>l.two j j' q b1 b2 b3 b4 (z O).1 (z e2).1) ⟨_,hset,dD H,λq F=>?_⟩;let ⟨st,sm,Y,Z⟩:=l.b
 exact⟨st,sm,by unfold WgAt at *;rw[v];exact Y,Z.e (f▸rfl) (f▸rfl) rfl⟩;rcases l.B q F with q2|⟨j,b1,b2,b3⟩
 exact .inl (.inl q2);by_cases K:j=i;subst K;rw[f]at b3;cases b3;exact .inl (.inr rfl);exact .inr ⟨j,b1,b2,by rw[cV K];exact b3⟩;let ⟨O,e2⟩:=z e
 let ⟨k1,k2⟩:=l.y j q b1 b2 O
 exact⟨k1,λq2=>q2.elim k2 λq3=>by subst q3;exact e2 (l.two j i q b1 b2 m c O f)⟩;rw[ee];by_cases D:p=q;subst D;exact⟨U,by rw[aH rfl,aH ak]⟩;rw[ay D];exact X q (F.elim id λe=>absurd e.symm D);refine qd (ib (f▸rfl)) (qM c G ?_);rw[f];exact jI (show (9:Nat)<10 by decide)
def IQ(B:fE C Anc)(hF:∀{S d g w},Fin S d g w->g.status=.running)(h:fK C Anc AncW Fin Shun x tg Tm Sn dn wn stored rel a gs w t)(l:gm C x tg stored rel gs.size w)(z:gs[i]?=some g)(k:0<i)(n:C.dT<=i)(f:tg i=.tell)(p:uu C (Sn i) (dn i) g (wn i)):
  ui C Anc AncW Fin Shun (ga C x tg Tm a gs.size) t (runT C.P (crowd gs w sl) i):=by
 have c:=(ar.1 z).1;let ⟨A,_,p⟩:=p
 let ⟨g',r,m,D⟩:=p w (h.e i c)
 have s:6<=(tg i).e:=by rw[f];simp[WTag.e]
 refine zE (y:=.k1) (T:=qv m) (S':=Sn i) (stored':=stored) (rel':=λj=>if j=i then some t.size else rel j) B hF h l z k r ⟨?_,m,rfl,D⟩ (xH.e h c) ?_ ?_ (.inl rfl) λH=>?_;rw[A];exact xJ 0 (by simp[mk]) (by simp[mk]);rw[jl,uH];exact h.y.O h.h ⟨rfl,rfl⟩ (by rw[h.o i c,A]) ((l.e i n c).2 s);have v:lS x=true:=by
  cases hc:lS x with
  |true=>rfl
  |false=>have:=l.u hc i n c;rw[f]at this;simp at this
 refine l.V n c (λj E=>ay E) ⟨λ_=>⟨t.size,aH rfl⟩,λq=>by simp[WTag.e]at q⟩ (λq=>by rw[v]at q;cases q) (λq=>by cases q) (by rw[f];simp) aY rfl rfl ?_;let ⟨st,sm,F,G⟩:=l.b
 exact⟨st,sm,F,G.e (f▸rfl) (f▸rfl) rfl⟩;refine qd (ib (f▸rfl)) (qM c k ?_);rw[f];exact jI cn
def gm.j(l:gm C x tg stored rel n w)(a:C.dT<=i)(b:i<n)(c:tg i≠.recv)(d:tg i≠.park)(e:∀p,tg i≠.busy p):lS x=true:=by
 cases hc:lS x with
 |true=>rfl
 |false=>
  rcases l.u hc i a b with q|q|⟨p,q⟩
  exact absurd q c;exact absurd q d;exact absurd q (e p)
def kE(p:fE C Anc)(hF:∀{S d g w},Fin S d g w->g.status=.running)(h:fK C Anc AncW Fin Shun x tg Tm Sn dn wn stored rel a gs w t)(l:gm C x tg stored rel gs.size w)(n:gs[i]?=some g)(b:0<i)(j:Tm i=qv (m+1))(k:stepG C.P false g w=.go g' w #[])(c:C4 C Anc (tg i) (qv m) (Sn i) (dn i) g' w)(o:∀T,fW (tg i) T=((tg i).e,T)):
  ui C Anc AncW Fin Shun (ga C x tg Tm a gs.size) t (runT C.P (crowd gs w sl) i):=by
 have f:=(ar.1 n).1;refine zE (y:=tg i) (T:=qv m) (S':=Sn i) (stored':=stored) (rel':=rel) p hF h l n b k c (xH.e h f) ?_ (by rw[jl];exact l) (.inl rfl) λq=>?_;rw[jl,mQ];simpa using h.y;refine qd (ib rfl) (qM f b ?_);rw[o,o,j];exact x8 (Fa m)
def oh{S:Nat->Prop}{a:E4->Ba->Prop}{w0:Ba}(b:LS C S a m g w0)(c:cF C.E S w0 w):a g w\/∃d g',m=d+1/\stepG C.P false g w=.go g' w #[]/\LS C S a d g' w:=by
 cases m with
 |zero=>exact .inl (b w c)
 |succ m=>
  rcases b with b|⟨_,b⟩
  exact .inl (b w c);have:=b w c;cases hst:stepG C.P false g w with
  |go g' f es=>
   rw[hst]at this;obtain⟨⟨rfl,rfl⟩,e⟩:=this;exact .inr ⟨m,g',rfl,rfl,e⟩
  |_=>rw[hst]at this;exact this.elim
def QN(A:fE C Anc)(hF:∀{S d g w},Fin S d g w->g.status=.running)(h:fK C Anc AncW Fin Shun x tg Tm Sn dn wn stored rel a gs w t)(l:gm C x tg stored rel gs.size w)(r:gs[i]?=some g)(k:0<i)(u:C.dT<=i)(f:tg i=.k1):
  ui C Anc AncW Fin Shun (ga C x tg Tm a gs.size) t (runT C.P (crowd gs w sl) i):=by
 have c:=(ar.1 r).1;have E:=h.e i c;have B:=h.p i g k r;rw[f]at B;let ⟨D,m,v,F⟩:=B
 rcases oh F E with⟨_,g',n,s,o⟩|⟨s,g',rfl,n,o⟩
 have z:=l.j u c (by rw[f];simp) (by rw[f];simp) (by rw[f];simp);refine zE (y:=.d1) (T:=qv s) (S':=Sn i) (stored':=stored) (rel':=rel) A hF h l r k n ⟨?_,s,rfl,o⟩ (xH.e h c) ?_ ?_ (.inl rfl) λI=>?_;rw[D];rfl;rw[jl,uH];exact h.y.e rfl aB rfl;refine l.V u c (λ_ _=>rfl) ⟨λ_=>(l.e i u c).1 (by rw[f];simp[WTag.e]),λq=>by simp[WTag.e]at q⟩ (λq=>by rw[z]at q;cases q) (λq=>by cases q) (by rw[f];simp) aY rfl rfl ?_;let ⟨st,sm,G,H⟩:=l.b
 exact⟨st,sm,G,H.e (f▸rfl) (f▸rfl) rfl⟩;refine qd (ib (f▸rfl)) (qM c k ?_);rw[f];exact jI cn;exact kE A hF h l r k v n (by rw[f];exact⟨D,s,rfl,o⟩) (λT=>f▸rfl)
def M5{a c:Int}(h:WgAt C.ty C.L.b w st sm)(d:WgAt C.ty C.L.b w a c):st=a/\sm=c:=by
 unfold WgAt wgBlock at *;rw[h]at d;simp at d;exact d
def no1(h:WgAt C.ty C.L.b w st 0):¬WgAt C.ty C.L.b w 0 1:=λq=>absurd (M5 h q).2 cn
def Kz(l:gm C x tg stored rel n w):Vc C tg n<=C.nw:=by
 have b:Vc C tg n<=n-C.dT:=QP (λi=>by unfold A3;split<;>omega) (λi a=>by unfold A3;rw[show decide (C.dT<=i)=false by simpa using a];rfl);have c:=l.A;have d:Qe C x<=C.nw:=by cases x<;>simp[Qe]
 omega
def X5(a:i<n)(b:C.dT<=i)(hc:(tg i).h=true):1<=Vc C tg n:=by
 have:=DI (f:=A3 C tg) a;have e:A3 C tg i=1:=by unfold A3;rw[hc];simp[b]
 unfold Vc;omega
def oe(h:es=#[rd (stA C.L.b),wr (stA C.L.b)]\/es=#[rd (stA C.L.b)]\/es=#[wr (stA C.L.b)]\/es=semEvents (smA C.L.b)):(∀e∈es,(∃ad:Addr,ad.block=C.L.b/\e.loc=.cell ad/\e.sync=true)\/(e.loc=.mark .disable\/e.loc=.mark .enable))/\(∀k,k<=es.size->1<=deafBehind 1 (es.extract 0 k))/\deafBehind 1 es=1:=by
 rcases h with rfl|rfl|rfl|rfl
 refine⟨λe a=>?_,λk c=>?_,rfl⟩;rcases(by simpa using a:e=_\/e=_) with rfl|rfl<;>exact .inl ⟨_,rfl,rfl,rfl⟩
 have:k=0\/k=1\/k=2:=by simp at c;omega
 rcases this with rfl|rfl|rfl<;>exact aj 1
 refine⟨λe a=>?_,λk c=>?_,rfl⟩;obtain rfl:e=_:=dD a;exact .inl ⟨_,rfl,rfl,rfl⟩;have:k=0\/k=1:=by simp at c;omega
 rcases this with rfl|rfl<;>exact aj 1
 refine⟨λe a=>?_,λk c=>?_,rfl⟩;obtain rfl:e=_:=dD a;exact .inl ⟨_,rfl,rfl,rfl⟩;have:k=0\/k=1:=by simp at c;omega
 rcases this with rfl|rfl<;>exact aj 1
 refine⟨λe a=>?_,λk c=>?_,rfl⟩;rcases(by simpa[semEvents] using a:e=_\/e=_\/e=_\/e=_) with rfl|rfl|rfl|rfl
 exact .inr (.inl rfl);exact .inl ⟨_,rfl,rfl,rfl⟩;exact .inl ⟨_,rfl,rfl,rfl⟩;exact .inr (.inr rfl);have:k=0\/k=1\/k=2\/k=3\/k=4:=by simp[semEvents]at c;omega
 rcases this with rfl|rfl|rfl|rfl|rfl<;>first|exact aj 1|exact cL 1
end
section
variable{v:Dv}
def Dr(b:y.j=false)(h:∀j,j<n->j≠i->(tg j).j=false):∀j,j<n->(up tg i y j).j=false:=λj c=>by
 by_cases a:j=i;subst a;rw[cu];exact b;rw[cV a];exact h j c a
def QV{V:Nat}:Vp x V<Vp x (V+1):=by
 cases x with
 |w2 v=>
      unfold Vp;dsimp only;repeat' split
      all_goals omega
 |_=>show 3*V+1<3*(V+1)+1;omega
def rb(E:fE C Anc)(hF:∀{S d g w},Fin S d g w->g.status=.running)(h:fK C Anc AncW Fin Shun x tg Tm Sn dn wn stored rel a gs w t)(l:gm C x tg stored rel gs.size w)(A:gs[i]?=some g)(r:0<i)(n:C.dT<=i)(s:stepG C.P false g w=.go g' w2 es)(B:dn i=1)(v:es=#[rd (stA C.L.b),wr (stA C.L.b)]\/es=#[rd (stA C.L.b)]\/es=#[wr (stA C.L.b)]\/es=semEvents (smA C.L.b))(f:w2=w\/∃u,w2=w.setCell (stA C.L.b) (.int .u64 u)\/w2=w.setCell (smA C.L.b) (.int .u32 u))(o:(tg i).e<=4)(N:y.e<=3)(m:C4 C Anc y T (Sn i) 1 g' w2)(z:∃st sm,WgAt C.ty C.L.b w2 st sm/\qr C x (up tg i y) gs.size st sm)(F:w2.heap[C.L.b]?=w.heap[C.L.b]?\/¬WgAt C.ty C.L.b w2 0 1\/(mayWake C.P g=true/\(g'.status=.running\/g'.status=.finished)))(G:∀a',Lt (ga C x (up tg i y) (up Tm i T) a' gs.size) (ga C x tg Tm a gs.size)):
  ui C Anc AncW Fin Shun (ga C x tg Tm a gs.size) t (runT C.P (crowd gs w sl) i):=by
 have c:=(ar.1 A).1;have D:=h.e i c;let ⟨k1,H,I⟩:=oe v
 let ⟨J,K,k,_⟩:=l.b
 have M:xH C (Sn i) (Sn i) w w2:=by
  rcases f with rfl|⟨u,rfl|rfl⟩
  exact xH.e h c;exact xH.j h.h (Kx D.h h.h k u).1 (.inl rfl);exact xH.j h.h (Kx D.h h.h k u).2 (.inl rfl)
 have nb:∀{y:WTag},y.e<=4->y≠.recv/\y≠.park/\∀p,y≠.busy p:=λ{y} q=>⟨λe=>by subst e;simp[WTag.e]at q,λe=>by subst e;simp[WTag.e]at q,λp e=>by subst e;simp[WTag.e]at q⟩;refine zE (y:=y) (T:=T) (S':=Sn i) (stored':=stored) (rel':=rel) E hF h l A r s (by rw[B,I];exact m) M ?_ ?_ F G;rw[jl];exact h.ag l.h (.inr ⟨n,c⟩) c ak k1 (B▸H) (by rcases f with rfl|⟨u,rfl|rfl⟩<;>simp[World.setCell]) _ _;exact l.V n c (λ_ _=>rfl) ⟨λ_=>(l.e i n c).1 ak,λq=>ak⟩ (λq=>by rw[(l.j n c (nb o).1 (nb o).2.1 (nb o).2.2)]at q;cases q) (λq=>absurd q (nb ak).2.1) (nb o).2.2 (nb ak).2.2 (by rcases f with rfl|⟨u,rfl|rfl⟩<;>first|rfl|exact iB w _ _ (λe=>h.h.t e.symm)) (by rcases f with rfl|⟨u,rfl|rfl⟩<;>first|rfl|exact iB w _ _ (λe=>h.h.y e.symm)) z
def QJ(X:fE C Anc)(hF:∀{S d g w},Fin S d g w->g.status=.running)(bR:C.nw<2147483647)(h:fK C Anc AncW Fin Shun x tg Tm Sn dn wn stored rel a gs w t)(l:gm C x tg stored rel gs.size w)(O:gs[i]?=some g)(s:0<i)(M:C.dT<=i)(r:tg i=.d1):
  ui C Anc AncW Fin Shun (ga C x tg Tm a gs.size) t (runT C.P (crowd gs w sl) i):=by
 have f:=(ar.1 O).1;have hr:=h.e i f;have hs:=h.p i g s O;rw[r]at hs;let ⟨Y,m,Z,hG⟩:=hs
 rcases oh hG hr with⟨_,D⟩|⟨W,g',rfl,u,E⟩
 .let ⟨st,sm,F,k⟩:=l.b
  have ci:=X5 f M (show (tg i).h=true by rw[r];rfl);have cj:=Kz l;have ad:=l.j M f (by rw[r];simp) (by rw[r];simp) (by rw[r];simp);have G:∀{y:WTag},y.h=false->Vc C (up tg i y) gs.size+1=Vc C tg gs.size:=λhc=>Uj f M (r▸rfl) hc;let ⟨V,N⟩:∃V,Vc C tg gs.size=V+1:=⟨Vc C tg gs.size-1,ak⟩
  have A:∀{y:WTag},y.h=false->Vc C (up tg i y) gs.size=V:=λhc=>by have:=G hc;omega
  have aS:∃wt:Nat,wt<=1/\st=(V+1:Nat)*KK+wt/\sm=0/\(∀j,j<gs.size->(tg j).j=false)/\((wt=1/\(x=.w3\/x=.sem))\/(wt=0/\(x=.w1\/∃v,x=.w2 v))):=by
   cases x<;>first|(simp[lS]at ad;done)|skip
   case w1=>let ⟨H,I,J⟩:=k;exact⟨0,ak,by rw[H,N];simp[Df],I,J,.inr ⟨rfl,.inl rfl⟩⟩
   case w2 v=>let ⟨H,I,J⟩:=k;exact⟨0,ak,by rw[H,N];simp[Df],I,J,.inr ⟨rfl,.inr ⟨v,rfl⟩⟩⟩
   case w3=>
    rcases k with⟨Q,H,I,J⟩|⟨Q,_⟩|⟨Q,_⟩
    exact⟨1,ak,by rw[H,N];rfl,I,J,.inl ⟨rfl,.inl rfl⟩⟩;omega;omega
   case sem=>
    rcases k with⟨Q,H,I,J⟩|⟨Q,_⟩|⟨Q,_⟩
    exact⟨1,ak,by rw[H,N];rfl,I,J,.inl ⟨rfl,.inr rfl⟩⟩;omega;omega
   all_goals (have:=k.1;omega)
  obtain⟨wt,a0,R,rfl,o,hx⟩:=aS;let ⟨g',u,a1,bm⟩:=D V wt a0 ak (by rw[R]at F;simpa using F)
  have B:WgAt C.ty C.L.b (w.setCell (stA C.L.b) (.int .u64 (V*KK+wt))) (V*KK+wt) 0:=F.setSt _;by_cases c:V=0/\wt=1;let ⟨W,E⟩:=a1 c
  refine rb (y:=.d2) (T:=qv W) X hF h l O s M u Y (.inl rfl) (.inr ⟨_,.inl rfl⟩) (by rw[r];decide) cn ⟨rfl,W,rfl,E⟩ ⟨_,_,B,?_⟩ (.inr (.inl (no1 B))) λa'=>?_;have K:=A (y:=.d2) rfl;have:qr C .w3 (up tg i .d2) gs.size (V*KK+wt) 0:=.inr (.inl ⟨ak,rfl,i,M,f,.inl ⟨.inl (cu),by rw[c.1,c.2];simp⟩,λj hj bO=>by rw[cV bO];exact o j hj⟩);rcases hx with⟨_,rfl|rfl⟩|⟨e,_⟩
  exact this;exact this;omega;unfold ga;rw[N,A (y:=.d2) rfl];exact UW QV;let ⟨q,hq⟩:=bm c
  refine rb (y:=.quit q) (T:=.leaf) X hF h l O s M u Y (.inl rfl) (.inr ⟨_,.inl rfl⟩) (by rw[r];decide) (by simp[WTag.e]) hq ⟨_,_,B,?_⟩ (.inr (.inl (no1 B))) λa'=>?_;have K:=A (y:=.quit q) rfl;have U:=Dr (tg:=tg) (y:=.quit q) (i:=i) (n:=gs.size) rfl λj hj _=>o j hj;rcases hx with⟨rfl,e⟩|⟨rfl,e⟩
  have:qr C .w3 (up tg i (.quit q)) gs.size (V*KK+(1:Nat)) 0:=.inl ⟨ak,K▸rfl,rfl,U⟩;rcases e with rfl|rfl
  exact this;exact this;have:∀z:MTag,Df z=0->(V*KK+((0:Nat):Int)=(Vc C (up tg i (.quit q)) gs.size+Df z:Nat)*KK/\(0:Int)=0/\∀j,j<gs.size->(up tg i (.quit q) j).j=false):=λz hz=>⟨by rw[K,hz];simp,rfl,U⟩;rcases e with rfl|⟨vv,rfl⟩
  exact this .w1 rfl;exact this (.w2 vv) rfl;unfold ga;rw[N,A (y:=.quit q) rfl];exact UW QV
 exact kE X hF h l O s Z u (by rw[r];exact⟨Y,W,rfl,E⟩) (λT=>r▸rfl)
def qr.last(b:qr C x tg n st sm)(e:i<n)(c:(tg i).j=true):(x=.w3\/x=.sem)/\Vc C tg n=0/\sm=0/\(((tg i=.d2\/tg i=.d3)/\st=1)\/(tg i=.d4/\st=0))/\∀j,j<n->j≠i->(tg j).j=false:=by
 have d:(∀j,j<n->(tg j).j=false)->False:=λq=>by rw[q i e]at c;cases c
 have a:((1<=Vc C tg n/\st=Vc C tg n*KK+1/\sm=0/\∀i,i<n->(tg i).j=false) \/
  (Vc C tg n=0/\sm=0/\∃l,C.dT<=l/\l<n/\(((tg l=.d2\/tg l=.d3)/\st=1)\/(tg l=.d4/\st=0))/\∀i,i<n->i≠l->(tg i).j=false) \/
  (Vc C tg n=0/\st=0/\sm=1/\∀i,i<n->(tg i).j=false))->Vc C tg n=0/\sm=0/\(((tg i=.d2\/tg i=.d3)/\st=1)\/(tg i=.d4/\st=0))/\∀j,j<n->j≠i->(tg j).j=false:=by
  rintro(⟨_,_,_,q⟩|⟨g,h,k,_,o,m,f⟩|⟨_,_,_,q⟩);exact(d q).elim;obtain rfl:i=k:=cK λq=>by rw[f i e q]at c;cases c
  exact⟨g,h,m,f⟩;exact(d q).elim
 cases x<;>first|exact(d b.2.2).elim|exact(d b.2.2.2).elim|exact⟨.inl rfl,a b⟩|exact⟨.inr rfl,a b⟩
def qr.h(a:x=.w3\/x=.sem)(h:qr C .w3 tg n st sm):qr C x tg n st sm:=by rcases a with rfl|rfl<;>exact h
def QK(E:fE C Anc)(hF:∀{S d g w},Fin S d g w->g.status=.running)(h:fK C Anc AncW Fin Shun x tg Tm Sn dn wn stored rel a gs w t)(l:gm C x tg stored rel gs.size w)(z:gs[i]?=some g)(c:0<i)(F:C.dT<=i)(f:tg i=.d2):
  ui C Anc AncW Fin Shun (ga C x tg Tm a gs.size) t (runT C.P (crowd gs w sl) i):=by
 have k:=(ar.1 z).1;have I:=h.e i k;have G:=h.p i g c z;rw[f]at G;let ⟨H,m,B,J⟩:=G
 rcases oh J I with⟨_,n⟩|⟨A,g',rfl,o,r⟩
 let ⟨st,sm,u,D⟩:=l.b
 obtain⟨K,L,rfl,hc,s⟩:=D.last k (f▸rfl);obtain⟨_,rfl⟩:_/\st=1:=hc.elim id λq=>by rw[f]at q;simp at q
 let ⟨g',o,A,r⟩:=n u
 refine rb (y:=.d3) (T:=qv A) E hF h l z c F o H (.inr (.inl rfl)) (.inl rfl) (by rw[f];decide) cn ⟨rfl,A,rfl,r⟩ ⟨_,_,u,?_⟩ (.inl rfl) λN=>?_;exact qr.h K (.inr (.inl ⟨by rw[ib (f▸rfl)];exact L,rfl,i,F,k,.inl ⟨.inr (cu),rfl⟩,λj M v=>by rw[cV v];exact s j M v⟩));refine qd (ib (f▸rfl)) (qM k c ?_);rw[f];exact jI cn;exact kE E hF h l z c B o (by rw[f];exact⟨H,A,rfl,r⟩) (λT=>f▸rfl)
def QL(E:fE C Anc)(hF:∀{S d g w},Fin S d g w->g.status=.running)(h:fK C Anc AncW Fin Shun x tg Tm Sn dn wn stored rel a gs w t)(l:gm C x tg stored rel gs.size w)(z:gs[i]?=some g)(c:0<i)(F:C.dT<=i)(f:tg i=.d3):
  ui C Anc AncW Fin Shun (ga C x tg Tm a gs.size) t (runT C.P (crowd gs w sl) i):=by
 have k:=(ar.1 z).1;have I:=h.e i k;have G:=h.p i g c z;rw[f]at G;let ⟨H,m,B,J⟩:=G
 rcases oh J I with⟨_,n⟩|⟨A,g',rfl,o,r⟩
 let ⟨st,sm,s,D⟩:=l.b
 obtain⟨K,L,rfl,hc,u⟩:=D.last k (f▸rfl);obtain⟨_,rfl⟩:_/\st=1:=hc.elim id λq=>by rw[f]at q;simp at q
 let ⟨g',o,A,r⟩:=n s
 refine rb (y:=.d4) (T:=qv A) E hF h l z c F o H (.inr (.inr (.inl rfl))) (.inr ⟨_,.inl rfl⟩) (by rw[f];decide) cn ⟨rfl,A,rfl,r⟩ ⟨_,_,s.setSt 0,?_⟩ (.inr (.inl (no1 (s.setSt 0)))) λN=>?_;exact qr.h K (.inr (.inl ⟨by rw[ib (f▸rfl)];exact L,rfl,i,F,k,.inr ⟨cu,rfl⟩,λj M v=>by rw[cV v];exact u j M v⟩));refine qd (ib (f▸rfl)) (qM k c ?_);rw[f];exact jI cn;exact kE E hF h l z c B o (by rw[f];exact⟨H,A,rfl,r⟩) (λT=>f▸rfl)
def QM(E:fE C Anc)(hF:∀{S d g w},Fin S d g w->g.status=.running)(h:fK C Anc AncW Fin Shun x tg Tm Sn dn wn stored rel a gs w t)(l:gm C x tg stored rel gs.size w)(u:gs[i]?=some g)(c:0<i)(I:C.dT<=i)(f:tg i=.d4):
  ui C Anc AncW Fin Shun (ga C x tg Tm a gs.size) t (runT C.P (crowd gs w sl) i):=by
 have k:=(ar.1 u).1;have J:=h.e i k;have F:=h.p i g c u;rw[f]at F;let ⟨G,m,v,K⟩:=F
 rcases oh K J with⟨_,z,n⟩|⟨L,g',rfl,o,A⟩
 let ⟨st,sm,s,B⟩:=l.b
 obtain⟨M,N,rfl,hc,r⟩:=B.last k (f▸rfl);obtain⟨_,rfl⟩:_/\st=0:=hc.elim (λq=>by rw[f]at q;simp at q) id;let ⟨g',o,q,H⟩:=n s
 refine rb (y:=.quit q) (T:=.leaf) E hF h l u c I o G (.inr (.inr (.inr rfl))) (.inr ⟨_,.inr rfl⟩) (by rw[f];decide) (by simp[WTag.e]) H ⟨_,_,s.setSm 1,?_⟩ (.inr (.inr ⟨z,QuitsD.status H⟩)) λQ=>?_;exact qr.h M (.inr (.inr ⟨by rw[ib (f▸rfl)];exact N,rfl,rfl,Dr rfl λj O D=>r j O D⟩));refine qd (ib (f▸rfl)) (qM k c ?_);rw[f];exact jI (show (0:Nat)<1 by decide);exact kE E hF h l u c v o (by rw[f];exact⟨G,L,rfl,A⟩) (λT=>f▸rfl)
end
section
variable{v:Dv}
def ip(h:b≠c):(w.setChan c cap buf cl s r tm).heap[b]?=w.heap[b]?:=by
 show (w.heap.setIfInBounds c _)[b]?=_;rw[aM (λe=>h e.symm)]
def pu(h:c<w.heap.size):(w.setChan c cap buf cl s r tm).heap[c]?=some (.chan cap buf cl s r tm):=by
 show (w.heap.setIfInBounds c _)[c]?=_;rw[aV h]
def iQ:(w.setChan c cap buf cl s r tm).heap.size=w.heap.size:=by
 show (w.heap.setIfInBounds c _).size=_;simp
def xH.h(h:fK C Anc AncW Fin Shun x tg Tm Sn dn wn stored rel a gs w t)(c:i<gs.size):xH C (Sn i) (Sn i) w (w.setChan C.L.e 0 #[] cl s r false):=by
 have ap:=h.h;obtain⟨⟨st,sm,d⟩,_,f,g,j⟩:=(h.e i c).h;refine⟨eL iQ.symm,rfl,rfl,rfl,λb _ _ _ k _=>ip k,⟨⟨st,sm,by unfold WgAt at *;rw[ip ap.t];exact d⟩,⟨cl,s,r,pu ap.e⟩,f,by rw[ip (λe=>ap.A e.symm)];exact g,j⟩,λ_ q=>q,λ_ q=>.inl q⟩
def LU(L:Zy)(B:Nat)(a:MemOp):Prop:=a.act.touch?=none/\a.act.low B/\mP a.act=true/\a.act≠.mark .disable/\a.act≠.mark .enable
def TI.H{wk a:Nat->Prop}:∀(l:List MemOp) {t:Trace},TI C.L Shun wk a Sn stored rel B t->(∀b∈l,LU C.L B b)->TI C.L Shun wk a Sn stored rel B (t++l.toArray)
 | [],_,h,_=>dD h
 |b::l,t,h,d=>by
  have e:t++(b::l).toArray=(t++#[b])++l.toArray:=by apply vE;simp
  rw[e];have c:=d b aY;exact TI.H l (h.e c.1 c.2.1 c.2.2.1) λo f=>d o (by simp[f])
def tf(j:Nat):∀(l:List MemOp) (t:Trace),(∀a∈l,LU C.L B a)->Deaf (t++l.toArray) j=Deaf t j
 | [],t,_=>aY
 |a::l,t,c=>by
  have e:t++(a::l).toArray=(t++#[a])++l.toArray:=by apply vE;simp
  have d:=c a aY;rw[e,tf j l _ λo f=>c o (by simp[f]),Deaf_push];obtain⟨g,fn,h,b⟩:=a;unfold deafStep;cases b with
  |mark m=>cases m<;>first|rfl|exact absurd rfl d.2.2.2.1|exact absurd rfl d.2.2.2.2
  |_=>rfl
def fK.I(h:fK C Anc AncW Fin Shun x tg Tm Sn dn wn stored rel a gs w t)(f:i<gs.size)(k:0<i){l:List MemOp}(m:∀b∈l,LU C.L w.heap.size b/\b.g<gs.size)(c:C4 C Anc y T (Sn i) (dn i) g' w):fK C Anc AncW Fin Shun x (up tg i y) (up Tm i T) Sn dn (up wn i w) stored rel a (gs.setIfInBounds i g') w (t++l.toArray):=by
 have:=h.ah (gs':=gs.setIfInBounds i g') (w2:=w) (u:=l.toArray) (y:=y) (T:=T) (S':=Sn i) (d':=dn i) (stored':=stored) (rel':=rel) f k aY (by rw[aV f]) (by rw[aM ak];exact h.j) h.u (λj g0 _ n p=>by rw[aM (λe=>n e.symm)]at p;exact p) c (xH.e h f) (λj=>?_) (by rw[jl];exact TI.H l h.y λb d=>(m b d).1) (λb d=>(m b (dD d)).2) h.F;rw[jl,jl]at this;exact this;rw[tf j l t λb d=>(m b d).1];by_cases q:j=i;subst q;rw[aH rfl];exact h.o j f;rw[ay q]
def fK.ae(h:fK C Anc AncW Fin Shun x tg Tm Sn dn wn stored rel a gs w t)(d:x'≠.sem){a':E4}(c:su C Anc AncW Fin x' T (Sn 0) (dn 0) a' (w.setChan C.L.e 0 #[] cl s r false)):fK C Anc AncW Fin Shun x' tg (up Tm 0 T) Sn dn (up wn 0 (w.setChan C.L.e 0 #[] cl s r false)) stored rel a' (gs.setIfInBounds 0 a') (w.setChan C.L.e 0 #[] cl s r false) t:=by
 have b:0<gs.size:=(ar.1 h.j).1;have:=h.ac (gs':=gs.setIfInBounds 0 a') (w2:=w.setChan C.L.e 0 #[] cl s r false) (u:=#[]) (T:=T) (S':=Sn 0) (d':=dn 0) (a':=a') (x':=x') (stored':=stored) (rel':=rel) aY (by rw[aV b]) (λj g0 f g=>by rw[aM ak]at g;exact g) c (xH.h h b) (λj=>?_) (by rw[jl,iQ];simpa using h.y) (λk i=>by simp at i) (λq=>absurd q d);rw[jl,jl]at this;simpa using this;simp only[Array.append_empty];by_cases f:j=0;subst f;rw[aH rfl];exact h.o 0 b;rw[ay f]
def fK.Z(h:fK C Anc AncW Fin Shun x tg Tm Sn dn wn stored rel a gs w t)(g:fE C Anc){j:Nat}(i:0<j)(f:gs[j]?=some g0):offersAt g0 C.L.e true=[]:=by
 have c:=(ar.1 f).1;have d:=h.p j g0 i f;rcases d.e g (h.e j c) with⟨e,_⟩|⟨_,b|⟨q,_,b⟩⟩
 rw[e]at d;obtain⟨_,k,rfl,_⟩:=d;exact offersAt_parked_recv' ..;exact offersAt_of_not_blocked (by rw[b];decide) _ _;exact offersAt_of_not_blocked (by rcases b with b|b<;>rw[b]<;>decide) _ _
def fK.af(h:fK C Anc AncW Fin Shun x tg Tm Sn dn wn stored rel a gs w t)(hF:∀{S d g w},Fin S d g w->g.status=.running)(k:∀r,x≠.sendP r)(b:Bool):offersAt a C.L.e b=[]:=by
 have go:∀{i:gL},(∀{S d g w},i S d g w->g.status=.running)->fL C.P true C.E i (Tm 0) (Sn 0) (dn 0) a (wn 0)->offersAt a C.L.e b=[]:=λl j=>by
  have:a.status=.running:=by
   cases hq:Tm 0 with
   |leaf=>rw[hq]at j;exact l j
   |node f=>rw[hq]at j;exact j.1
  exact offersAt_of_not_blocked (by rw[this];decide) _ _
 have c:=h.u;cases x with
 |add r=>exact go (λh=>h.2.1) c
 |go r=>exact go (λh=>h.2.1) c
 |send r=>exact go (λh=>h.2.1) c
 |sendP r=>exact absurd rfl (k r)
 |close=>exact go (λh=>h.2.1) c
 |w1=>exact go (λh=>h.2.1) c
 |w2 v=>exact go (λh=>h.2.1) c
 |w3=>exact go (λh=>h.2.1) c
 |sem=>
  obtain⟨_,g0,m,h0⟩:=c;rcases m with rfl|rfl
  exact offersAt_of_not_blocked (by rw[h0.2.1];decide) _ _;unfold offersAt;dsimp only;rw[h0.2.2.1]
 |w4=>exact go (λh=>h.2.1) c
 |acq=>exact go (λh=>h.2.1) c
 |fin=>exact offersAt_of_not_blocked (by rw[hF c];decide) _ _
def fK.O(h:fK C Anc AncW Fin Shun x tg Tm Sn dn wn stored rel a gs w t)(c:fE C Anc)(hF:∀{S d g w},Fin S d g w->g.status=.running)(f:∀r,x≠.sendP r):partners (gs.setIfInBounds i ph) C.L.e true=[]:=by
 refine partners_nil λj g0 b=>?_;rcases getElem?_stand _ _ _ _ b with⟨_,rfl⟩|⟨_,b⟩
 rfl;rcases fM j with rfl|k
 rw[h.j]at b;cases b;exact h.af hF f true;exact h.Z c k b
def zF(B:fE C Anc)(hF:∀{S d g w},Fin S d g w->g.status=.running)(h:fK C Anc AncW Fin Shun x tg Tm Sn dn wn stored rel a gs w t)(l:gm C x tg stored rel gs.size w)(v:gs[i]?=some g)(m:0<i)(A:C.dT<=i)(u:stepG C.P false g w=.comm g0 #[rcase C.L.e C.z] true (.recv true) w #[])(k:tg i=.recv\/tg i=.woke)(D:dn i=0)(j:lS x=true)(F:fC C.P false C.E (uu C) (Sn i) 0 (Conc.served g0 (recvd true C.z false)) w):ui C Anc AncW Fin Shun (ga C x tg Tm a gs.size) t (runT C.P (crowd gs w sl) i):=by
 have c:=(ar.1 v).1;have n:(i==0)=false:=fS;let ⟨s,r,o⟩:=l.t
 rw[j]at o;have G:∀r,x≠.sendP r:=λr e=>by subst e;cases j
 have f:=crowd_recv_closed (P:=C.P) (sl:=sl) v (n▸u) o (h.O B hF G);rw[mQ,qC,finishComm_recv]at f;let ⟨T,H⟩:=F
 have J:∀p∈[({g:=i,fn:=g0.frame.fn,pos:=g0.frame.place,act:=.recvClosed C.L.e}:MemOp)],LU C.L w.heap.size p/\p.g<gs.size:=λp N=>by
  obtain rfl:p=_:=dD N;exact⟨⟨rfl,h.h.e,rfl,(by intro q;cases q),(by intro q;cases q)⟩,c⟩
 have Q:7<=(tg i).e:=by rcases k with e|e<;>rw[e]<;>decide
 have R:gm C x (up tg i .tell) stored rel gs.size w:=by
  refine l.V A c (λ_ _=>rfl) ⟨λq=>by simp[WTag.e]at q,λ_=>(l.e i A c).2 ak⟩ (λq=>by rw[j]at q;cases q) (λq=>by cases q) (by rcases k with e|e<;>rw[e]<;>simp) aY rfl rfl ?_;let ⟨st,sm,U,W⟩:=l.b
  exact⟨st,sm,U,W.e (by rcases k with e|e<;>rw[e]<;>rfl) (by rcases k with e|e<;>rw[e]<;>rfl) rfl⟩
 refine⟨_,_,ga C x (up tg i .tell) (up Tm i T) a gs.size,f,?_,_,_,_,_,_,_,_,_,_,_,_,_,rfl,(h.I (y:=.tell) (T:=T) (g':=Conc.served g0 (recvd true C.z false)) c m J (D▸H)),dD R,by simp[ga]⟩;refine qd (ib (by rcases k with e|e<;>rw[e]<;>rfl)) (qM c m ?_);rcases k with e|e<;>rw[e]
 exact jI cn;exact jI (show (6:Nat)<7 by decide)
def IP(p:fE C Anc)(hF:∀{S d g w},Fin S d g w->g.status=.running)(h:fK C Anc AncW Fin Shun x tg Tm Sn dn wn stored rel a gs w t)(l:gm C x tg stored rel gs.size w)(B:gs[i]?=some g)(k:0<i)(D:C.dT<=i)(j:tg i=.recv)(E:Anc (Sn i) (dn i) g (wn i))(m:lS x=false)(F:∀r,x≠.sendP r)(u:Anc (Sn i) 0 g w):
  ui C Anc AncW Fin Shun (ga C x tg Tm a gs.size) t (runT C.P (crowd gs w sl) i):=by
 have c:=(ar.1 B).1;have n:(i==0)=false:=fS;have G:=h.e i c;have v:=p.b E w G;let ⟨s,r,o⟩:=l.t
 rw[m]at o;have f:=crowd_waits (P:=C.P) (sl:=sl) B (n▸v) (λcc A=>by
  obtain rfl:cc=rcase C.L.e C.z:=dD A;exact ways_recv_none o (h.O p hF F))
 rw[mQ]at f;have H:=p.d E;have J:gm C x (up tg i .park) stored rel gs.size w:=by
  refine l.V D c (λ_ _=>rfl) ⟨λq=>by simp[WTag.e]at q,λ_=>(l.e i D c).2 (by rw[j];decide)⟩ (λ_=>.inr (.inl rfl)) (λ_=>⟨m,F⟩) (by rw[j];simp) aY rfl rfl ?_;let ⟨st,sm,K,M⟩:=l.b
  exact⟨st,sm,K,M.e (j▸rfl) (j▸rfl) rfl⟩
 refine⟨_,_,ga C x (up tg i .park) (up Tm i .leaf) a gs.size,f,?_,_,_,_,_,_,_,_,_,_,_,_,_,rfl,(h.I (y:=.park) (T:=.leaf) (g':=parked g #[rcase C.L.e C.z] (.recv true)) (l:=[]) c k (λQ N=>by cases N) ⟨H,g,rfl,u⟩),dD J,by simp[ga]⟩;refine qd (ib (j▸rfl)) (qM c k ?_);rw[j];exact jI (show (8:Nat)<9 by decide)
end
end Go.Eqv
