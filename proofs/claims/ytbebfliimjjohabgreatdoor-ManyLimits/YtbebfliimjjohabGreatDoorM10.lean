/- Parts of the proof. -/
import Derived.Test.YtbebfliimjjohabGreatDoorM09
set_option maxRecDepth 100000
set_option maxHeartbeats 8000000
set_option linter.all false
open Go.Conc
open Go.ConcR (KK wgBlock WgAt stA smA rd wr mk)
open Go.ConcN (sumTo sumTo_congr)
namespace Go.Eqv
variable{ad:Addr}{es:Array Event}{gs gs':Array Bm}{buf:Array Bg}{cl tm:Bool}{a g g' g0:Bm}{st sm:Int}{Shun:Loc->Prop}{x x':MTag}{i n p b m c cap s r B:Nat}{dn:Nat->Nat}{Sn:Nat->Nat->Prop}{rel rel':Nat->Option Nat}{stored stored':Nat->Prop}{Tm:Nat->Tr}{tg:Nat->WTag}{wn:Nat->A1}{sl:Option (Nat×Nat)}{T:Tr}{t u:Trace}{y:WTag}{w w2:A1}{C:ee}{Anc AncW Fin:gS}
section
variable{v:Bg}
def gM.ae(l:gM C x tg stored rel n w)(k:C.eu<=i)(M:i<n)(g:∀j,j≠i->rel' j=rel j)(G:(y.e<=5->∃p,rel' i=some p)/\(6<=y.e->rel' i=none))(K:mV x=false->y=.recv\/y=.park\/∃p,y=.busy p)(D:y=.park->mV x=false/\∀r,x≠.sendP r)(m:∃s r,w2.heap[C.L.e]?=some (.chan 0 #[] (mV x) s r false))(o:∃st sm,WgAt C.ty C.L.b w2 st sm/\rx C x (up tg i y) n st sm)(t:∀p,p<Gv C x->stored' p\/∃c,C.eu<=c/\c<n/\up tg i y c=.busy p)(v:∀c p,C.eu<=c->c<n->up tg i y c=.busy p->p<Gv C x/\¬stored' p)(z:∀c j p,C.eu<=c->c<n->C.eu<=j->j<n->up tg i y c=.busy p->up tg i y j=.busy p->c=j)(B:∃cs,w2.heap[C.L.h]?=some (.cells cs C.ta)/\cs.size=C.nt/\∀p,stored' p->p<Gv C x/\cs[p]?=some (C.BO p)):gM C x (up tg i y) stored' rel' n w2:=by
 have d:∀j,(up tg i y j=tg j/\j≠i)\/(j=i/\up tg i y j=y):=λj=>by
  by_cases a:j=i;subst a;exact .inr ⟨rfl,cI⟩;exact .inl ⟨dj a,a⟩
 refine⟨l.h,l.A,l.H,λj a=>?_,m,o,λj k a=>?_,λj a=>?_,λhc j k a=>?_,λhc j a=>?_,λr E j a=>?_,t,v,z,B⟩;rw[dj (by omega)];exact l.I j a;rcases d j with⟨e,f⟩|⟨rfl,e⟩
 rw[e,g j f];exact l.e j k a;rw[e];exact G;rw[g j (by omega)];exact l.F j a;rcases d j with⟨e,f⟩|⟨rfl,e⟩
 rw[e];exact l.u hc j k a;rw[e];exact K hc;rcases d j with⟨e,f⟩|⟨rfl,e⟩
 rw[e];exact l.J hc j a;rw[e];intro q;rw[(D q).1]at hc;cases hc;rcases d j with⟨e,f⟩|⟨rfl,e⟩
 rw[e];exact l.O r E j a;rw[e];intro q;exact(D q).2 r E
def sX(b:∀p,y≠.busy p){j:Nat}(h:up tg i y j=.busy p):tg j=.busy p/\j≠i:=by
 by_cases a:j=i;subst a;rw[cI]at h;exact absurd h (b p);rw[dj a]at h;exact⟨h,a⟩
def gM.V(l:gM C x tg stored rel n w)(s:C.eu<=i)(u:i<n)(a:∀j,j≠i->rel' j=rel j)(v:(y.e<=5->∃p,rel' i=some p)/\(6<=y.e->rel' i=none))(z:mV x=false->y=.recv\/y=.park\/∃p,y=.busy p)(A:y=.park->mV x=false/\∀r,x≠.sendP r)(D:∀p,tg i≠.busy p)(f:∀p,y≠.busy p)(g:w2.heap[C.L.e]?=w.heap[C.L.e]?)(k:w2.heap[C.L.h]?=w.heap[C.L.h]?)(m:∃st sm,WgAt C.ty C.L.b w2 st sm/\rx C x (up tg i y) n st sm):gM C x (up tg i y) stored rel' n w2:=by
 refine l.ae s u a v z A (by rw[g];exact l.t) m (λp E=>?_) (λj p c d e=>l.y j p c d (sX f e).1) (λj F p c d b3 b4 G H=>l.two j F p c d b3 b4 (sX f G).1 (sX f H).1) (by rw[k];exact l.o);rcases l.B p E with q|⟨j,c,d,b3⟩
 exact .inl q;exact .inr ⟨j,c,d,by rw[dj (λe=>by subst e;exact D p b3)];exact b3⟩
def rx.e(c:rx C x tg n st sm)(hc:(tg i).h=y.h)(d:(tg i).j=false)(f:y.j=false):rx C x (up tg i y) n st sm:=by
 have a:∀j,(up tg i y j).j=(tg j).j:=λj=>by
  by_cases b:j=i;subst b;rw[cI,d,f];rw[dj b]
 have g:∀j,((up tg i y j=.d2\/up tg i y j=.d3)↔(tg j=.d2\/tg j=.d3))/\(up tg i y j=.d4↔tg j=.d4):=λj=>by
  by_cases b:j=i;subst b;rw[cI];constructor;constructor<;>(rintro(q|q)<;>simp_all [WTag.j]);constructor<;>(intro q;simp_all [WTag.j]);rw[dj b];exact⟨BM,BM⟩
 unfold rx at c⊢;simp only[iJ hc,a,g];exact c
def jd(w:A1)(ad:Addr)(v:Bg)(h:b≠ad.block):(w.setCell ad v).heap[b]?=w.heap[b]?:=by
 show (w.heap.modify ad.block _)[b]?=_;rw[bU,ax (λe=>h e.symm)]
def sd(w:A1)(ad:Addr)(v:Bg):(w.setCell ad v).heap.size=w.heap.size:=by simp[World.setCell]
def yC.j(ap:Ap C.L Sn w.heap.size)(c:C.E.J (w.setCell ad v))(a:ad.block=C.L.b\/ad.block=C.L.h):yC C (Sn i) (Sn i) w (w.setCell ad v):=
 ⟨fR (sd w ad v).symm,rfl,rfl,rfl,λb _ _ d _ f=>jd w ad v (λe=>a.elim (λq=>d (e.trans q)) λq=>f (e.trans q)),c,λ_ q=>q,λ_ q=>.inl q⟩
def Mh(i:C.E.J w)(ap:Ap C.L Sn w.heap.size)(a:WgAt C.ty C.L.b w st sm)(v:Int):C.E.J (w.setCell (stA C.L.b) (.int .u64 v))/\C.E.J (w.setCell (smA C.L.b) (.int .u32 v)):=by
 obtain⟨_,⟨cl,s,r,c⟩,d,f,g⟩:=i;have c1:∀ad u,ad.block=C.L.b->(w.setCell ad u).heap[C.L.e]?=w.heap[C.L.e]?:=λad u h=>jd w ad u (by rw[h];exactλe=>ap.t e.symm);have c2:∀ad u,ad.block=C.L.b->(w.setCell ad u).heap[C.L.h]?=w.heap[C.L.h]?:=λad u h=>jd w ad u (by rw[h];exactλe=>ap.y e.symm);exact⟨⟨⟨_,_,a.setSt v⟩,⟨cl,s,r,by rw[c1 _ _ rfl];exact c⟩,d,by rw[c2 _ _ rfl];exact f,g⟩,⟨⟨_,_,a.setSm v⟩,⟨cl,s,r,by rw[c1 _ _ rfl];exact c⟩,d,by rw[c2 _ _ rfl];exact f,g⟩⟩
def Wc{α:Type}(es:Array α)(m:Nat):es.extract 0 m++es.extract m es.size=es:=by
 apply wN;rw[Array.toList_append,yR,yR];simp;rw[iT (l:=es.toList.drop m) (by simp),oG]
def gr.ag(h:gr C Anc AncW Fin Shun x tg Tm Sn dn wn stored rel a gs w t)(A:1<=C.eu)(M:i=0\/(C.eu<=i/\i<gs.size))(B:i<gs.size)(hd:1<=dn i)(l:∀e∈es,(∃ad:Addr,ad.block=C.L.b/\e.loc=.cell ad/\e.sync=true)\/(e.loc=.mark .disable\/e.loc=.mark .enable))(D:∀k,k<=es.size->1<=deafBehind (dn i) (es.extract 0 k))(hs:w2.heap.size=w.heap.size)(fn:FuncId)(c:String):
  TI C.L Shun (C.eu<=·) (λk=>k=0\/(C.eu<=k/\k<gs.size)) Sn stored rel w2.heap.size (t++MemOp.ofEvents i fn c es):=by
 have:=h.y.j h.h (u:=MemOp.ofEvents i fn c es) (k:=i) (B':=w2.heap.size) (S':=Sn i) (nw:=λ_=>False) M (λv g=>by obtain⟨e,_,rfl⟩:=Conc.mem_ofEvents g;rfl) (λv g y m O=>?_) (λ_ q=>q.elim) (λb A=>.inl A) (λb A=>A) (fR hs.symm) (λv g=>?_)
  (λN p U k v g P y m O=>?_) (λv g=>?_) (λh0=>M.elim (λq=>absurd q h0) (λq=>q.1))
 rw[EU,xl,jN]at this;exact this;obtain⟨e,n,rfl⟩:=Conc.mem_ofEvents g;let ⟨r,E,F⟩:=e
 rcases l _ n with⟨ad,f,d,s⟩|d|d<;>dsimp only at d<;>subst d
 dsimp only at s;subst s;simp only[MemAct.ofEvent,MemAct.touch?,aW]at m;subst m;exact .inr (.inr (.inr (.inl ⟨f,.inl rfl⟩)));simp[MemAct.ofEvent,MemAct.touch?]at m;simp[MemAct.ofEvent,MemAct.touch?]at m;obtain⟨e,n,rfl⟩:=Conc.mem_ofEvents g;let ⟨r,E,F⟩:=e
 rcases l _ n with⟨ad,f,d,s⟩|d|d<;>dsimp only at d<;>subst d
 show ad.block<_;rw[f,hs];exact h.h.h;trivial;trivial
 ·
  have G:v∈MemOp.ofEvents i fn c es:=by
   rcases getElem?_append_cases g with⟨q,_⟩|⟨_,q⟩
   omega;exact q
  obtain⟨e,n,rfl⟩:=Conc.mem_ofEvents G;let ⟨r,E,F⟩:=e
  rcases l _ n with⟨ad,f,d,s⟩|d|d<;>dsimp only at d<;>subst d
  dsimp only at s;subst s;simp only[MemAct.ofEvent,MemAct.touch?,aW]at m;subst m;refine⟨rfl,f,λQ=>?_⟩;let ⟨g0,z,H⟩:=Q
  have I:g0=i:=by
   simp only[Trace.g?,g,mM,aW]at z;exact z.symm
  subst I;have N:k<=(t++MemOp.ofEvents g0 fn c es).size:=wS (lt_size_of_getElem? g);have J:(MemOp.ofEvents g0 fn c es).size=es.size:=by rw[ofEvents_eq];simp
  have K:k-t.size<=es.size:=by rw[kD,J]at N;omega
  have R:(t++MemOp.ofEvents g0 fn c es).deaf g0 k=deafBehind (dn g0) (es.extract 0 (k-t.size)):=by
   have S:t++MemOp.ofEvents g0 fn c es=(t++MemOp.ofEvents g0 fn c (es.extract 0 (k-t.size)))++(MemOp.ofEvents g0 fn c (es.extract (k-t.size) es.size)):=by
    rw[ofEvents_eq,ofEvents_eq,ofEvents_eq,Array.append_assoc,<-oH];rw[Wc es (k-t.size)]
   have T:(t++MemOp.ofEvents g0 fn c (es.extract 0 (k-t.size))).size=k:=by rw[kD,ofEvents_eq,eR,Array.size_extract];omega
   rw[S,deaf_old (by omega),<-h.o g0 B,<-Deaf_own];unfold Deaf;rw[T]
  rw[R]at H;have:=D _ K;omega;simp[MemAct.ofEvent,MemAct.touch?]at m;simp[MemAct.ofEvent,MemAct.touch?]at m
 obtain⟨e,n,rfl⟩:=Conc.mem_ofEvents g;let ⟨r,E,F⟩:=e
 rcases l _ n with⟨ad,f,d,s⟩|d|d<;>dsimp only at d<;>subst d<;>rfl
end
section
variable{v:Bg}
theorem vN(i:Nat)(fn:FuncId)(pos:String)(e:Event):MemOp.ofEvents i fn pos #[e]=#[{g:=i,fn,pos,act:=.ofEvent e}]:=by rw[ofEvents_eq];simp
def nR(i:Nat)(fn:FuncId)(a:String):MemOp.ofEvents i fn a #[]=#[]:=by rw[ofEvents_eq];simp
def yE(d:Nat){e:Event}(a:e.loc≠.mark .disable)(b:e.loc≠.mark .enable):deafBehind d #[e]=d:=by
 refine deafBehind_still (λx c=>?_) d;have:x=e:=by simpa using c
 rw[this];exact⟨a,b⟩
def yC.e(h:gr C Anc AncW Fin Shun x tg Tm Sn dn wn stored rel a gs w t)(b:i<gs.size):yC C (Sn i) (Sn i) w w:=
 ⟨aa _,rfl,rfl,rfl,λ_ _ _ _ _ _=>rfl,(h.e i b).h,λ_ q=>q,λ_ q=>.inl q⟩
def GR(hA:gl C Anc)(hF:∀{S d g w},Fin S d g w->g.status=.running)(h:gr C Anc AncW Fin Shun x tg Tm Sn dn wn stored rel a gs w t)(l:gM C x tg stored rel gs.size w)(hg:gs[i]?=some g)(I:0<i)(m:C.eu<=i)(f:tg i=.busy p)(U:vC C Anc p (Sn i) (dn i) g (wn i)):
  vf C Anc AncW Fin Shun (gG C x tg Tm a gs.size) t (runT C.P (crowd gs w sl) i):=by
 have c:=(am.1 hg).1;have hr:=h.e i c;let ⟨hd,_,U⟩:=U
 let ⟨g',V,T,hT⟩:=U w hr
 let ⟨W,X⟩:=l.y i p m c f
 let ⟨cs,Y,K,Z⟩:=l.o
 have ad:p<C.nt:=by
  have:Gv C x<=C.nt:=by cases x<;>simp[Gv]
  omega
 have hset:(w.setCell (aA C.L.h p) (C.BO p)).heap[C.L.h]?=some (.cells (cs.setIfInBounds p (C.BO p)) C.ta):=by
  show (w.heap.modify C.L.h _)[C.L.h]?=_;rw[bU,az rfl,Y];rfl
 have v:(w.setCell (aA C.L.h p) (C.BO p)).heap[C.L.b]?=w.heap[C.L.b]?:=jd w _ _ h.h.y;have M:(w.setCell (aA C.L.h p) (C.BO p)).heap[C.L.e]?=w.heap[C.L.e]?:=jd w _ _ h.h.A;have hJ:C.E.J (w.setCell (aA C.L.h p) (C.BO p)):=by
  let ⟨⟨st,sm,h1⟩,⟨cl,s,r,h2⟩,_⟩:=hr.h
  exact⟨⟨st,sm,by unfold WgAt at *;rw[v];exact h1⟩,⟨cl,s,r,by rw[M];exact h2⟩,_,hset,by simpa using K⟩
 have n:=(l.e i m c).2 (by rw[f];simp[WTag.e]);have z:∀{j q},up tg i .recv j=.busy q->tg j=.busy q/\j≠i:=λe=>sX (by simp) e;refine AN (y:=.recv) (T:=T) (S':=Sn i) (stored':=λq=>stored q\/q=p) (rel':=rel) hA hF h l hg I V ?_ (yC.j h.h hJ (.inr rfl)) ?_ ?_ (.inl v) λa'=>?_;rw[hd];exact hT
 .rw[jN,vN];have:=h.y.j h.h (u:=#[{g:=i,fn:=g.frame.fn,pos:=g.frame.place,act:=.ofEvent ⟨.cell (aA C.L.h p),true,false⟩}]) (k:=i) (B':=(w.setCell (aA C.L.h p) (C.BO p)).heap.size) (S':=Sn i) (nw:=(· = p)) (.inr ⟨m,c⟩) (λO Q=>?_) (λO Q y f hm=>?_) (λq e=>by subst e;exact X) (λb m=>.inl m) (λb m=>m) (fR (sd w _ _).symm) (λO Q=>?_) (λ_ q F=>by rw[n]at F;cases F) (λO Q=>?_) (λ_=>m);rw[EU,jN]at this;exact this;all_goals (have e:O = {g:=i,fn:=g.frame.fn,pos:=g.frame.place,act:=.ofEvent ⟨.cell (aA C.L.h p),true,false⟩}:=by simpa using Q)
  all_goals subst e
  rfl;simp only[MemAct.ofEvent,MemAct.touch?,aW]at f;subst f;exact .inr (.inr (.inr (.inr (.inr ⟨p,rfl,rfl⟩))));show C.L.h<_;rw[sd];exact h.h.i;rfl
 refine l.ae m c (λ_ _=>rfl) ⟨λq=>by simp[WTag.e]at q,λ_=>n⟩ (λ_=>.inl rfl) (λq=>by cases q) (by rw[M];exact l.t) ?_ (λq F=>?_) (λj q G H e=>?_) (λj j' q G H b3 b4 R e2=>l.two j j' q G H b3 b4 (z R).1 (z e2).1) ⟨_,hset,by simpa using K,λq F=>?_⟩;let ⟨st,sm,h1,h2⟩:=l.b
 exact⟨st,sm,by unfold WgAt at *;rw[v];exact h1,h2.e (by rw[f];rfl) (by rw[f];rfl) rfl⟩;rcases l.B q F with q2|⟨j,G,H,b3⟩
 exact .inl (.inl q2);by_cases N:j=i;subst N;rw[f]at b3;cases b3;exact .inl (.inr rfl);exact .inr ⟨j,G,H,by rw[dj N];exact b3⟩;let ⟨R,e2⟩:=z e
 let ⟨k1,k2⟩:=l.y j q G H R
 exact⟨k1,λq2=>q2.elim k2 λq3=>by subst q3;exact e2 (l.two j i q G H m c R f)⟩;rw[eP];by_cases D:p=q;subst D;exact⟨W,by rw[az rfl,az (by omega)]⟩;rw[ax D];exact Z q (F.elim id λe=>absurd e.symm D);refine rj (iJ (by rw[f];rfl)) (rN c I ?_);rw[f];exact kg (show (9:Nat)<10 by decide)
def J9(A:gl C Anc)(B:∀{S d g w},Fin S d g w->g.status=.running)(h:gr C Anc AncW Fin Shun x tg Tm Sn dn wn stored rel a gs w t)(l:gM C x tg stored rel gs.size w)(z:gs[i]?=some g)(k:0<i)(n:C.eu<=i)(f:tg i=.tell)(p:vu C (Sn i) (dn i) g (wn i)):
  vf C Anc AncW Fin Shun (gG C x tg Tm a gs.size) t (runT C.P (crowd gs w sl) i):=by
 have c:=(am.1 z).1;let ⟨hd,_,p⟩:=p
 let ⟨g',r,m,D⟩:=p w (h.e i c)
 have s:6<=(tg i).e:=by rw[f];simp[WTag.e]
 refine AN (y:=.k1) (T:=rA m) (S':=Sn i) (stored':=stored) (rel':=λj=>if j=i then some t.size else rel j) A B h l z k r ⟨?_,m,rfl,D⟩ (yC.e h c) ?_ ?_ (.inl rfl) λH=>?_;rw[hd];exact yE 0 (by simp[mk]) (by simp[mk]);rw[jN,vN];exact h.y.O h.h ⟨rfl,rfl⟩ (by rw[h.o i c,hd]) ((l.e i n c).2 s);have v:mV x=true:=by
  cases hc:mV x with
  |true=>rfl
  |false=>have:=l.u hc i n c;rw[f]at this;simp at this
 refine l.V n c (λj E=>ax E) ⟨λ_=>⟨t.size,az rfl⟩,λq=>by simp[WTag.e]at q⟩ (λq=>by rw[v]at q;cases q) (λq=>by cases q) (by rw[f];simp) (by simp) rfl rfl ?_;let ⟨st,sm,F,G⟩:=l.b
 exact⟨st,sm,F,G.e (by rw[f];rfl) (by rw[f];rfl) rfl⟩;refine rj (iJ (by rw[f];rfl)) (rN c k ?_);rw[f];exact kg (by decide)
def gM.j(l:gM C x tg stored rel n w)(a:C.eu<=i)(b:i<n)(c:tg i≠.recv)(d:tg i≠.park)(e:∀p,tg i≠.busy p):mV x=true:=by
 cases hc:mV x with
 |true=>rfl
 |false=>
  rcases l.u hc i a b with q|q|⟨p,q⟩
  exact absurd q c;exact absurd q d;exact absurd q (e p)
def lC(p:gl C Anc)(q:∀{S d g w},Fin S d g w->g.status=.running)(h:gr C Anc AncW Fin Shun x tg Tm Sn dn wn stored rel a gs w t)(l:gM C x tg stored rel gs.size w)(n:gs[i]?=some g)(b:0<i)(j:Tm i=rA (m+1))(k:stepG C.P false g w=.go g' w #[])(c:Ed C Anc (tg i) (rA m) (Sn i) (dn i) g' w)(o:∀T,fW (tg i) T=((tg i).e,T)):
  vf C Anc AncW Fin Shun (gG C x tg Tm a gs.size) t (runT C.P (crowd gs w sl) i):=by
 have f:=(am.1 n).1;refine AN (y:=tg i) (T:=rA m) (S':=Sn i) (stored':=stored) (rel':=rel) p q h l n b k c (yC.e h f) ?_ (by rw[jN];exact l) (.inl rfl) λr=>?_;rw[jN,nR];simpa using h.y;refine rj (iJ rfl) (rN f b ?_);rw[o,o,j];exact yX (GF m)
def pH{S:Nat->Prop}{Stop:Bm->A1->Prop}{w0:A1}(a:NJ C S Stop m g w0)(b:dc C.E S w0 w):Stop g w\/∃c g',m=c+1/\stepG C.P false g w=.go g' w #[]/\NJ C S Stop c g' w:=by
 cases m with
 |zero=>exact .inl (a w b)
 |succ m=>
  rcases a with a|⟨_,a⟩
  exact .inl (a w b);have:=a w b;cases hst:stepG C.P false g w with
  |go g' e es=>
   rw[hst]at this;obtain⟨⟨rfl,rfl⟩,d⟩:=this;exact .inr ⟨m,g',rfl,rfl,d⟩
  |_=>rw[hst]at this;exact this.elim
def SN(A:gl C Anc)(B:∀{S d g w},Fin S d g w->g.status=.running)(h:gr C Anc AncW Fin Shun x tg Tm Sn dn wn stored rel a gs w t)(l:gM C x tg stored rel gs.size w)(r:gs[i]?=some g)(k:0<i)(u:C.eu<=i)(f:tg i=.k1):
  vf C Anc AncW Fin Shun (gG C x tg Tm a gs.size) t (runT C.P (crowd gs w sl) i):=by
 have c:=(am.1 r).1;have E:=h.e i c;have D:=h.p i g k r;rw[f]at D;let ⟨hd,m,v,F⟩:=D
 rcases pH F E with⟨_,g',n,s,o⟩|⟨s,g',rfl,n,o⟩
 have z:=l.j u c (by rw[f];simp) (by rw[f];simp) (by rw[f];simp);refine AN (y:=.d1) (T:=rA s) (S':=Sn i) (stored':=stored) (rel':=rel) A B h l r k n ⟨?_,s,rfl,o⟩ (yC.e h c) ?_ ?_ (.inl rfl) λI=>?_;rw[hd];rfl;rw[jN,vN];exact h.y.e rfl aE rfl;refine l.V u c (λ_ _=>rfl) ⟨λ_=>(l.e i u c).1 (by rw[f];simp[WTag.e]),λq=>by simp[WTag.e]at q⟩ (λq=>by rw[z]at q;cases q) (λq=>by cases q) (by rw[f];simp) (by simp) rfl rfl ?_;let ⟨st,sm,G,H⟩:=l.b
 exact⟨st,sm,G,H.e (by rw[f];rfl) (by rw[f];rfl) rfl⟩;refine rj (iJ (by rw[f];rfl)) (rN c k ?_);rw[f];exact kg (by decide);exact lC A B h l r k v n (by rw[f];exact⟨hd,s,rfl,o⟩) (λT=>by rw[f];rfl)
def Pb{a c:Int}(h:WgAt C.ty C.L.b w st sm)(d:WgAt C.ty C.L.b w a c):st=a/\sm=c:=by
 unfold WgAt wgBlock at *;rw[h]at d;simp at d;exact d
def no1(h:WgAt C.ty C.L.b w st 0):¬WgAt C.ty C.L.b w 0 1:=λq=>absurd (Pb h q).2 (by decide)
def Mk(l:gM C x tg stored rel n w):Vc C tg n<=C.nw:=by
 have b:Vc C tg n<=n-C.eu:=SP (λi=>by unfold BV;split<;>omega) (λi a=>by unfold BV;rw[show decide (C.eu<=i)=false by simpa using a];rfl);have c:=l.A;have d:R0 C x<=C.nw:=by cases x<;>simp[R0]
 omega
def ZM(a:i<n)(b:C.eu<=i)(hc:(tg i).h=true):1<=Vc C tg n:=by
 have:=ER (f:=BV C tg) a;have e:BV C tg i=1:=by unfold BV;rw[hc];simp[b]
 unfold Vc;omega
def pD(h:es=#[rd (stA C.L.b),wr (stA C.L.b)]\/es=#[rd (stA C.L.b)]\/es=#[wr (stA C.L.b)]\/es=semEvents (smA C.L.b)):(∀e∈es,(∃ad:Addr,ad.block=C.L.b/\e.loc=.cell ad/\e.sync=true)\/(e.loc=.mark .disable\/e.loc=.mark .enable))/\(∀k,k<=es.size->1<=deafBehind 1 (es.extract 0 k))/\deafBehind 1 es=1:=by
 rcases h with rfl|rfl|rfl|rfl
 refine⟨λe a=>?_,λk c=>?_,rfl⟩;rcases(by simpa using a:e=_\/e=_) with rfl|rfl<;>exact .inl ⟨_,rfl,rfl,rfl⟩
 have:k=0\/k=1\/k=2:=by simp at c;omega
 rcases this with rfl|rfl|rfl<;>exact aa 1
 refine⟨λe a=>?_,λk c=>?_,rfl⟩;obtain rfl:e=_:=by simpa using a
 exact .inl ⟨_,rfl,rfl,rfl⟩;have:k=0\/k=1:=by simp at c;omega
 rcases this with rfl|rfl<;>exact aa 1
 refine⟨λe a=>?_,λk c=>?_,rfl⟩;obtain rfl:e=_:=by simpa using a
 exact .inl ⟨_,rfl,rfl,rfl⟩;have:k=0\/k=1:=by simp at c;omega
 rcases this with rfl|rfl<;>exact aa 1
 refine⟨λe a=>?_,λk c=>?_,rfl⟩;rcases(by simpa[semEvents] using a:e=_\/e=_\/e=_\/e=_) with rfl|rfl|rfl|rfl
 exact .inr (.inl rfl);exact .inl ⟨_,rfl,rfl,rfl⟩;exact .inl ⟨_,rfl,rfl,rfl⟩;exact .inr (.inr rfl);have:k=0\/k=1\/k=2\/k=3\/k=4:=by simp[semEvents]at c;omega
 rcases this with rfl|rfl|rfl|rfl|rfl<;>first|exact aa 1|exact du 1
end
section
variable{v:Bg}
def ED(b:y.j=false)(h:∀j,j<n->j≠i->(tg j).j=false):∀j,j<n->(up tg i y j).j=false:=λj c=>by
 by_cases a:j=i;subst a;rw[cI];exact b;rw[dj a];exact h j c a
def SV{V:Nat}:Xc x V<Xc x (V+1):=by
 cases x with
 |w2 v=>
      unfold Xc;dsimp only;repeat' split
      all_goals omega
 |_=>show 3*V+1<3*(V+1)+1;omega
def sf(D:gl C Anc)(E:∀{S d g w},Fin S d g w->g.status=.running)(h:gr C Anc AncW Fin Shun x tg Tm Sn dn wn stored rel a gs w t)(l:gM C x tg stored rel gs.size w)(A:gs[i]?=some g)(r:0<i)(n:C.eu<=i)(s:stepG C.P false g w=.go g' w2 es)(hd:dn i=1)(v:es=#[rd (stA C.L.b),wr (stA C.L.b)]\/es=#[rd (stA C.L.b)]\/es=#[wr (stA C.L.b)]\/es=semEvents (smA C.L.b))(f:w2=w\/∃u,w2=w.setCell (stA C.L.b) (.int .u64 u)\/w2=w.setCell (smA C.L.b) (.int .u32 u))(o:(tg i).e<=4)(N:y.e<=3)(m:Ed C Anc y T (Sn i) 1 g' w2)(z:∃st sm,WgAt C.ty C.L.b w2 st sm/\rx C x (up tg i y) gs.size st sm)(F:w2.heap[C.L.b]?=w.heap[C.L.b]?\/¬WgAt C.ty C.L.b w2 0 1\/(mayWake C.P g=true/\(g'.status=.running\/g'.status=.finished)))(G:∀a',Lt (gG C x (up tg i y) (up Tm i T) a' gs.size) (gG C x tg Tm a gs.size)):
  vf C Anc AncW Fin Shun (gG C x tg Tm a gs.size) t (runT C.P (crowd gs w sl) i):=by
 have c:=(am.1 A).1;have B:=h.e i c;let ⟨k1,H,I⟩:=pD v
 let ⟨J,K,k,_⟩:=l.b
 have M:yC C (Sn i) (Sn i) w w2:=by
  rcases f with rfl|⟨u,rfl|rfl⟩
  exact yC.e h c;exact yC.j h.h (Mh B.h h.h k u).1 (.inl rfl);exact yC.j h.h (Mh B.h h.h k u).2 (.inl rfl)
 have nb:∀{y:WTag},y.e<=4->y≠.recv/\y≠.park/\∀p,y≠.busy p:=λ{y} q=>⟨λe=>by subst e;simp[WTag.e]at q,λe=>by subst e;simp[WTag.e]at q,λp e=>by subst e;simp[WTag.e]at q⟩;refine AN (y:=y) (T:=T) (S':=Sn i) (stored':=stored) (rel':=rel) D E h l A r s (by rw[hd,I];exact m) M ?_ ?_ F G;rw[jN];exact h.ag l.h (.inr ⟨n,c⟩) c (by omega) k1 (by rw[hd];exact H) (by rcases f with rfl|⟨u,rfl|rfl⟩<;>simp[World.setCell]) _ _;exact l.V n c (λ_ _=>rfl) ⟨λ_=>(l.e i n c).1 (by omega),λq=>by omega⟩ (λq=>by rw[(l.j n c (nb o).1 (nb o).2.1 (nb o).2.2)]at q;cases q) (λq=>absurd q (nb (by omega)).2.1) (nb o).2.2 (nb (by omega)).2.2 (by rcases f with rfl|⟨u,rfl|rfl⟩<;>first|rfl|exact jd w _ _ (λe=>h.h.t e.symm)) (by rcases f with rfl|⟨u,rfl|rfl⟩<;>first|rfl|exact jd w _ _ (λe=>h.h.y e.symm)) z
def SJ(X:gl C Anc)(Y:∀{S d g w},Fin S d g w->g.status=.running)(bc:C.nw<2147483647)(h:gr C Anc AncW Fin Shun x tg Tm Sn dn wn stored rel a gs w t)(l:gM C x tg stored rel gs.size w)(O:gs[i]?=some g)(s:0<i)(M:C.eu<=i)(r:tg i=.d1):
  vf C Anc AncW Fin Shun (gG C x tg Tm a gs.size) t (runT C.P (crowd gs w sl) i):=by
 have f:=(am.1 O).1;have hr:=h.e i f;have hs:=h.p i g s O;rw[r]at hs;let ⟨hd,m,Z,hG⟩:=hs
 rcases pH hG hr with⟨_,D⟩|⟨W,g',rfl,u,E⟩
 .let ⟨st,sm,F,k⟩:=l.b
  have bg:=ZM f M (show (tg i).h=true by rw[r];rfl);have bK:=Mk l;have ad:=l.j M f (by rw[r];simp) (by rw[r];simp) (by rw[r];simp);have G:∀{y:WTag},y.h=false->Vc C (up tg i y) gs.size+1=Vc C tg gs.size:=λhc=>VY f M (by rw[r];rfl) hc;let ⟨V,N⟩:∃V,Vc C tg gs.size=V+1:=⟨Vc C tg gs.size-1,by omega⟩
  have A:∀{y:WTag},y.h=false->Vc C (up tg i y) gs.size=V:=λhc=>by have:=G hc;omega
  have aI:∃wt:Nat,wt<=1/\st=(V+1:Nat)*KK+wt/\sm=0/\(∀j,j<gs.size->(tg j).j=false)/\((wt=1/\(x=.w3\/x=.sem))\/(wt=0/\(x=.w1\/∃v,x=.w2 v))):=by
   cases x<;>first|(simp[mV]at ad;done)|skip
   case w1=>let ⟨H,I,J⟩:=k;exact⟨0,by omega,by rw[H,N];simp[Ep],I,J,.inr ⟨rfl,.inl rfl⟩⟩
   case w2 v=>let ⟨H,I,J⟩:=k;exact⟨0,by omega,by rw[H,N];simp[Ep],I,J,.inr ⟨rfl,.inr ⟨v,rfl⟩⟩⟩
   case w3=>
    rcases k with⟨Q,H,I,J⟩|⟨Q,_⟩|⟨Q,_⟩
    exact⟨1,by omega,by rw[H,N];rfl,I,J,.inl ⟨rfl,.inl rfl⟩⟩;omega;omega
   case sem=>
    rcases k with⟨Q,H,I,J⟩|⟨Q,_⟩|⟨Q,_⟩
    exact⟨1,by omega,by rw[H,N];rfl,I,J,.inl ⟨rfl,.inr rfl⟩⟩;omega;omega
   all_goals (have:=k.1;omega)
  obtain⟨wt,aS,R,rfl,o,hx⟩:=aI;let ⟨g',u,a0,a1⟩:=D V wt aS (by omega) (by rw[R]at F;simpa using F)
  have B:WgAt C.ty C.L.b (w.setCell (stA C.L.b) (.int .u64 (V*KK+wt))) (V*KK+wt) 0:=F.setSt _;by_cases c:V=0/\wt=1;let ⟨W,E⟩:=a0 c
  refine sf (y:=.d2) (T:=rA W) X Y h l O s M u hd (.inl rfl) (.inr ⟨_,.inl rfl⟩) (by rw[r];decide) (by decide) ⟨rfl,W,rfl,E⟩ ⟨_,_,B,?_⟩ (.inr (.inl (no1 B))) λa'=>?_;have K:=A (y:=.d2) rfl;have:rx C .w3 (up tg i .d2) gs.size (V*KK+wt) 0:=.inr (.inl ⟨by omega,rfl,i,M,f,.inl ⟨.inl (cI),by rw[c.1,c.2];simp⟩,λj hj ba=>by rw[dj ba];exact o j hj⟩);rcases hx with⟨_,rfl|rfl⟩|⟨e,_⟩
  exact this;exact this;omega;unfold gG;rw[N,A (y:=.d2) rfl];exact WD SV;let ⟨q,hq⟩:=a1 c
  refine sf (y:=.quit q) (T:=.leaf) X Y h l O s M u hd (.inl rfl) (.inr ⟨_,.inl rfl⟩) (by rw[r];decide) (by simp[WTag.e]) hq ⟨_,_,B,?_⟩ (.inr (.inl (no1 B))) λa'=>?_;have K:=A (y:=.quit q) rfl;have U:=ED (tg:=tg) (y:=.quit q) (i:=i) (n:=gs.size) rfl λj hj _=>o j hj;rcases hx with⟨rfl,e⟩|⟨rfl,e⟩
  have:rx C .w3 (up tg i (.quit q)) gs.size (V*KK+(1:Nat)) 0:=.inl ⟨by omega,by rw[K];rfl,rfl,U⟩;rcases e with rfl|rfl
  exact this;exact this;have:∀z:MTag,Ep z=0->(V*KK+((0:Nat):Int)=(Vc C (up tg i (.quit q)) gs.size+Ep z:Nat)*KK/\(0:Int)=0/\∀j,j<gs.size->(up tg i (.quit q) j).j=false):=λz hz=>⟨by rw[K,hz];simp,rfl,U⟩;rcases e with rfl|⟨vv,rfl⟩
  exact this .w1 rfl;exact this (.w2 vv) rfl;unfold gG;rw[N,A (y:=.quit q) rfl];exact WD SV
 exact lC X Y h l O s Z u (by rw[r];exact⟨hd,W,rfl,E⟩) (λT=>by rw[r];rfl)
def rx.last(b:rx C x tg n st sm)(e:i<n)(c:(tg i).j=true):(x=.w3\/x=.sem)/\Vc C tg n=0/\sm=0/\(((tg i=.d2\/tg i=.d3)/\st=1)\/(tg i=.d4/\st=0))/\∀j,j<n->j≠i->(tg j).j=false:=by
 have d:(∀j,j<n->(tg j).j=false)->False:=λq=>by rw[q i e]at c;cases c
 have a:((1<=Vc C tg n/\st=Vc C tg n*KK+1/\sm=0/\∀i,i<n->(tg i).j=false) \/
  (Vc C tg n=0/\sm=0/\∃l,C.eu<=l/\l<n/\(((tg l=.d2\/tg l=.d3)/\st=1)\/(tg l=.d4/\st=0))/\∀i,i<n->i≠l->(tg i).j=false) \/
  (Vc C tg n=0/\st=0/\sm=1/\∀i,i<n->(tg i).j=false))->Vc C tg n=0/\sm=0/\(((tg i=.d2\/tg i=.d3)/\st=1)\/(tg i=.d4/\st=0))/\∀j,j<n->j≠i->(tg j).j=false:=by
  rintro(⟨_,_,_,q⟩|⟨g,h,k,_,o,m,f⟩|⟨_,_,_,q⟩);exact(d q).elim;obtain rfl:i=k:=cO λq=>by rw[f i e q]at c;cases c
  exact⟨g,h,m,f⟩;exact(d q).elim
 cases x<;>first|exact(d b.2.2).elim|exact(d b.2.2.2).elim|exact⟨.inl rfl,a b⟩|exact⟨.inr rfl,a b⟩
def rx.h(a:x=.w3\/x=.sem)(h:rx C .w3 tg n st sm):rx C x tg n st sm:=by rcases a with rfl|rfl<;>exact h
def SK(E:gl C Anc)(F:∀{S d g w},Fin S d g w->g.status=.running)(h:gr C Anc AncW Fin Shun x tg Tm Sn dn wn stored rel a gs w t)(l:gM C x tg stored rel gs.size w)(z:gs[i]?=some g)(c:0<i)(G:C.eu<=i)(f:tg i=.d2):
  vf C Anc AncW Fin Shun (gG C x tg Tm a gs.size) t (runT C.P (crowd gs w sl) i):=by
 have k:=(am.1 z).1;have I:=h.e i k;have H:=h.p i g c z;rw[f]at H;let ⟨hd,m,B,J⟩:=H
 rcases pH J I with⟨_,n⟩|⟨A,g',rfl,o,r⟩
 let ⟨st,sm,u,D⟩:=l.b
 obtain⟨K,L,rfl,hc,s⟩:=D.last k (by rw[f];rfl);obtain⟨_,rfl⟩:_/\st=1:=hc.elim id λq=>by rw[f]at q;simp at q
 let ⟨g',o,A,r⟩:=n u
 refine sf (y:=.d3) (T:=rA A) E F h l z c G o hd (.inr (.inl rfl)) (.inl rfl) (by rw[f];decide) (by decide) ⟨rfl,A,rfl,r⟩ ⟨_,_,u,?_⟩ (.inl rfl) λN=>?_;exact rx.h K (.inr (.inl ⟨by rw[iJ (by rw[f];rfl)];exact L,rfl,i,G,k,.inl ⟨.inr (cI),rfl⟩,λj M v=>by rw[dj v];exact s j M v⟩));refine rj (iJ (by rw[f];rfl)) (rN k c ?_);rw[f];exact kg (by decide);exact lC E F h l z c B o (by rw[f];exact⟨hd,A,rfl,r⟩) (λT=>by rw[f];rfl)
def SL(E:gl C Anc)(F:∀{S d g w},Fin S d g w->g.status=.running)(h:gr C Anc AncW Fin Shun x tg Tm Sn dn wn stored rel a gs w t)(l:gM C x tg stored rel gs.size w)(z:gs[i]?=some g)(c:0<i)(G:C.eu<=i)(f:tg i=.d3):
  vf C Anc AncW Fin Shun (gG C x tg Tm a gs.size) t (runT C.P (crowd gs w sl) i):=by
 have k:=(am.1 z).1;have I:=h.e i k;have H:=h.p i g c z;rw[f]at H;let ⟨hd,m,B,J⟩:=H
 rcases pH J I with⟨_,n⟩|⟨A,g',rfl,o,r⟩
 let ⟨st,sm,s,D⟩:=l.b
 obtain⟨K,L,rfl,hc,u⟩:=D.last k (by rw[f];rfl);obtain⟨_,rfl⟩:_/\st=1:=hc.elim id λq=>by rw[f]at q;simp at q
 let ⟨g',o,A,r⟩:=n s
 refine sf (y:=.d4) (T:=rA A) E F h l z c G o hd (.inr (.inr (.inl rfl))) (.inr ⟨_,.inl rfl⟩) (by rw[f];decide) (by decide) ⟨rfl,A,rfl,r⟩ ⟨_,_,s.setSt 0,?_⟩ (.inr (.inl (no1 (s.setSt 0)))) λN=>?_;exact rx.h K (.inr (.inl ⟨by rw[iJ (by rw[f];rfl)];exact L,rfl,i,G,k,.inr ⟨cI,rfl⟩,λj M v=>by rw[dj v];exact u j M v⟩));refine rj (iJ (by rw[f];rfl)) (rN k c ?_);rw[f];exact kg (by decide);exact lC E F h l z c B o (by rw[f];exact⟨hd,A,rfl,r⟩) (λT=>by rw[f];rfl)
def SM(E:gl C Anc)(F:∀{S d g w},Fin S d g w->g.status=.running)(h:gr C Anc AncW Fin Shun x tg Tm Sn dn wn stored rel a gs w t)(l:gM C x tg stored rel gs.size w)(u:gs[i]?=some g)(c:0<i)(I:C.eu<=i)(f:tg i=.d4):
  vf C Anc AncW Fin Shun (gG C x tg Tm a gs.size) t (runT C.P (crowd gs w sl) i):=by
 have k:=(am.1 u).1;have J:=h.e i k;have G:=h.p i g c u;rw[f]at G;let ⟨hd,m,v,K⟩:=G
 rcases pH K J with⟨_,z,n⟩|⟨L,g',rfl,o,A⟩
 let ⟨st,sm,s,B⟩:=l.b
 obtain⟨M,N,rfl,hc,r⟩:=B.last k (by rw[f];rfl);obtain⟨_,rfl⟩:_/\st=0:=hc.elim (λq=>by rw[f]at q;simp at q) id;let ⟨g',o,q,H⟩:=n s
 refine sf (y:=.quit q) (T:=.leaf) E F h l u c I o hd (.inr (.inr (.inr rfl))) (.inr ⟨_,.inr rfl⟩) (by rw[f];decide) (by simp[WTag.e]) H ⟨_,_,s.setSm 1,?_⟩ (.inr (.inr ⟨z,QuitsD.status H⟩)) λQ=>?_;exact rx.h M (.inr (.inr ⟨by rw[iJ (by rw[f];rfl)];exact N,rfl,rfl,ED rfl λj O D=>r j O D⟩));refine rj (iJ (by rw[f];rfl)) (rN k c ?_);rw[f];exact kg (show (0:Nat)<1 by decide);exact lC E F h l u c v o (by rw[f];exact⟨hd,L,rfl,A⟩) (λT=>by rw[f];rfl)
end
section
variable{v:Bg}
def iX(h:b≠c):(w.setChan c cap buf cl s r tm).heap[b]?=w.heap[b]?:=by
 show (w.heap.setIfInBounds c _)[b]?=_;rw[aN (λe=>h e.symm)]
def qH(h:c<w.heap.size):(w.setChan c cap buf cl s r tm).heap[c]?=some (.chan cap buf cl s r tm):=by
 show (w.heap.setIfInBounds c _)[c]?=_;rw[bi h]
def jq:(w.setChan c cap buf cl s r tm).heap.size=w.heap.size:=by
 show (w.heap.setIfInBounds c _).size=_;simp
def yC.h(h:gr C Anc AncW Fin Shun x tg Tm Sn dn wn stored rel a gs w t)(c:i<gs.size):yC C (Sn i) (Sn i) w (w.setChan C.L.e 0 #[] cl s r false):=by
 have ap:=h.h;obtain⟨⟨st,sm,d⟩,_,f,g,j⟩:=(h.e i c).h;refine⟨fR jq.symm,rfl,rfl,rfl,λb _ _ _ k _=>iX k,⟨⟨st,sm,by unfold WgAt at *;rw[iX ap.t];exact d⟩,⟨cl,s,r,qH ap.e⟩,f,by rw[iX (λe=>ap.A e.symm)];exact g,j⟩,λ_ q=>q,λ_ q=>.inl q⟩
def NK(L:Lay)(B:Nat)(a:MemOp):Prop:=a.act.touch?=none/\a.act.low B/\nQ a.act=true/\a.act≠.mark .disable/\a.act≠.mark .enable
def TI.H{wk a:Nat->Prop}:∀(l:List MemOp) {t:Trace},TI C.L Shun wk a Sn stored rel B t->(∀b∈l,NK C.L B b)->TI C.L Shun wk a Sn stored rel B (t++l.toArray)
 | [],_,h,_=>by simpa using h
 |b::l,t,h,d=>by
  have e:t++(b::l).toArray=(t++#[b])++l.toArray:=by apply wN;simp
  rw[e];have c:=d b (by simp);exact TI.H l (h.e c.1 c.2.1 c.2.2.1) λo f=>d o (by simp[f])
def un(j:Nat):∀(l:List MemOp) (t:Trace),(∀a∈l,NK C.L B a)->Deaf (t++l.toArray) j=Deaf t j
 | [],t,_=>by simp
 |a::l,t,c=>by
  have e:t++(a::l).toArray=(t++#[a])++l.toArray:=by apply wN;simp
  have d:=c a (by simp);rw[e,un j l _ λo f=>c o (by simp[f]),Deaf_push];obtain⟨g,fn,h,b⟩:=a;unfold deafStep;cases b with
  |mark m=>cases m<;>first|rfl|exact absurd rfl d.2.2.2.1|exact absurd rfl d.2.2.2.2
  |_=>rfl
def gr.I(h:gr C Anc AncW Fin Shun x tg Tm Sn dn wn stored rel a gs w t)(f:i<gs.size)(k:0<i){l:List MemOp}(m:∀b∈l,NK C.L w.heap.size b/\b.g<gs.size)(c:Ed C Anc y T (Sn i) (dn i) g' w):gr C Anc AncW Fin Shun x (up tg i y) (up Tm i T) Sn dn (up wn i w) stored rel a (gs.setIfInBounds i g') w (t++l.toArray):=by
 have:=h.ah (gs':=gs.setIfInBounds i g') (w2:=w) (u:=l.toArray) (y:=y) (T:=T) (S':=Sn i) (d':=dn i) (stored':=stored) (rel':=rel) f k (by simp) (by rw[bi f]) (by rw[aN (by omega)];exact h.j) h.u (λj g0 _ n p=>by rw[aN (λe=>n e.symm)]at p;exact p) c (yC.e h f) (λj=>?_) (by rw[jN];exact TI.H l h.y λb d=>(m b d).1) (λb d=>(m b (by simpa using d)).2) h.F;rw[jN,jN]at this;exact this;rw[un j l t λb d=>(m b d).1];by_cases q:j=i;subst q;rw[az rfl];exact h.o j f;rw[ax q]
def gr.ae(h:gr C Anc AncW Fin Shun x tg Tm Sn dn wn stored rel a gs w t)(d:x'≠.sem){a':Bm}(c:tP C Anc AncW Fin x' T (Sn 0) (dn 0) a' (w.setChan C.L.e 0 #[] cl s r false)):gr C Anc AncW Fin Shun x' tg (up Tm 0 T) Sn dn (up wn 0 (w.setChan C.L.e 0 #[] cl s r false)) stored rel a' (gs.setIfInBounds 0 a') (w.setChan C.L.e 0 #[] cl s r false) t:=by
 have b:0<gs.size:=(am.1 h.j).1;have:=h.ac (gs':=gs.setIfInBounds 0 a') (w2:=w.setChan C.L.e 0 #[] cl s r false) (u:=#[]) (T:=T) (S':=Sn 0) (d':=dn 0) (a':=a') (x':=x') (stored':=stored) (rel':=rel) (by simp) (by rw[bi b]) (λj g0 f g=>by rw[aN (by omega)]at g;exact g) c (yC.h h b) (λj=>?_) (by rw[jN,jq];simpa using h.y) (λk i=>by simp at i) (λq=>absurd q d);rw[jN,jN]at this;simpa using this;simp only[Array.append_empty];by_cases f:j=0;subst f;rw[az rfl];exact h.o 0 b;rw[ax f]
def gr.Z(h:gr C Anc AncW Fin Shun x tg Tm Sn dn wn stored rel a gs w t)(g:gl C Anc){j:Nat}(i:0<j)(f:gs[j]?=some g0):offersAt g0 C.L.e true=[]:=by
 have c:=(am.1 f).1;have d:=h.p j g0 i f;rcases d.e g (h.e j c) with⟨e,_⟩|⟨_,b|⟨q,_,b⟩⟩
 rw[e]at d;obtain⟨_,k,rfl,_⟩:=d;exact offersAt_parked_recv' ..;exact offersAt_of_not_blocked (by rw[b];decide) _ _;exact offersAt_of_not_blocked (by rcases b with b|b<;>rw[b]<;>decide) _ _
def gr.af(h:gr C Anc AncW Fin Shun x tg Tm Sn dn wn stored rel a gs w t)(k:∀{S d g w},Fin S d g w->g.status=.running)(l:∀r,x≠.sendP r)(b:Bool):offersAt a C.L.e b=[]:=by
 have go:∀{i:gS},(∀{S d g w},i S d g w->g.status=.running)->gu C.P true C.E i (Tm 0) (Sn 0) (dn 0) a (wn 0)->offersAt a C.L.e b=[]:=λm j=>by
  have:a.status=.running:=by
   cases hq:Tm 0 with
   |leaf=>rw[hq]at j;exact m j
   |node f=>rw[hq]at j;exact j.1
  exact offersAt_of_not_blocked (by rw[this];decide) _ _
 have c:=h.u;cases x with
 |add r=>exact go (λh=>h.2.1) c
 |go r=>exact go (λh=>h.2.1) c
 |send r=>exact go (λh=>h.2.1) c
 |sendP r=>exact absurd rfl (l r)
 |close=>exact go (λh=>h.2.1) c
 |w1=>exact go (λh=>h.2.1) c
 |w2 v=>exact go (λh=>h.2.1) c
 |w3=>exact go (λh=>h.2.1) c
 |sem=>
  obtain⟨_,g0,n,h0⟩:=c;rcases n with rfl|rfl
  exact offersAt_of_not_blocked (by rw[h0.2.1];decide) _ _;unfold offersAt;dsimp only;rw[h0.2.2.1]
 |w4=>exact go (λh=>h.2.1) c
 |acq=>exact go (λh=>h.2.1) c
 |fin=>exact offersAt_of_not_blocked (by rw[k c];decide) _ _
def gr.O(h:gr C Anc AncW Fin Shun x tg Tm Sn dn wn stored rel a gs w t)(c:gl C Anc)(f:∀{S d g w},Fin S d g w->g.status=.running)(k:∀r,x≠.sendP r):partners (gs.setIfInBounds i ph) C.L.e true=[]:=by
 refine partners_nil λj g0 b=>?_;rcases getElem?_stand _ _ _ _ b with⟨_,rfl⟩|⟨_,b⟩
 rfl;rcases fK j with rfl|l
 rw[h.j]at b;cases b;exact h.af f k true;exact h.Z c l b
def AO(B:gl C Anc)(D:∀{S d g w},Fin S d g w->g.status=.running)(h:gr C Anc AncW Fin Shun x tg Tm Sn dn wn stored rel a gs w t)(l:gM C x tg stored rel gs.size w)(v:gs[i]?=some g)(m:0<i)(A:C.eu<=i)(u:stepG C.P false g w=.comm g0 #[rcase C.L.e C.z] true (.recv true) w #[])(k:tg i=.recv\/tg i=.woke)(hd:dn i=0)(j:mV x=true)(F:fp C.P false C.E (vu C) (Sn i) 0 (Conc.served g0 (recvd true C.z false)) w):vf C Anc AncW Fin Shun (gG C x tg Tm a gs.size) t (runT C.P (crowd gs w sl) i):=by
 have c:=(am.1 v).1;have n:(i==0)=false:=by simp;omega
 let ⟨s,r,o⟩:=l.t
 rw[j]at o;have G:∀r,x≠.sendP r:=λr e=>by subst e;cases j
 have f:=crowd_recv_closed (P:=C.P) (sl:=sl) v (by rw[n];exact u) o (h.O B D G);rw[nR,rF,finishComm_recv]at f;let ⟨T,H⟩:=F
 have J:∀p∈[({g:=i,fn:=g0.frame.fn,pos:=g0.frame.place,act:=.recvClosed C.L.e}:MemOp)],NK C.L w.heap.size p/\p.g<gs.size:=λp N=>by
  obtain rfl:p=_:=by simpa using N
  exact⟨⟨rfl,h.h.e,rfl,(by intro q;cases q),(by intro q;cases q)⟩,c⟩
 have Q:7<=(tg i).e:=by rcases k with e|e<;>rw[e]<;>decide
 have R:gM C x (up tg i .tell) stored rel gs.size w:=by
  refine l.V A c (λ_ _=>rfl) ⟨λq=>by simp[WTag.e]at q,λ_=>(l.e i A c).2 (by omega)⟩ (λq=>by rw[j]at q;cases q) (λq=>by cases q) (by rcases k with e|e<;>rw[e]<;>simp) (by simp) rfl rfl ?_;let ⟨st,sm,U,W⟩:=l.b
  exact⟨st,sm,U,W.e (by rcases k with e|e<;>rw[e]<;>rfl) (by rcases k with e|e<;>rw[e]<;>rfl) rfl⟩
 refine⟨_,_,gG C x (up tg i .tell) (up Tm i T) a gs.size,f,?_,_,_,_,_,_,_,_,_,_,_,_,_,rfl,(h.I (y:=.tell) (T:=T) (g':=Conc.served g0 (recvd true C.z false)) c m J (by rw[hd];exact H)),by simpa using R,by simp[gG]⟩;refine rj (iJ (by rcases k with e|e<;>rw[e]<;>rfl)) (rN c m ?_);rcases k with e|e<;>rw[e]
 exact kg (by decide);exact kg (show (6:Nat)<7 by decide)
def J8(p:gl C Anc)(G:∀{S d g w},Fin S d g w->g.status=.running)(h:gr C Anc AncW Fin Shun x tg Tm Sn dn wn stored rel a gs w t)(l:gM C x tg stored rel gs.size w)(B:gs[i]?=some g)(k:0<i)(D:C.eu<=i)(j:tg i=.recv)(E:Anc (Sn i) (dn i) g (wn i))(m:mV x=false)(F:∀r,x≠.sendP r)(u:Anc (Sn i) 0 g w):
  vf C Anc AncW Fin Shun (gG C x tg Tm a gs.size) t (runT C.P (crowd gs w sl) i):=by
 have c:=(am.1 B).1;have n:(i==0)=false:=by simp;omega
 have H:=h.e i c;have v:=p.b E w H;let ⟨s,r,o⟩:=l.t
 rw[m]at o;have f:=crowd_waits (P:=C.P) (sl:=sl) B (by rw[n];exact v) (λJ A=>by
  obtain rfl:J=rcase C.L.e C.z:=by simpa using A
  exact ways_recv_none o (h.O p G F))
 rw[nR]at f;have hd:=p.d E;have K:gM C x (up tg i .park) stored rel gs.size w:=by
  refine l.V D c (λ_ _=>rfl) ⟨λq=>by simp[WTag.e]at q,λ_=>(l.e i D c).2 (by rw[j];decide)⟩ (λ_=>.inr (.inl rfl)) (λ_=>⟨m,F⟩) (by rw[j];simp) (by simp) rfl rfl ?_;let ⟨st,sm,M,N⟩:=l.b
  exact⟨st,sm,M,N.e (by rw[j];rfl) (by rw[j];rfl) rfl⟩
 refine⟨_,_,gG C x (up tg i .park) (up Tm i .leaf) a gs.size,f,?_,_,_,_,_,_,_,_,_,_,_,_,_,rfl,(h.I (y:=.park) (T:=.leaf) (g':=parked g #[rcase C.L.e C.z] (.recv true)) (l:=[]) c k (λR Q=>by cases Q) ⟨hd,g,rfl,u⟩),by simpa using K,by simp[gG]⟩;refine rj (iJ (by rw[j];rfl)) (rN c k ?_);rw[j];exact kg (show (8:Nat)<9 by decide)
end
end Go.Eqv
