/- Parts of the proof. -/
import Derived.Test.YtbebfliimjjohabGreatDoorM11
import Derived.Conc.MuWords
import Derived.Conc.WgGenN3
set_option maxRecDepth 100000
set_option maxHeartbeats 8000000
set_option linter.all false
open Go.Conc Go.ConcN Go.RowKit Go.Conc.Lib Go.ConcR.Gen Go.ConcM Go.ConcN.Gen
open Go.ConcR (KK wgBlock WgAt stA smA rd wr mk DC0)
open Go.ConcN (sumTo sumTo_congr)
namespace Go.Eqv
variable{ad:Addr}{es:Array Event}{gs gs':Array E4}{mb:Bool}{a a' g g':E4}{st sm:Int}{Shun:Loc->Prop}{x x':MTag}{m m':Machine}{i n d k:Nat}{dn dn':Nat->Nat}{Sn Sn':Nat->Nat->Prop}{rel rel':Nat->Option Nat}{stored stored' F X S:Nat->Prop}{Tm Tm':Nat->Tr}{tg tg':Nat->WTag}{wn wn':Nat->Ba}{sl:Option (Nat×Nat)}{P:Ft}{Q:Prop}{T:Tr}{t u t':Trace}{Post:Dv->Ba->Prop}{y:WTag}{L:WgLink}{w w2 w' w0 w1:Ba}{Anc AncW Fin Stop:gL}{E':rM}
def C2(C:dQ)(Fin:gL)(Shun:Loc->Prop)(m:Machine)(t:Trace):Prop:=
 ∃S gs a w sl q,m=crowd gs w sl/\gs[0]?=some a/\Fin S 0 a w/\Leavers C.P t gs q/\Past (λl=>Shun l\/iO (· = C.L.b) l) w.heap.size t/\(∀c∈t,mP c.act=true) /\
  (∃d,w.heap[C.L.h]?=some (.cells d C.ta)/\d.size=C.nt/\∀p,p<C.nt->d[p]?=some (C.AT p))/\(∀c∈t,c.g<gs.size)/\(∀b,S b->b<w.heap.size/\¬C.L.F b/\b≠C.L.b/\b≠C.L.e/\b≠C.L.h)/\(∀b,C.L.F b\/b=C.L.b\/b=C.L.e\/b=C.L.h->b<w.heap.size)/\C.E.J w/\∀i a,touchAt t i=some a->iO S a.loc->Knows t 0 i
section
variable{C:dQ}{v:Dv}
def wj(a:Vc C tg n=0)(b:i<n)(c:C.dT<=i):(tg i).h=false:=by
 have:=QQ a i b;cases q:(tg i).h with
 |false=>rfl
 |true=>unfold A3 at this;rw[q]at this;simp[c]at this
def MU(hA:fE C Anc)(h:fK C Anc AncW Fin Shun x tg Tm Sn dn wn stored rel a gs w t)(l:gm C x tg stored rel gs.size w)(S:x=.acq)(H:Kw C Fin (Sn 0) (dn 0) a (wn 0)):
  ∃m' r,runT C.P (crowd gs w sl) 0=(.next m',r)/\C2 C Fin Shun m' (t++r):=by
 have d:=(ar.1 h.j).1;subst S;let ⟨st,sm,T,U⟩:=l.b
 obtain⟨J,rfl,rfl,V⟩:Vc C tg gs.size=0/\st=0/\sm=0/\_:=U;let ⟨W,_,H⟩:=H
 let ⟨g',K,v⟩:=H w (h.e 0 d)
 have n:=runT_crowd_go (P:=C.P) (sl:=sl) (i:=0) h.j K;rw[uH]at n;have quit:∀i,i<gs.size->∃q,tg i=.quit q:=λi F=>by
  rcases bX i C.dT with q|q
  exact l.I i q;have L:=wj J F q;have M:=V i F;revert L M;cases tg i<;>simp[WTag.h,WTag.e,WTag.j]
 refine⟨_,_,n,Sn 0,_,g',w,sl,λi=>(match tg i with|.quit q=>q|_=>0),rfl,by rw[aV (dD d)],v,⟨λi g0 F G=>?_,λj X=>?_⟩,?_,λf c=>?_,?_,λf c=>?_,λb m=>?_,λb m=>?_,(h.e 0 d).h,?_⟩;rw[aM ak,b9]at G;obtain⟨y,O,rfl⟩:=bS.1 G;have z:=(ar.1 O).1;have D:=h.p i y F O;let ⟨q,Y⟩:=quit i z
 rw[Y]at D⊢;rw[Deaf_other t (g:=i) (g':=0) ak _ (λf c=>by obtain rfl:f=_:=(dD c);rfl),h.o i z];replace D:QuitsD C.P q (dn i) y:=D;rw[woken_quitsD D];exact D;have:gs.size<=j:=dD X;rw[Deaf_other t (g:=j) (g':=0) ak _ (λf c=>by obtain rfl:f=_:=(dD c);rfl)];exact h.s j this;refine h.y.I h.h (y:=_) ⟨rfl,rfl⟩ (by rw[h.o 0 d,W]) λk i Q G=>?_;let ⟨f,c,N⟩:=bS.1 G
 have E:k<gs.size:=by have:=h.A f (dK c);rw[N]at this;exact this
 have:=wj J E Q;apply (l.e k Q E).1;have R:¬4<=(tg k).e:=by simpa[WTag.h] using this
 omega;rcases cE.1 c with c|c
 exact h.y.b f c;obtain rfl:f=_:=(dD c);rfl;obtain⟨Z,L,M,R⟩:=l.o;refine⟨Z,L,M,λp hp=>?_⟩;rcases l.B p hp with q|⟨j,b1,b2,b3⟩
 exact(R p q).2;have:=wj J b2 b1;rw[b3]at this;cases this;simp;rcases cE.1 c with c|c
 exact h.A f c;obtain rfl:f=_:=(dD c);exact d;exact⟨h.h.p 0 b m,h.h.s 0 b m,(λe=>by subst e;exact h.h.x 0 m),(λe=>by subst e;exact h.h.w 0 m),(λe=>by subst e;exact h.h.u 0 m)⟩;rcases m with m|rfl|rfl|rfl
 exact h.h.o b m;exact h.h.h;exact h.h.e;exact h.h.i;refine TI.s (TI.e h.y ?_ ?_ ?_) 0 (.inl rfl);rfl;exact h.h.h;rfl
def MX(m:fE C Anc)(hF:∀{S d g w},Fin S d g w->g.status=.running)(B:C.nw<2147483647)(h:fK C Anc AncW Fin Shun x tg Tm Sn dn wn stored rel a gs w t)(l:gm C x tg stored rel gs.size w)(n:gs[i]?=some g)(c:0<i)(s:g.status=.running):
  ui C Anc AncW Fin Shun (ga C x tg Tm a gs.size) t (runT C.P (crowd gs w sl) i):=by
 have v:=(ar.1 n).1;rcases bX i C.dT with o|o
 let ⟨q,F⟩:=l.I i o
 exact zG m hF h l n c s F;have k:=h.p i g c n;have y:=h.e i v;cases hy:tg i with
 |quit q=>exact zG m hF h l n c s hy
 |k1=>exact QN m hF h l n c o hy
 |d1=>exact QJ m hF B h l n c o hy
 |d2=>exact QK m hF h l n c o hy
 |d3=>exact QL m hF h l n c o hy
 |d4=>exact QM m hF h l n c o hy
 |park=>
  rw[hy]at k;obtain⟨_,u,rfl,_⟩:=k;cases s
 |woke=>
  rw[hy]at k;obtain⟨z,u,rfl,D⟩:=k;have e:({u with status:=.running}:E4)=u:=by
   have:=(m.i D).1;let ⟨_,_,_,_,_⟩:=u
   dsimp only at this;subst this;rfl
  exact zF (g0:=u) m hF h l n c o (by rw[stepG_tries,e];exact(m.b D w y)) (.inr hy) z (l.j o v (by rw[hy];simp) (by rw[hy];simp) (by rw[hy];simp)) (m.e D w y)
 |recv=>
  rw[hy]at k;replace k:fL C.P false C.E Anc (Tm i) (Sn i) (dn i) g (wn i):=k;cases hT:Tm i with
  |node f=>rw[hT]at k;exact tM m hF h l n c o hT k (by rw[hy];decide) (λT=>hy▸rfl) (λT S d g w q=>hy▸q)
  |leaf=>
   rw[hT]at k;replace k:Anc (Sn i) (dn i) g (wn i):=k;have z:=m.d k;cases hcl:lS x with
   |true=>exact zF (g0:=g) m hF h l n c o (m.b k w y) (.inl hy) z hcl (m.e k w y)
   |false=>
    by_cases A:∃r,x=.sendP r;let ⟨r,A⟩:=A
    exact IN m h l n c o hy k A;exact IP m hF h l n c o hy k hcl (λr e=>A ⟨r,e⟩) (by have:=m.j k w y;rw[z]at this;exact this)
 |busy p=>
  rw[hy]at k;replace k:fL C.P false C.E (uw C Anc p) (Tm i) (Sn i) (dn i) g (wn i):=k;cases hT:Tm i with
  |node f=>rw[hT]at k;exact tM m hF h l n c o hT k (by rw[hy];simp[WTag.e]) (λT=>hy▸rfl) (λT S d g w q=>hy▸q)
  |leaf=>rw[hT]at k;exact Fo m hF h l n c o hy k
 |tell=>
  rw[hy]at k;replace k:fL C.P false C.E (uu C) (Tm i) (Sn i) (dn i) g (wn i):=k;cases hT:Tm i with
  |node f=>rw[hT]at k;exact tM m hF h l n c o hT k (by rw[hy];decide) (λT=>hy▸rfl) (λT S d g w q=>hy▸q)
  |leaf=>rw[hT]at k;exact IQ m hF h l n c o hy k
def MW(j:fE C Anc)(o:∀S d g w,AncW S d g w->fC C.P true C.E (EJ C AncW Fin) S d g w)(n:C.nw<2147483647)(h:fK C Anc AncW Fin Shun x tg Tm Sn dn wn stored rel a gs w t)(l:gm C x tg stored rel gs.size w)(m:a.status=.running):
  ui C Anc AncW Fin Shun (ga C x tg Tm a gs.size) t (runT C.P (crowd gs w sl) 0)\/∃m' c,runT C.P (crowd gs w sl) 0=(.next m',c)/\C2 C Fin Shun m' (t++c):=by
 have i:=h.u;have b:∀{Stop:gL},su C Anc AncW Fin x (Tm 0) (Sn 0) _ a _->(∀T S d g w,su C Anc AncW Fin x T S d g w=fL C.P true C.E Stop T S d g w)->(∀r,x≠.sendP r)->x≠.sem ->
   (Stop (Sn 0) (dn 0) a (wn 0)->ui C Anc AncW Fin Shun (ga C x tg Tm a gs.size) t (runT C.P (crowd gs w sl) 0)\/∃m' c,runT C.P (crowd gs w sl) 0=(.next m',c)/\C2 C Fin Shun m' (t++c))->ui C Anc AncW Fin Shun (ga C x tg Tm a gs.size) t (runT C.P (crowd gs w sl) 0)\/∃m' c,runT C.P (crowd gs w sl) 0=(.next m',c)/\C2 C Fin Shun m' (t++c):=λ{Stop} i e p s k=>by
  rw[e]at i;cases hT:Tm 0 with
  |node f=>rw[hT]at i;exact .inl (IM j h l hT i p s λT S d g w q=>by rw[e];exact q)
  |leaf=>rw[hT]at i;exact k i
 cases x with
 |add r=>exact b i (λ_ _ _ _ _=>rfl) aY aY λq=>.inl (MV j n h l rfl rfl q)
 |go r=>exact b i (λ_ _ _ _ _=>rfl) aY aY λq=>.inl (Fl h l rfl rfl q)
 |send r=>exact b i (λ_ _ _ _ _=>rfl) aY aY λq=>.inl (IK j h l rfl rfl q)
 |sendP r=>obtain⟨_,y,rfl,_⟩:=i;cases m
 |close=>exact b i (λ_ _ _ _ _=>rfl) aY aY λq=>.inl (Fk j o h l rfl q)
 |w1=>exact b i (λ_ _ _ _ _=>rfl) aY aY λq=>.inl (QG j n h l rfl q)
 |w2 v=>exact b i (λ_ _ _ _ _=>rfl) aY aY λq=>.inl (QH j o n h l rfl q)
 |w3=>exact b i (λ_ _ _ _ _=>rfl) aY aY λq=>.inl (Fm j h l (.inl rfl) q)
 |sem=>
  obtain⟨z,y,A,h0⟩:=i;rcases A with rfl|rfl
  exact .inl (Fm j h l (.inr rfl) (z▸h0));cases m
 |w4=>exact b i (λ_ _ _ _ _=>rfl) aY aY λq=>.inl (QI j h l rfl q)
 |acq=>exact b i (λ_ _ _ _ _=>rfl) aY aY λq=>.inr (MU j h l rfl q)
 |fin=>exact l.H.elim
def su.e(hF:∀{S d g w},Fin S d g w->g.status=.running)(h:su C Anc AncW Fin x T S d g w):g.status=.running\/(g.status=.blocked/\((∃r,x=.sendP r)\/x=.sem)):=by
 have go:∀{Stop:gL},(∀{S d g w},Stop S d g w->g.status=.running)->fL C.P true C.E Stop T S d g w->g.status=.running:=λb a=>by
  cases T with
  |leaf=>exact b a
  |node f=>exact a.1
 cases x with
 |add r=>exact .inl (go (λh=>h.2.1) h)
 |go r=>exact .inl (go (λh=>h.2.1) h)
 |send r=>exact .inl (go (λh=>h.2.1) h)
 |sendP r=>obtain⟨_,c,rfl,_⟩:=h;exact .inr ⟨rfl,.inl ⟨r,rfl⟩⟩
 |close=>exact .inl (go (λh=>h.2.1) h)
 |w1=>exact .inl (go (λh=>h.2.1) h)
 |w2 v=>exact .inl (go (λh=>h.2.1) h)
 |w3=>exact .inl (go (λh=>h.2.1) h)
 |sem=>
  obtain⟨_,c,i,h0⟩:=h;rcases i with rfl|rfl
  exact .inl h0.2.1;exact .inr ⟨rfl,.inr rfl⟩
 |w4=>exact .inl (go (λh=>h.2.1) h)
 |acq=>exact .inl (go (λh=>h.2.1) h)
 |fin=>exact .inl (hF h)
theorem Fp{f:Nat->Nat}:∀{n:Nat},1<=sumTo n f->∃i,i<n/\1<=f i
 |0,h=>by simp[sumTo]at h
 |n+1,h=>by
  simp only[sumTo]at h
  rcases fM (f n) with q|q
  .let ⟨i,h1,h2⟩:=Fp (f:=f) (n:=n) ak
   exact⟨i,ak,h2⟩
  .exact⟨n,ak,q⟩
def fK.ao(G:fE C Anc)(hF:∀{S d g w},Fin S d g w->g.status=.running)(H:1<=C.nw)(h:fK C Anc AncW Fin Shun x tg Tm Sn dn wn stored rel a gs w t)(l:gm C x tg stored rel gs.size w):∃(i:Nat) (g:E4),gs[i]?=some g/\g.status=.running:=by
 have run:∀i,C.dT<=i->i<gs.size->tg i≠.park->(∀q,tg i≠.quit q)->∃(i:Nat) (g:E4),gs[i]?=some g/\g.status=.running:=λi z n s I=>by
  have B:=aW n;have:=l.h;rcases(h.p i _ ak B).e G (h.e i n) with⟨e,_⟩|⟨_,e|⟨q,e,_⟩⟩
  exact absurd e s;exact⟨i,_,B,e⟩;exact absurd e (I q)
 rcases h.u.e hF with v|⟨v,⟨r,c⟩|c⟩
 exact⟨0,a,h.j,v⟩;have s:=l.A;rw[c]at s;have f:C.dT<gs.size:=by rw[s];show _<C.dT+C.nw;omega
 refine run C.dT (aj _) f ((l.O r c) _ f) λq e=>?_;rcases l.u (c▸rfl) C.dT (aj _) f with k|k|⟨p,k⟩<;>rw[k]at e<;>cases e
 have o:=l.J (c▸rfl);let ⟨st,sm,y,D⟩:=l.b
 rw[c]at D;rcases D with⟨K,_⟩|⟨_,_,k,z,E,e,_⟩|⟨_,rfl,rfl,_⟩
 let ⟨i,n,hc⟩:=Fp K
 have m:C.dT<=i/\(tg i).h=true:=by
  unfold A3 at hc;split at hc;rename_i q;simpa using q;omega
 refine run i m.1 n (o i n) λq e=>?_;rw[e]at m;simp[WTag.h,WTag.e]at m;exact run k z E (o k E) λq L=>by rw[L]at e;simp at e
 have:=h.F c y;rw[v]at this;cases this
def fK.ai(k:fE C Anc)(hF:∀{S d g w},Fin S d g w->g.status=.running)(h:fK C Anc AncW Fin Shun x tg Tm Sn dn wn stored rel a gs w t):∀g∈gs,Conc.awake g:=by
 intro g l;obtain⟨i,c⟩:=Array.mem_iff_getElem?.1 l;have f:=(ar.1 c).1;rcases fM i with rfl|b
 rw[h.j]at c;cases c;exact awake_of ((h.u.e hF).elim .inl λq=>.inr (.inl q.1));rcases(h.p i g b c).e k (h.e i f) with⟨_,e⟩|⟨_,e|⟨q,_,e⟩⟩
 exact awake_of (.inr (.inl e));exact awake_of (.inl e);exact awake_of (e.elim .inl λq=>.inr (.inr q))
def L6(s:fE C Anc)(hF:∀{S d g w},Fin S d g w->g.status=.running)(D:∀S d g w,AncW S d g w->fC C.P true C.E (EJ C AncW Fin) S d g w)(f:C.nw<2147483647)(u:1<=C.nw){μ:Zz}(h:XV C Anc AncW Fin Shun μ m t):
  ∃n m' t',runNT C.P n m t=(.next m',t')/\C2 C Fin Shun m' t':=by
 refine YB aap (λμ m t=>XV C Anc AncW Fin Shun μ m t\/C2 C Fin Shun m t) (C2 C Fin Shun) (λμ m t v=>?_) μ m t (.inl h);refine v.elim (λv=>?_) .inl;obtain⟨x,tg,Tm,Sn,dn,wn,stored,rel,a,gs,w,sl,rfl,hc,l,rfl⟩:=v;let ⟨i,g,d,k,y,c,e⟩:=crowd_pick (P:=C.P) (w:=w) (sl:=sl) (hc.ai s hF) (hc.ao s hF u l)
 have o:=hc.at d;have B:=l.at d;right;rw[e];rcases fM i with rfl|p
 rw[hc.j]at y;cases y;rcases MW (sl:=k) s D f o B c with⟨m',b,z,q,r,A⟩|⟨m',b,q,r⟩
 exact⟨m',b,z,q,r,.inl A⟩;exact⟨m',b,(0,(0,((0,λ_=>(0,.leaf)),0))),q,yZ (by cases x<;>simp[H7]<;>omega),.inr r⟩;let ⟨m',b,z,q,r,A⟩:=MX (sl:=k) s hF f o B y p c
 exact⟨m',b,z,q,r,.inl A⟩
end
def KW{f:Nat->Nat}:∀{n:Nat},(∀i,i<n->f i=0)->sumTo n f=0
 |0,_=>rfl
 |n+1,h=>by simp only[sumTo];rw[KW λi a=>h i ak,h n ak]
def abH{C:dQ}(R:fE C Anc)(hF:∀{S d g w},Fin S d g w->g.status=.running)(U:∀S d g w,AncW S d g w->fC C.P true C.E (EJ C AncW Fin) S d g w)(z:C.nw<2147483647)(A:1<=C.nw){q:Nat->Nat}{cl s r:Nat}{cs:Array Dv}(h0:gs[0]?=some a)(Z:C.dT=gs.size)(M:Leavers C.P t gs q)(N:Past Shun w.heap.size t)(B:∀m∈t,mP m.act=true)(f:∀m∈t,m.g<gs.size)(O:mH C Anc AncW C.nw S 0 a w)(o:WgAt C.ty C.L.b w 0 0)(u:w.heap[C.L.e]?=some (.chan 0 #[] false s r false))(v:w.heap[C.L.h]?=some (.cells cs C.ta))(x:cs.size=C.nt)(ap:Ap C.L (λk=>if k=0 then S else λ_=>False) w.heap.size)(c:∀l,iO S l\/iO C.L.F l\/iO (· = C.L.b) l\/iO (· = C.L.e) l\/iO (· = C.L.h) l->¬Shun l):∃n m' t',runNT C.P n (crowd gs w sl) t=(.next m',t')/\C2 C Fin Shun m' t':=by
 have V:=(ar.1 h0).1;have y:=TI.start (L:=C.L) (wk:=(C.dT<=·)) (S0:=S) N (λl q=>c l (.inl q)) (λl q=>c l (.inr (.inl q))) (λl q=>c l (.inr (.inr (.inl q)))) (λl q=>c l (.inr (.inr (.inr (.inl q))))) (λl q=>c l (.inr (.inr (.inr (.inr q))))) B (λi g D Q=>by
  let ⟨m,W,G⟩:=bS.1 D
  have:=f m (dK W);rw[G]at this;omega)
 have e:(λk=>k=0)=(λk:Nat=>k=0\/(C.dT<=k/\k<gs.size)):=by
  funext k;exact propext ⟨.inl,λq=>ak⟩
 rw[e]at y;let ⟨k,Q⟩:∃k,C.nw=k+1:=⟨C.nw-1,ak⟩
 rw[Q]at O;let ⟨T,X⟩:=O
 have Y:Vc C (λi=>.quit (q i)) gs.size=0:=KW λi H=>by unfold A3;rw[show decide (C.dT<=i)=false by simp;omega];rfl
 have hc:fK C Anc AncW Fin Shun (.add k) (λi=>.quit (q i)) (λ_=>T) (λk=>if k=0 then S else λ_=>False) (λi=>Deaf t i) (λ_=>w) (λ_=>False) (λ_=>none) a gs w t:=by
  refine⟨h0,?_,λi g H D=>M.old i g H D,λi _=>cF.j _ (⟨⟨_,_,o⟩,⟨_,_,_,u⟩,_,v,x⟩),λ_ _=>rfl,M.above,y,ap,λi H b=>?_,f,(λq=>by cases q)⟩;show fL _ _ _ _ _ _ (Deaf t 0) _ _;rw[N.hears];exact X;show ¬(if i=0 then S else λ_=>False) b;rw[ay ak];exact id
 have l:gm C (.add k) (λi=>.quit (q i)) (λ_=>False) (λ_=>none) gs.size w:=by
  refine⟨ak,by show _=C.dT+(C.nw-(k+1));omega,by show k<C.nw;omega,λi _=>⟨q i,rfl⟩,⟨s,r,u⟩,⟨0,0,o,?_⟩,λi I J=>ak,λ_ _=>rfl,λ_ i I J=>ak,(λq=>by cases q),(λr q=>by cases q),λp K=>absurd K (gV _),λi p I J=>ak,λi j p I J=>ak,cs,v,x,λp K=>K.elim⟩;exact⟨by rw[Y];simp[Df],rfl,λ_ _=>rfl⟩
 exact L6 R hF U z A ⟨_,_,_,_,_,_,_,_,_,_,_,_,rfl,hc,l,rfl⟩
structure PI(E:rM)(X:Nat->Prop)(Shun:Loc->Prop):Prop where
 d:¬E.D
 m:∀m,¬E.M m
 f:∀l,iO E.F l->¬Shun l
 e:∀w,E.J w->∀b,E.F b\/X b->b<w.heap.size
 h:∀w k,E.J w->E.J (w.at k)
 j:∀l,Shun l->l.isMemory=true
 i:∀S w w' es,E.J w->(∀b,S b->¬E.F b/\¬X b)->sr E true S w w' es->E.J w'
def Yi{E:rM}(L:PI E X Shun)(v:E.J w)(o:sr E true S w w' es)(s:∀b,jF S w w' b->b<w'.heap.size)(k:∀l,iO (jF S w w') l->¬Shun l):∀e∈es,EvL Shun w'.heap.size e:=by
 intro e y;have g:=o.p e y;let ⟨n,t,u⟩:=e
 cases n with
 |cell ad=>
  have c:¬Shun (.cell ad)/\ad.block<w'.heap.size:=by
   rcases g with q|q
   exact⟨k _ q,s _ q⟩;exact⟨L.f _ q.1,aN (L.e w v _ (.inl q.1)) o.i⟩
  refine⟨λx a h=>?_,aY,aY,?_⟩;simp only[MemAct.ofEvent,MemAct.touch?,ba]at a;subst a;exact absurd h c.1;exact c.2
 |obj r=>
  have c:¬Shun (.obj r)/\r<w'.heap.size:=⟨k _ g,s _ g⟩;refine⟨λx a h=>?_,aY,aY,?_⟩;cases t<;>cases u<;>simp only[MemAct.ofEvent,MemAct.touch?,ba,reduceCtorEq]at a<;>(subst a;exact absurd h c.1);cases t<;>cases u<;>exact c.2
 |mark m=>
  rcases g with rfl|⟨f,rfl⟩|⟨q,_⟩|⟨q,_⟩|⟨_,q⟩
  exact⟨λx a=>(by cases a),aY,aY,aB⟩;exact⟨λx a=>(by cases a),aY,aY,aB⟩;exact absurd q L.d;exact absurd q L.d;exact absurd q (L.m m)
 |output=>exact⟨λx a h=>(by simp only[MemAct.ofEvent,MemAct.touch?,ba]at a;subst a;cases L.j _ h),aY,aY,aB⟩
 |goroutines=>exact⟨λx a h=>(by simp only[MemAct.ofEvent,MemAct.touch?,ba]at a;subst a;cases L.j _ h),aY,aY,aB⟩
def Qq{E:rM}(L:PI E X Shun){e:Event}(h:Xa E true S e):mP (MemAct.ofEvent e)=true:=by
 obtain⟨a,b,c⟩:=e;cases a with
 |obj r=>cases b<;>cases c<;>rfl
 |mark m=>
  rcases h with rfl|⟨f,rfl⟩|⟨_,rfl⟩|⟨_,rfl⟩|⟨_,q⟩
  rfl;rfl;rfl;rfl;exact absurd q (L.m m)
 |_=>rfl
def Ip{e:Event}(h:e.mute=true):mP (MemAct.ofEvent e)=true:=by
 let ⟨a,b,c⟩:=e
 cases a with
 |mark m=>cases m<;>simp_all [Event.mute,MemAct.ofEvent,mP]
 |_=>simp[Event.mute]at h
structure ZY(P:Program)(E:rM)(X:Nat->Prop)(Shun:Loc->Prop)(S:Nat->Prop)(gs:Array Goroutine)(a:Goroutine)(w0 w:World)(t:Trace)(q:Nat->Nat):Prop where
 o:gs[0]?=some a
 i:Leavers P t gs q
 j:Past Shun w.heap.size t
 x:∀op∈t,mP op.act=true
 p:∀op∈t,op.g<gs.size
 e:cF E S w0 w
 s:∀b,S b->b<w.heap.size/\¬E.F b/\¬X b
 u:∀l,iO S l->¬Shun l
 h:∀l,iO (w.heap.size<=·) l->¬Shun l
def ZY.H{E:rM}(L:PI E X Shun){f:Ba->Tr}{q:Nat->Nat}(hG:fL P true E Stop (.node f) S d a w0)(c:ZY P E X Shun S gs a w0 w t q):
  ∃gs' a' w' A Q,stepT P (crowd gs w sl)=(.next (crowd gs' w' A),Q)/\gs'.size=gs.size/\((∃w1 S' d',fL P true E Stop (f w1) S' d' a' w'/\ZY P E X Shun S' gs' a' w' w' (t++Q) q)\/∃q',sumTo gs.size q'<sumTo gs.size q/\a'=a/\ZY P E X Shun S gs' a w0 w' (t++Q) q'):=by
 have C:=hG.1;have bO:∀g∈gs,awake g:=by
  intro g W;obtain⟨i,K,rfl⟩:=wR.1 W;rcases fM i with rfl|D
  have:gs[0]=a:=by simpa[aW K] using c.o
  rw[this];exact awake_of (.inl C);exact awake_of ((c.i.old i _ D (aW K)).status.elim .inl λx=>.inr (.inr x))
 obtain⟨i,g,k,A,K,W,Y⟩:=crowd_pick (P:=P) (w:=w) (sl:=sl) bO ⟨0,a,c.o,C⟩;have hr:cF E S w0 (w.at k):=have r:=c.e;⟨r.i,r.s,r.p,r.t,r.u,r.o,L.h w k r.h⟩;have O:0<gs.size:=(ar.1 c.o).1;rcases fM i with rfl|D
 obtain rfl:g=a:=by have h0:=c.o;rw[h0]at K;exact(bb K).symm
 obtain⟨a',w',es,bR,M,hT⟩:=hG.2 (w.at k) hr;have v:=runT_crowd_go (P:=P) (sl:=A) (i:=0) K (show stepG P (0==0) g (w.at k)=_ from bR);have G:((gs.map (woken P g a' w')).setIfInBounds 0 a').size=gs.size:=aY;have R:w.heap.size<=w'.heap.size:=M.i;have Z:∀b,jF S (w.at k) w' b->b<w'.heap.size/\¬E.F b/\¬X b:=λb B=>by
  rcases B with B|B
  exact⟨aN (c.s b B).1 R,(c.s b B).2⟩;have h2:w.heap.size<=b:=B.1;exact⟨B.2,λhF=>by have:=L.e w c.e.h b (.inl hF);omega,λhF=>by have:=L.e w c.e.h b (.inr hF);omega⟩
 have aS:∀l,iO (jF S (w.at k) w') l->¬Shun l:=λl hl=>by
  cases l with
  |cell ad=>exact hl.elim (λq=>c.u (.cell ad) q) λq=>c.h (.cell ad) q.1
  |obj r=>exact hl.elim (λq=>c.u (.obj r) q) λq=>c.h (.obj r) q.1
  |_=>exact hl.elim
 refine⟨_,a',w',A,_,by rw[Y,v],G,.inl ⟨w.at k,_,_,hT,?_⟩⟩;refine⟨by simp[O],⟨λj x I T=>?_,λj I=>?_⟩,(c.j.mono R).own (Yi L hr.h M (λb B=>(Z b B).1) aS),λJ m=>?_,λJ m=>?_,cF.j _ (L.i S _ _ _ hr.h (λb B=>(c.s b B).2) M),Z,aS,λl hl=>c.h l (iO.h (λb B=>aO R B) hl)⟩;rw[aM ak,b9]at T;obtain⟨y,hy,rfl⟩:=bS.1 T;have U:=c.i.old j y I hy;rw[woken_quitsD U,Deaf_other t (g:=j) (g':=0) ak _ (λJ z=>by obtain⟨e,_,rfl⟩:=Conc.mem_ofEvents z;rfl)];exact U;rw[Deaf_other t (g':=0) (by simp at I;omega) _ (λJ z=>by obtain⟨e,_,rfl⟩:=Conc.mem_ofEvents z;rfl)];exact c.i.above j (dD I);rcases cE.1 m with m|m
 exact c.x J m;obtain⟨e,he,rfl⟩:=Conc.mem_ofEvents m;exact Qq L (M.p e he);rw[G];rcases cE.1 m with m|m
 exact c.p J m;obtain⟨e,he,rfl⟩:=Conc.mem_ofEvents m;exact O;have U:=c.i.old i g D K;have ci:(i==0)=false:=fS;have V:i<gs.size:=(ar.1 K).1;cases hqi:q i with
 |zero=>rw[hqi]at U;rw[U.1]at W;cases W
 |succ n=>
  rw[hqi]at U;rcases U with⟨hf,_⟩|⟨_,g',es,hm,a0,cj⟩
  rw[hf]at W;cases W;have v:=runT_crowd_go (P:=P) (sl:=A) (i:=i) K (by rw[ci];exact a0 (w.at k));have G:((gs.map (woken P g g' (w.at k))).setIfInBounds i g').size=gs.size:=aY;have a1:sumTo gs.size (up q i n)<sumTo gs.size q:=by
   have:=IR (f:=up q i n) (g:=q) V (λj I=>cV I);rw[cu,hqi]at this;omega
  refine⟨_,a,w.at k,A,_,by rw[Y,v],G,.inr ⟨up q i n,a1,rfl,?_⟩⟩;refine⟨?_,⟨λj x I T=>?_,λj I=>?_⟩,c.j.mute ak hm,λJ m=>?_,λJ m=>?_,hr,c.s,c.u,c.h⟩;rw[aM ak,b9,c.o];simp[woken_run C];by_cases N:i=j;subst N;rw[aV (dD V)]at T;obtain rfl:=bb T;rw[cu,Deaf_own];exact cj;rw[aM N,b9]at T;obtain⟨y,hy,rfl⟩:=bS.1 T;have bm:=c.i.old j y I hy;rw[woken_quitsD bm,cV (eX N),Deaf_other t N _ (λJ z=>by obtain⟨e,_,rfl⟩:=Conc.mem_ofEvents z;rfl)];exact bm;rw[Deaf_other t (g':=i) (by simp at I;omega) _ (λJ z=>by obtain⟨e,_,rfl⟩:=Conc.mem_ofEvents z;rfl)];exact c.i.above j (dD I);rcases cE.1 m with m|m
  exact c.x J m;obtain⟨e,he,rfl⟩:=Conc.mem_ofEvents m;exact Ip (hm e he);rw[G];rcases cE.1 m with m|m
  exact c.p J m;obtain⟨e,he,rfl⟩:=Conc.mem_ofEvents m;exact V
def Ya{E:rM}(L:PI E X Shun):∀(T:Tr) (M:Nat) (S:Nat->Prop) (d:Nat) (gs:Array E4) (a:E4) (w0 w:Ba) (sl:Option (Nat×Nat)) (t:Trace) (q:Nat->Nat),sumTo gs.size q<=M->fL P true E Stop T S d a w0->ZY P E X Shun S gs a w0 w t q ->
  ∃N j k gs' a' b w' c t' x,runNT P N (crowd gs w sl) t=(.next (crowd gs' w' c),t')/\gs'.size=gs.size/\Stop j k a' b/\ZY P E X Shun j gs' a' b w' t' x:=by
 intro T;induction T with
 |leaf=>exactλM S d gs a w0 w sl t q _ l m=>⟨0,S,d,gs,a,w0,w,sl,t,q,rfl,rfl,l,m⟩
 |node f F=>
  intro M;induction M with
  |zero=>
   intro S d gs a w0 w sl t q G l m;obtain⟨g,y,w1,h,i,z,n,⟨v,A,d1,B,e⟩|⟨x,C,_⟩⟩:=m.H (sl:=sl) L l;let ⟨N,j,k,gs',a',b,w',c,t',o,p,r,s,u⟩:=F v _ A d1 g y w1 w1 h (t++i) q (aj _) B e
   exact⟨N+1,j,k,gs',a',b,w',c,t',o,by rw[runNT_succ_next z];exact p,r.trans n,s,u⟩;omega
  |succ M D=>
   intro S d gs a w0 w sl t q G l m;obtain⟨g,y,w1,h,i,z,n,⟨v,A,d1,B,e⟩|⟨x,C,rfl,e⟩⟩:=m.H (sl:=sl) L l;let ⟨N,j,k,gs',a',b,w',c,t',o,p,r,s,u⟩:=F v _ A d1 g y w1 w1 h (t++i) q (aj _) B e
   exact⟨N+1,j,k,gs',a',b,w',c,t',o,by rw[runNT_succ_next z];exact p,r.trans n,s,u⟩;let ⟨N,j,k,gs',a',b,w',c,t',o,p,r,s,u⟩:=D S d g y w0 w1 h (t++i) x (by rw[n];omega) l e
   exact⟨N+1,j,k,gs',a',b,w',c,t',o,by rw[runNT_succ_next z];exact p,r.trans n,s,u⟩
section
def ix(F X:Nat->Prop)(W:World):rM:=⟨F,λw=>∀b,F b\/X b->w.heap[b]?=W.heap[b]?,λ_=>False,False⟩
section
variable{E:rM}
def cF.I(a:∀w,E'.J w->E.J w)(hF:∀b,E.F b->E'.F b)(h:cF E' S w w1):cF E S w w1:=⟨h.i,λb q=>h.s b (hF b q),h.p,h.t,h.u,h.o,a _ h.h⟩
def fL.j(l:∀w,E'.J w->E.J w)(hF:∀b,E.F b->E'.F b)(n:∀m,¬E.M m)(k:¬E.D):∀(T:Tr) {S:Nat->Prop} {d:Nat} {g:E4} {w:Ba},fL P mb E Stop T S d g w->fL P mb E' Stop T S d g w
 |.leaf,_,_,_,_,h=>h
 |.node f,S,d,g,w,h=>⟨h.1,λw1 r=>by
  obtain⟨g',w',es,a,b,c⟩:=h.2 w1 (r.I l hF);refine⟨g',w',es,a,⟨b.h,b.i,b.o,b.s,b.j,λe t=>?_⟩,fL.j l hF n k (f w1) c⟩;have:=b.p e t;unfold Xa at this⊢;split at this;exact this.imp id λq=>⟨hF _ q.1,q.2⟩;exact this;rcases this with q|q|q|q|q
  exact .inl q;exact .inr (.inl q);exact absurd q.1 k;exact absurd q.1 k;exact absurd q.2 (n _);trivial⟩
def fC.ah(a:∀w,E'.J w->E.J w)(hF:∀b,E.F b->E'.F b)(c:∀m,¬E.M m)(e:¬E.D)(h:fC P mb E Stop S d g w):fC P mb E' Stop S d g w:=by
 let ⟨T,h⟩:=h
 exact⟨T,fL.j a hF c e T h⟩
end
structure EF(P:Program)(Shun:Loc->Prop)(F X S:Nat->Prop)(gs:Array Goroutine)(a:Goroutine)(w:World)(t:Trace)(q:Nat->Nat):Prop where
 p:gs[0]?=some a
 u:Leavers P t gs q
 h:Past Shun w.heap.size t
 x:∀op∈t,mP op.act=true
 o:∀op∈t,op.g<gs.size
 s:∀b,S b->b<w.heap.size/\¬F b/\¬X b
 f:∀b,F b\/X b->b<w.heap.size
 e:∀l,iO S l\/iO F l\/iO (w.heap.size<=·) l->¬Shun l
 i:∀l,Shun l->l.isMemory=true
def Qj{W:Ba}(e:∀b,F b\/X b->b<W.heap.size)(hs:∀l,iO F l->¬Shun l)(g:∀l,Shun l->l.isMemory=true):PI (ix F X W) X Shun:=by
 refine⟨id,λ_=>id,hs,λw c b a=>?_,λw k h=>h,g,λS w w' es c f i b a=>?_⟩;have:=c b a;rw[aW (e b a)]at this;exact(ar.1 this).1;have d:=c b a;have j:b<w.heap.size:=by
  rw[aW (e b a)]at d;exact(ar.1 d).1
 exact(i.h b j λq=>a.elim (f b q).1 (f b q).2).trans d
variable{q:Nat->Nat}
def EF.Z(h:EF P Shun F X S gs a w t q)(sl:Option (Nat×Nat))(r:fC P true (ix F X w) Stop S 0 a w):
  ∃N k m gs' a' w0 w' g t' n,runNT P N (crowd gs w sl) t=(.next (crowd gs' w' g),t')/\Stop k m a' w0/\cF (ix F X w) k w0 w'/\EF P Shun F X k gs' a' w' t' n:=by
 let ⟨T,v⟩:=r
 have L:=Qj (W:=w) h.f (λl c=>h.e l (.inr (.inl c))) h.i;let ⟨N,k,m,gs',a',w0,w',g,t',n,y,B,z,d⟩:=Ya L T _ S 0 gs a w w sl t q (aj _) v ⟨h.p,h.u,h.h,h.x,h.o,cF.j S (λ_ _=>rfl),h.s,λl c=>h.e l (.inl c),λl c=>h.e l (.inr (.inr c))⟩
 refine⟨N,k,m,gs',a',w0,w',g,t',n,y,z,d.e,d.o,d.i,d.j,d.x,d.p,d.s,λb A=>L.e w' d.e.h b A,λl c=>?_,h.i⟩;rcases c with c|c|c
 exact d.u l c;exact h.e l (.inr (.inl c));exact d.h l c
def MA{B:Nat}(h:Past Shun B t){Z:Nat->Prop}(e:∀i a,touchAt t i=some a->iO Z a.loc->Knows t 0 i):Past (λl=>Shun l/\¬iO Z l/\¬iO (B<=·) l) B t:=by
 refine⟨h.clean,λi a b f=>?_,h.over,h.hears,h.seen⟩;rcases h.known i a b f with k|⟨k,g⟩
 exact .inl k;by_cases d:iO Z a.loc;exact .inl (e i a b d);obtain⟨x,j,c⟩:=touch_of b;exact .inr ⟨⟨k,d,BR c (h.seen x (dK j))⟩,g⟩
def MJ(h:runNT P n m t=(.next m',t')):runNT P (n+k) m t=runNT P k m' t':=by
 induction n generalizing m t with
 |zero=>simp[runNT]at h;obtain⟨rfl,rfl⟩:=h;rw[bY]
 |succ n a=>
  rw[Nat.succ_add];simp only[runNT]at h⊢;cases hs:stepT P m with
  |mk s b=>
   rw[hs]at h;cases s with
   |next c=>exact a h
   |ended o w=>simp at h
end
section
def i7(P:Program)(Post:Value->World->Prop)(m:Machine)(t:Trace):Prop:=
 ∃N last o w' t',runNT P (N+1) m t=(.ended o w',t')/\runN P N m=.next last/\step P last=.ended o w'/\Good P Post last o w' t'
variable{q:Nat->Nat}
def Qz(h:runN P n m=.next m'):runN P (n+k) m=runN P k m':=by
 induction n generalizing m with
 |zero=>simp[runN]at h;subst h;rw[bY]
 |succ n a=>
  rw[Nat.succ_add];simp only[runN]at h⊢;cases hs:step P m with
  |next b=>rw[hs]at h;exact a h
  |ended o w=>rw[hs]at h;cases h
def i7.e(h:runNT P n m t=(.next m',t'))(k:i7 P Post m' t'):i7 P Post m t:=by
 obtain⟨N,last,o,w',a,b,c,d,f⟩:=k;refine⟨n+N,last,o,w',a,(MJ (k:=N+1) h).trans b,?_,d,f⟩;rw[Qz (m':=m') (by rw[<-runNT_fst _ _ _ t,h])];exact c
def EF.H(h:EF P Shun F X S gs a w t q)(d:fC P true (ix F X w) Stop S 0 a w)(f:∀S' d' gs' a' w0 w' b t' c,Stop S' d' a' w0->cF (ix F X w) S' w0 w'->EF P Shun F X S' gs' a' w' t' c->i7 P Post (crowd gs' w' b) t'):i7 P Post (crowd gs w sl) t:=by
 obtain⟨N,S',d',gs',a',w0,w',b,t',c,g,i,j,k⟩:=h.Z sl d;exact i7.e g (f S' d' gs' a' w0 w' b t' c i j k)
def EF.O(h:EF P Shun F X S gs a w t q)(b:∀k,a.status=.running/\∃v es,stepG P true a (w.at k)=.ended (.done v) (w.at k) es/\(∀e∈es,EvL Shun w.heap.size e)/\Post v (w.at k)):i7 P Post (crowd gs w sl) t:=
 beside_ends (D:=λ_ _ _=>False) (n:=0) (λ_ _ _ h=>h.elim) h.p h.u h.h (λw1 c=>by
  obtain⟨k,rfl⟩:=c;exact b k)
def L1(hs:∀b,S b->b<w.heap.size/\¬F b)(c:∀b,F b->b<w.heap.size):EF P (λ_=>False) F (λ_=>False) S #[a] a w #[] (λ_=>0):=
 ⟨rfl,leavers_one P a,past_nil.mono (iu _),(λd h=>by simp at h),(λd h=>by simp at h),λb q=>⟨(hs b q).1,(hs b q).2,id⟩,λb q=>q.elim (c b) False.elim,λ_ _=>id,λ_ h=>h.elim⟩
def EF.V{d f S':Nat->Prop}(h:EF P Shun F X S gs a w t q)(hs:∀b,S' b->S b/\¬d b/\¬f b)(g:∀b,d b->b<w.heap.size/\∀l,iO (· = b) l->¬Shun l)(j:∀b,f b->b<w.heap.size):EF P Shun d f S' gs a w t q:=
 ⟨h.p,h.u,h.h,h.x,h.o,λb k=>⟨(h.s b (hs b k).1).1,(hs b k).2⟩,λb k=>k.elim (λk=>(g b k).1) (j b),λl c=>by
  rcases c with c|c|c
  exact h.e l (.inl (iO.h (λb k=>(hs b k).1) c));cases l with
  |cell ad=>exact(g _ c).2 (.cell ad) rfl
  |obj r=>exact(g _ c).2 (.obj r) rfl
  |_=>exact c.elim
  exact h.e l (.inr (.inr c)),h.i⟩
end
def BL(S:Nat->Prop)(w:Ba):jF S w w=S:=by
 funext b;exact propext ⟨λh=>h.elim id λq=>absurd q.2 (Nat.not_lt.2 q.1),.inl⟩
def rR(h:w'.heap.size=w.heap.size):jF S w w'=S:=by
 funext b;exact propext ⟨λq=>q.elim id λq=>ak,.inl⟩
section
variable{E:rM}
def sr.still(a:∀e∈es,Xa E mb S e):sr E mb S w w es:=⟨λ_ _ _=>rfl,aj _,rfl,rfl,rfl,λe h=>by rw[BL];exact a e h⟩
def fC.j(hs:g.status=.running)(h:∀w1,cF E S w w1->∃g' es,stepG P mb g w1=.go g' w1 es/\(∀e∈es,Xa E mb S e)/\fC P mb E Stop S (deafBehind d es) g' w1):fC P mb E Stop S d g w:=
 fC.H hs λw1 f=>by
  obtain⟨g',es,a,b,c⟩:=h w1 f;exact⟨g',w1,es,a,sr.still b,by rw[BL];exact c⟩
def Goes.ab(hF:cF E S w0 w)(hs:g.status=.running)(h:∀w1,cF E S w0 w1->∃g' es,stepG P mb g w1=.go g' w1 es/\(∀e∈es,Xa E mb S e)/\fC P mb E Stop S (deafBehind d es) g' w1):Goes P mb (cF E S) DC0 (λg w=>fC P mb E Stop S d g w) n g w:=
 Goes.stop λ_ r=>fC.j hs λ_ q=>h _ ((hF.e r).e q)
def fC.e:∀{n:Nat} {g:E4} {w:Ba},E.J w->Goes P mb (cF E S) DC0 (λg w=>fC P mb E Stop S d g w) n g w->fC P mb E Stop S d g w
 |0,g,w,a,h=>h w (cF.j S a)
 |n+1,g,w,a,h=>by
  rcases h with h|⟨c,h⟩
  exact h w (cF.j S a);refine fC.j c λw1 b=>?_;have:=h w1 b;cases hst:stepG P mb g w1 with
  |go g' w' es=>
   rw[hst]at this;obtain⟨⟨rfl,rfl⟩,f⟩:=this;exact⟨g',#[],rfl,λe i=>by simp at i,fC.e b.h f⟩
  |_=>rw[hst]at this;exact this.elim
def lc{R R':Ba->Ba->Prop}{D:Ba->Ba->Array Event->Prop}{St a:E4->Ba->Prop}(c:∀w w1,R' w w1->R w w1)(d:∀g w,St g w->a g w):∀{n:Nat} {g:E4} {w:Ba},Goes P mb R D St n g w->Goes P mb R' D a n g w
 |0,g,w,h=>λw1 b=>d _ _ (h w1 (c _ _ b))
 |n+1,g,w,h=>by
  rcases h with h|⟨e,h⟩
  exact .inl λw1 b=>d _ _ (h w1 (c _ _ b));refine .inr ⟨e,λw1 b=>?_⟩;have:=h w1 (c _ _ b);cases hst:stepG P mb g w1 with
  |go g' w' es=>rw[hst]at this;exact⟨this.1,lc c d this.2⟩
  |_=>rw[hst]at this;exact this.elim
end
def dQ.e(C:dQ):rM:=⟨C.E.F,C.E.J,λ_=>False,False⟩
variable{C:dQ}
def rq:cF C.E S w w1↔cF C.e S w w1:=⟨λh=>⟨h.i,h.s,h.p,h.t,h.u,h.o,h.h⟩,λh=>⟨h.i,h.s,h.p,h.t,h.u,h.o,h.h⟩⟩
def Ff{v:Dv}(h:cF C.E S w w1)(c:ad.block=C.L.b)(f:¬S C.L.b)(hF:¬C.L.F C.L.b)(g:C.E.J (w1.setCell ad v)):cF C.E S w (w1.setCell ad v):=by
 have d:∀b,b≠C.L.b->(w1.setCell ad v).heap[b]?=w1.heap[b]?:=λb a=>by
  show (w1.heap.modify ad.block _)[b]?=_;rw[bL,ay (λe=>a (e.symm.trans c))]
 exact⟨λb a=>(d b (λe=>f (e▸a))).trans (h.i b a),λb a=>(d b (λe=>hF (e▸a))).trans (h.s b a),by show _<=(w1.heap.modify ad.block _).size;rw[Array.size_modify];exact h.p,h.t,h.u,h.o,g⟩
structure ZW(C:dQ)(S:Nat->Prop):Prop where
 s:¬S C.L.b
 f:¬C.L.F C.L.b
 c:C.L.e≠C.L.b
 a:C.L.h≠C.L.b
def DD(v:Int)(h:cF C.E S w w1)(A:ZW C S)(i:WgAt C.ty C.L.b w1 st sm):cF C.E S w (w1.setCell (stA C.L.b) (.int .u64 v))/\cF C.E S w (w1.setCell (smA C.L.b) (.int .u32 v)):=by
 obtain⟨_,⟨j,s,r,k⟩,l,m,n⟩:=h.h;have d:∀ad u b,ad.block=C.L.b->b≠C.L.b->(w1.setCell ad u).heap[b]?=w1.heap[b]?:=λad u b g o=>by
  show (w1.heap.modify ad.block _)[b]?=_;rw[bL,ay (λe=>o (e.symm.trans g))]
 exact⟨Ff h rfl A.s A.f ⟨⟨_,_,i.setSt v⟩,⟨j,s,r,by rw[d _ _ _ rfl A.c];exact k⟩,l,by rw[d _ _ _ rfl A.a];exact m,n⟩,Ff h rfl A.s A.f ⟨⟨_,_,i.setSm v⟩,⟨j,s,r,by rw[d _ _ _ rfl A.c];exact k⟩,l,by rw[d _ _ _ rfl A.a];exact m,n⟩⟩
def vF{P:Prop}(k:Q)(h:Q->P:=by
  intro k;repeat first|w_go rtr|u_defer rtr hF|u_bub rtr hF|u_cnd false rtr hF|u_cnd true rtr hF
  revert hF;rename_i w;revert w;exact k):P:=h k
def zq{E:rM}(hF:cF E S w0 w)(k:Q)(h:Q->Goes P mb (cF E S) DC0 (λg w=>fC P mb E Stop S d g w) 110 g w:=by
  intro k;repeat first|w_go rtr|u_defer rtr hF|u_bub rtr hF|u_cnd false rtr hF|u_cnd true rtr hF
  revert hF;rename_i w;revert w;exact k):fC P mb E Stop S d g w:=fC.e hF.h (h k)
def PP{C:dQ}(H:WgLib C.P L)(i:C.ty=L.tWg){S:Nat->Prop}(A:ZW C S){Next:gL}{m:Frame}{o:Act}{c:Array Oper}{p:Nat}{d:List Nat}{q:List Item}{cs:List Frame}{w0 w:Ba}(hF:cF C.E S w0 w)
  (r:∀w1,cF C.E S w0 w1->fC C.P true C.E Next S 0 (G (m.at (o.put ((c[p]?).bind (·.dst)) (.tuple #[])) (.inRegion c d::q)) cs) w1):
  fC C.P true C.E (Bt C Next) S 0 (G ((base L.add).at ⟨#[.pointer (some (aA C.L.b 0)),iI 1]++Array.replicate 115 undef,[]⟩ [.code (body_add L)]) (m.at o (.inRegion c (p::d)::q)::cs)) w:=by
 have y:∀{w},cF C.E S w0 w->WgLive L.tWg C.L.b w:=λh=>i▸h.h.1;lib_facts;simp only[body_add,addFn,di,eY,eZ,fZ,fv,cS,dh];refine zq hF λ_ hF=>?_
 (refine Goes.ab hF rfl λ_ hF=>⟨_,_,(stepG_mark0 .disable aY rfl rfl (by k_ne) rfl H.f_disable (x_disable_n L) (x_disable_b L) (x_disable_x L) (x_disable_f L)),(λe f=>by simp at f;subst f;exact(.inr (.inr (.inl ⟨aB,rfl⟩)))),?_⟩;walk_nrm)
 refine zq hF λ_ hF=>?_;u_call H.f_uAdd (nm_uAdd L) uAddFn cF.e hF;refine vF λ_ hF=>?_;refine Goes.stop (λB a=>fC.h ⟨rfl,rfl,λs t v I g=>?_⟩);replace hF:=(hF.e a).e t;clear a t B;rw[i]at g;have K:∀u:Int,cF C.E S w0 (s.setCell (stA C.L.b) (.int .u64 u)):=λu=>(DD u hF A (i▸g)).1;rcases fM v with rfl|D
 .replace g:WgAt L.tWg C.L.b s 0 0:=dD g;have z:(((0:Nat):Int)+1)*KK=KK:=aY;rw[z];have F:IntKind.u64.wrap (0+4294967296)=KK:=cn;refine⟨_,(stepG_add_atomic rfl rfl (by k_ne) rfl H.f_addU64 (x_addU64_n L) (x_addU64_b L) (x_addU64_x L) .u64 (x_addU64_f L) rfl rfl g.cellSt (g.thaw 0)).trans (by rw[F];rfl),?_⟩;replace hF:=K KK;clear g K;simp only[KK]at hF⊢;walk_nrm;refine zq hF λ_ hF=>?_;u_leave1 H.f_uAdd cF.e hF;refine vF λ_ hF=>?_;m_convG C.P H.underlying_tUP H.underlying_tPU32 H.room_tU32 (WgLive.cell1 (y hF)).choose_spec cF.e hF
  (refine Goes.ab hF rfl λ_ hF=>⟨_,_,(stepG_markAt .read aY rfl rfl (by k_ne) rfl H.f_raceRead (x_raceRead_n L) (x_raceRead_b L) (x_raceRead_x L) (x_raceRead_f L) (ad:=(aA C.L.b 1)) (by simp[Act.eval])),(λe f=>by simp at f;subst f;exact(.inr (.inr (.inr (.inr ⟨rfl,_,rfl,.inl rfl⟩))))),?_⟩;walk_nrm)
  refine zq hF λ_ hF=>?_
  (refine Goes.stop (λ_ a=>?_);replace hF:=cF.e hF a;clear a;refine fC.j rfl (λ_ a=>⟨_,_,stepG_unwind_entry (v:=.tuple #[]) (evs:=#[mk .enable]) rfl H.f_enable (x_enable_n L) (x_enable_b L) (x_enable_x L) (x_enable_f L) (by simp[Extern.Race.none_]) (by simp[mk]) (by simp[mk]),(λe f=>by simp at f;subst f;exact .inr (.inr (.inr (.inl ⟨aB,rfl⟩)))),?_⟩);replace hF:=cF.e hF a;clear a;refine fC.e (n:=1) hF.h ?_;u_leave0 H.f_add cF.e hF;exact Goes.stop (λ_ a=>r _ (hF.e a)))
 .obtain⟨V,l⟩:∃V:Int,V=(v:Int)+1:=⟨_,rfl⟩;obtain⟨N,k⟩:∃N:Int,N=V*KK:=⟨_,rfl⟩;have x:IntKind.u64.wrap ((v:Int)*KK+4294967296)=N:=by rw[IntKind.wrap_u64,k,l];simp only[KK];omega
  rw[<-l,<-k];have J:N/4294967296=V:=by rw[k];simp only[KK];omega
  have b1:bits .and .u64 N 2147483648=0:=by rw[k,l];have:=st_flag (v+1) 0 ak ak;simpa[KK] using this
  have b2:bits .and .u64 N 2147483647=0:=by rw[k,l];have:=st_waiters (v+1) 0 ak ak;simpa[KK] using this
  have c1:IntKind.i32.wrap V=V:=by rw[IntKind.wrap_i32];omega
  have M:1<V/\V<2147483648:=ak;have O:(V==1)=false:=fS;have Q:decide (V=1)=false:=aK ak;have R:decide (V<0)=false:=aK ak;have T:decide (0<V)=true:=aX ak;have U:(V==0)=false:=fS;have W:decide (V=0)=false:=aK ak;refine⟨_,(stepG_add_atomic rfl rfl (by k_ne) rfl H.f_addU64 (x_addU64_n L) (x_addU64_b L) (x_addU64_x L) .u64 (x_addU64_f L) rfl rfl g.cellSt (g.thaw 0)).trans (by rw[x];rfl),?_⟩;replace hF:=K N;clear g K k l x;walk_nrm;refine zq hF λ_ hF=>?_;u_leave1 H.f_uAdd cF.e hF;refine vF λ_ hF=>?_
  (refine Goes.stop (λ_ a=>?_);replace hF:=cF.e hF a;clear a;refine fC.j rfl (λ_ a=>⟨_,_,stepG_unwind_entry (v:=.tuple #[]) (evs:=#[mk .enable]) rfl H.f_enable (x_enable_n L) (x_enable_b L) (x_enable_x L) (x_enable_f L) (by simp[Extern.Race.none_]) (by simp[mk]) (by simp[mk]),(λe f=>by simp at f;subst f;exact .inr (.inr (.inr (.inl ⟨aB,rfl⟩)))),?_⟩);replace hF:=cF.e hF a;clear a;refine fC.e (n:=1) hF.h ?_;u_leave0 H.f_add cF.e hF;exact Goes.stop (λ_ a=>r _ (hF.e a)))
end Go.Eqv
