/- Parts of the proof. -/
import Derived.Test.YtbebfliimjjohabGreatDoorM11
import Derived.Conc.MuWords
import Derived.Conc.WgGenN3
set_option maxRecDepth 100000
set_option maxHeartbeats 8000000
set_option linter.all false
open Go.Conc Go.ConcN Go.RowKit Go.Conc.Lib Go.ConcR.Gen Go.ConcM Go.ConcN.Gen
open Go.ConcR (KK wgBlock WgAt stA smA rd wr mk DC0)
open Go.ConcN (sumTo sumTo_congr)
namespace Go.Eqv
variable{ad:Addr}{es:Array Event}{gs gs':Array Bm}{mb:Bool}{a a' g g':Bm}{st sm:Int}{Shun:Loc->Prop}{x x':MTag}{m m':Machine}{i n d k:Nat}{dn dn':Nat->Nat}{Sn Sn':Nat->Nat->Prop}{rel rel':Nat->Option Nat}{stored stored' F X S:Nat->Prop}{Tm Tm':Nat->Tr}{tg tg':Nat->WTag}{wn wn':Nat->A1}{sl:Option (Nat×Nat)}{P:Bo}{T:Tr}{t u t':Trace}{Post:Bg->A1->Prop}{y:WTag}{L:WgLink}{w w2 w' w1:A1}{Anc AncW Fin Stop:gS}{E':tM}
def Eb(C:ee)(Fin:gS)(Shun:Loc->Prop)(m:Machine)(t:Trace):Prop:=
 ∃S gs a w sl q,m=crowd gs w sl/\gs[0]?=some a/\Fin S 0 a w/\Leavers C.P t gs q/\Past (λl=>Shun l\/jo (· = C.L.b) l) w.heap.size t/\(∀c∈t,nQ c.act=true) /\
  (∃d,w.heap[C.L.h]?=some (.cells d C.ta)/\d.size=C.nt/\∀p,p<C.nt->d[p]?=some (C.BO p))/\(∀c∈t,c.g<gs.size)/\(∀b,S b->b<w.heap.size/\¬C.L.F b/\b≠C.L.b/\b≠C.L.e/\b≠C.L.h)/\(∀b,C.L.F b\/b=C.L.b\/b=C.L.e\/b=C.L.h->b<w.heap.size)/\C.E.J w/\∀i a,touchAt t i=some a->jo S a.loc->Knows t 0 i
section
variable{C:ee}{v:Bg}
def xn(a:Vc C tg n=0)(b:i<n)(c:C.eu<=i):(tg i).h=false:=by
 have:=SQ a i b;cases q:(tg i).h with
 |false=>rfl
 |true=>unfold BV at this;rw[q]at this;simp[c]at this
def OQ(hA:gl C Anc)(h:gr C Anc AncW Fin Shun x tg Tm Sn dn wn stored rel a gs w t)(l:gM C x tg stored rel gs.size w)(S:x=.acq)(H:Mg C Fin (Sn 0) (dn 0) a (wn 0)):
  ∃m' r,runT C.P (crowd gs w sl) 0=(.next m',r)/\Eb C Fin Shun m' (t++r):=by
 have d:=(am.1 h.j).1;subst S;let ⟨st,sm,T,U⟩:=l.b
 obtain⟨J,rfl,rfl,V⟩:Vc C tg gs.size=0/\st=0/\sm=0/\_:=U;let ⟨hd,_,H⟩:=H
 let ⟨g',K,v⟩:=H w (h.e 0 d)
 have n:=runT_crowd_go (P:=C.P) (sl:=sl) (i:=0) h.j K;rw[vN]at n;have quit:∀i,i<gs.size->∃q,tg i=.quit q:=λi F=>by
  rcases cz i C.eu with q|q
  exact l.I i q;have L:=xn J F q;have M:=V i F;revert L M;cases tg i<;>simp[WTag.h,WTag.e,WTag.j]
 refine⟨_,_,n,Sn 0,_,g',w,sl,λi=>(match tg i with|.quit q=>q|_=>0),rfl,by rw[bi (by simpa using d)],v,⟨λi g0 F G=>?_,λj W=>?_⟩,?_,λf c=>?_,?_,λf c=>?_,λb m=>?_,λb m=>?_,(h.e 0 d).h,?_⟩;rw[aN (by omega),cD]at G;obtain⟨y,O,rfl⟩:=bV.1 G;have z:=(am.1 O).1;have D:=h.p i y F O;let ⟨q,X⟩:=quit i z
 rw[X]at D⊢;rw[Deaf_other t (g:=i) (g':=0) (by omega) _ (λf c=>by obtain rfl:f=_:=(by simpa using c);rfl),h.o i z];replace D:QuitsD C.P q (dn i) y:=D;rw[woken_quitsD D];exact D;have:gs.size<=j:=by simpa using W
 rw[Deaf_other t (g:=j) (g':=0) (by omega) _ (λf c=>by obtain rfl:f=_:=(by simpa using c);rfl)];exact h.s j this;refine h.y.I h.h (y:=_) ⟨rfl,rfl⟩ (by rw[h.o 0 d,hd]) λk i Q G=>?_;let ⟨f,c,N⟩:=bV.1 G
 have E:k<gs.size:=by have:=h.A f (dU c);rw[N]at this;exact this
 have:=xn J E Q;apply (l.e k Q E).1;have R:¬4<=(tg k).e:=by simpa[WTag.h] using this
 omega;rcases cN.1 c with c|c
 exact h.y.b f c;obtain rfl:f=_:=(by simpa using c);rfl;obtain⟨Y,L,M,R⟩:=l.o;refine⟨Y,L,M,λp Z=>?_⟩;rcases l.B p Z with q|⟨j,b1,b2,b3⟩
 exact(R p q).2;have:=xn J b2 b1;rw[b3]at this;cases this;simp;rcases cN.1 c with c|c
 exact h.A f c;obtain rfl:f=_:=(by simpa using c);exact d;exact⟨h.h.p 0 b m,h.h.s 0 b m,(λe=>by subst e;exact h.h.x 0 m),(λe=>by subst e;exact h.h.w 0 m),(λe=>by subst e;exact h.h.u 0 m)⟩;rcases m with m|rfl|rfl|rfl
 exact h.h.o b m;exact h.h.h;exact h.h.e;exact h.h.i;refine TI.s (TI.e h.y ?_ ?_ ?_) 0 (.inl rfl);rfl;exact h.h.h;rfl
def OT(m:gl C Anc)(s:∀{S d g w},Fin S d g w->g.status=.running)(B:C.nw<2147483647)(h:gr C Anc AncW Fin Shun x tg Tm Sn dn wn stored rel a gs w t)(l:gM C x tg stored rel gs.size w)(n:gs[i]?=some g)(c:0<i)(u:g.status=.running):
  vf C Anc AncW Fin Shun (gG C x tg Tm a gs.size) t (runT C.P (crowd gs w sl) i):=by
 have y:=(am.1 n).1;rcases cz i C.eu with o|o
 let ⟨q,F⟩:=l.I i o
 exact AP m s h l n c u F;have k:=h.p i g c n;have z:=h.e i y;cases hy:tg i with
 |quit q=>exact AP m s h l n c u hy
 |k1=>exact SN m s h l n c o hy
 |d1=>exact SJ m s B h l n c o hy
 |d2=>exact SK m s h l n c o hy
 |d3=>exact SL m s h l n c o hy
 |d4=>exact SM m s h l n c o hy
 |park=>
  rw[hy]at k;obtain⟨_,v,rfl,_⟩:=k;cases u
 |woke=>
  rw[hy]at k;obtain⟨hd,v,rfl,D⟩:=k;have e:({v with status:=.running}:Bm)=v:=by
   have:=(m.i D).1;let ⟨_,_,_,_,_⟩:=v
   dsimp only at this;subst this;rfl
  exact AO (g0:=v) m s h l n c o (by rw[stepG_tries,e];exact(m.b D w z)) (.inr hy) hd (l.j o y (by rw[hy];simp) (by rw[hy];simp) (by rw[hy];simp)) (m.e D w z)
 |recv=>
  rw[hy]at k;replace k:gu C.P false C.E Anc (Tm i) (Sn i) (dn i) g (wn i):=k;cases hT:Tm i with
  |node f=>rw[hT]at k;exact uD m s h l n c o hT k (by rw[hy];decide) (λT=>by rw[hy];rfl) (λT S d g w q=>by rw[hy];exact q)
  |leaf=>
   rw[hT]at k;replace k:Anc (Sn i) (dn i) g (wn i):=k;have hd:=m.d k;cases hcl:mV x with
   |true=>exact AO (g0:=g) m s h l n c o (m.b k w z) (.inl hy) hd hcl (m.e k w z)
   |false=>
    by_cases A:∃r,x=.sendP r;let ⟨r,A⟩:=A
    exact J7 m h l n c o hy k A;exact J8 m s h l n c o hy k hcl (λr e=>A ⟨r,e⟩) (by have:=m.j k w z;rw[hd]at this;exact this)
 |busy p=>
  rw[hy]at k;replace k:gu C.P false C.E (vC C Anc p) (Tm i) (Sn i) (dn i) g (wn i):=k;cases hT:Tm i with
  |node f=>rw[hT]at k;exact uD m s h l n c o hT k (by rw[hy];simp[WTag.e]) (λT=>by rw[hy];rfl) (λT S d g w q=>by rw[hy];exact q)
  |leaf=>rw[hT]at k;exact GR m s h l n c o hy k
 |tell=>
  rw[hy]at k;replace k:gu C.P false C.E (vu C) (Tm i) (Sn i) (dn i) g (wn i):=k;cases hT:Tm i with
  |node f=>rw[hT]at k;exact uD m s h l n c o hT k (by rw[hy];decide) (λT=>by rw[hy];rfl) (λT S d g w q=>by rw[hy];exact q)
  |leaf=>rw[hT]at k;exact J9 m s h l n c o hy k
def OS(j:gl C Anc)(o:∀S d g w,AncW S d g w->fp C.P true C.E (Ge C AncW Fin) S d g w)(n:C.nw<2147483647)(h:gr C Anc AncW Fin Shun x tg Tm Sn dn wn stored rel a gs w t)(l:gM C x tg stored rel gs.size w)(m:a.status=.running):
  vf C Anc AncW Fin Shun (gG C x tg Tm a gs.size) t (runT C.P (crowd gs w sl) 0)\/∃m' c,runT C.P (crowd gs w sl) 0=(.next m',c)/\Eb C Fin Shun m' (t++c):=by
 have i:=h.u;have b:∀{Stop:gS},tP C Anc AncW Fin x (Tm 0) (Sn 0) _ a _->(∀T S d g w,tP C Anc AncW Fin x T S d g w=gu C.P true C.E Stop T S d g w)->(∀r,x≠.sendP r)->x≠.sem ->
   (Stop (Sn 0) (dn 0) a (wn 0)->vf C Anc AncW Fin Shun (gG C x tg Tm a gs.size) t (runT C.P (crowd gs w sl) 0)\/∃m' c,runT C.P (crowd gs w sl) 0=(.next m',c)/\Eb C Fin Shun m' (t++c))->vf C Anc AncW Fin Shun (gG C x tg Tm a gs.size) t (runT C.P (crowd gs w sl) 0)\/∃m' c,runT C.P (crowd gs w sl) 0=(.next m',c)/\Eb C Fin Shun m' (t++c):=λ{Stop} i e p s k=>by
  rw[e]at i;cases hT:Tm 0 with
  |node f=>rw[hT]at i;exact .inl (J6 j h l hT i p s λT S d g w q=>by rw[e];exact q)
  |leaf=>rw[hT]at i;exact k i
 cases x with
 |add r=>exact b i (λ_ _ _ _ _=>rfl) (by simp) (by simp) λq=>.inl (OR j n h l rfl rfl q)
 |go r=>exact b i (λ_ _ _ _ _=>rfl) (by simp) (by simp) λq=>.inl (GP h l rfl rfl q)
 |send r=>exact b i (λ_ _ _ _ _=>rfl) (by simp) (by simp) λq=>.inl (J5 j h l rfl rfl q)
 |sendP r=>obtain⟨_,y,rfl,_⟩:=i;cases m
 |close=>exact b i (λ_ _ _ _ _=>rfl) (by simp) (by simp) λq=>.inl (GO j o h l rfl q)
 |w1=>exact b i (λ_ _ _ _ _=>rfl) (by simp) (by simp) λq=>.inl (SG j n h l rfl q)
 |w2 v=>exact b i (λ_ _ _ _ _=>rfl) (by simp) (by simp) λq=>.inl (SH j o n h l rfl q)
 |w3=>exact b i (λ_ _ _ _ _=>rfl) (by simp) (by simp) λq=>.inl (GQ j h l (.inl rfl) q)
 |sem=>
  obtain⟨hd,y,z,h0⟩:=i;rcases z with rfl|rfl
  exact .inl (GQ j h l (.inr rfl) (by rw[hd];exact h0));cases m
 |w4=>exact b i (λ_ _ _ _ _=>rfl) (by simp) (by simp) λq=>.inl (SI j h l rfl q)
 |acq=>exact b i (λ_ _ _ _ _=>rfl) (by simp) (by simp) λq=>.inr (OQ j h l rfl q)
 |fin=>exact l.H.elim
def tP.e(b:∀{S d g w},Fin S d g w->g.status=.running)(h:tP C Anc AncW Fin x T S d g w):g.status=.running\/(g.status=.blocked/\((∃r,x=.sendP r)\/x=.sem)):=by
 have go:∀{Stop:gS},(∀{S d g w},Stop S d g w->g.status=.running)->gu C.P true C.E Stop T S d g w->g.status=.running:=λc a=>by
  cases T with
  |leaf=>exact c a
  |node f=>exact a.1
 cases x with
 |add r=>exact .inl (go (λh=>h.2.1) h)
 |go r=>exact .inl (go (λh=>h.2.1) h)
 |send r=>exact .inl (go (λh=>h.2.1) h)
 |sendP r=>obtain⟨_,i,rfl,_⟩:=h;exact .inr ⟨rfl,.inl ⟨r,rfl⟩⟩
 |close=>exact .inl (go (λh=>h.2.1) h)
 |w1=>exact .inl (go (λh=>h.2.1) h)
 |w2 v=>exact .inl (go (λh=>h.2.1) h)
 |w3=>exact .inl (go (λh=>h.2.1) h)
 |sem=>
  obtain⟨_,i,j,h0⟩:=h;rcases j with rfl|rfl
  exact .inl h0.2.1;exact .inr ⟨rfl,.inr rfl⟩
 |w4=>exact .inl (go (λh=>h.2.1) h)
 |acq=>exact .inl (go (λh=>h.2.1) h)
 |fin=>exact .inl (b h)
theorem GS{f:Nat->Nat}:∀{n:Nat},1<=sumTo n f->∃i,i<n/\1<=f i
 |0,h=>by simp[sumTo]at h
 |n+1,h=>by
  simp only[sumTo]at h
  rcases fK (f n) with q|q
  .let ⟨i,h1,h2⟩:=GS (f:=f) (n:=n) (by omega)
   exact⟨i,by omega,h2⟩
  .exact⟨n,by omega,q⟩
theorem gr.ao(hA:gl C Anc)(hF:∀{S d g w},Fin S d g w->g.status=.running)(hw1:1<=C.nw)(h:gr C Anc AncW Fin Shun x tg Tm Sn dn wn stored rel a gs w t)(l:gM C x tg stored rel gs.size w):∃(i:Nat) (g:Goroutine),gs[i]?=some g/\g.status=.running:=by
 have run:∀i,C.eu<=i->i<gs.size->tg i≠.park->(∀q,tg i≠.quit q)->∃(i:Nat) (g:Goroutine),gs[i]?=some g/\g.status=.running:=λi hb hi h1 h2=>by
  have hg:=bj hi
  have:=l.h
  rcases(h.p i _ (by omega) hg).e hA (h.e i hi) with⟨e,_⟩|⟨_,e|⟨q,e,_⟩⟩
  .exact absurd e h1
  .exact⟨i,_,hg,e⟩
  .exact absurd e (h2 q)
 rcases h.u.e hF with hs|⟨hs,⟨r,hx⟩|hx⟩
 .exact⟨0,a,h.j,hs⟩
 .have h1:=l.A
  rw[hx]at h1
  have hlt:C.eu<gs.size:=by rw[h1];show _<C.eu+C.nw;omega
  refine run C.eu (aa _) hlt ((l.O r hx) _ hlt) λq e=>?_
  rcases l.u (by rw[hx];rfl) C.eu (aa _) hlt with k|k|⟨p,k⟩<;>rw[k]at e<;>cases e
 .have hsh:=l.J (by rw[hx];rfl)
  let ⟨st,sm,hwg,hm⟩:=l.b
  rw[hx]at hm
  rcases hm with⟨hV,_⟩|⟨_,_,k,hb,hk,e,_⟩|⟨_,rfl,rfl,_⟩
  .let ⟨i,hi,hc⟩:=GS hV
   have hc2:C.eu<=i/\(tg i).h=true:=by
    unfold BV at hc
    split at hc
    .rename_i q;simpa using q
    .omega
   refine run i hc2.1 hi (hsh i hi) λq e=>?_
   rw[e]at hc2;simp[WTag.h,WTag.e]at hc2
  .exact run k hb hk (hsh k hk) λq e2=>by rw[e2]at e;simp at e
  .have:=h.F hx hwg
   rw[hs]at this;cases this
def gr.ai(k:gl C Anc)(l:∀{S d g w},Fin S d g w->g.status=.running)(h:gr C Anc AncW Fin Shun x tg Tm Sn dn wn stored rel a gs w t):∀g∈gs,Conc.awake g:=by
 intro g m;obtain⟨i,c⟩:=Array.mem_iff_getElem?.1 m;have f:=(am.1 c).1;rcases fK i with rfl|b
 rw[h.j]at c;cases c;exact awake_of ((h.u.e l).elim .inl λq=>.inr (.inl q.1));rcases(h.p i g b c).e k (h.e i f) with⟨_,e⟩|⟨_,e|⟨q,_,e⟩⟩
 exact awake_of (.inr (.inl e));exact awake_of (.inl e);exact awake_of (e.elim .inl λq=>.inr (.inr q))
def NW(s:gl C Anc)(u:∀{S d g w},Fin S d g w->g.status=.running)(F:∀S d g w,AncW S d g w->fp C.P true C.E (Ge C AncW Fin) S d g w)(f:C.nw<2147483647)(v:1<=C.nw){μ:Mea}(h:ZC C Anc AncW Fin Shun μ m t):
  ∃n m' t',runNT C.P n m t=(.next m',t')/\Eb C Fin Shun m' t':=by
 refine aav acg (λμ m t=>ZC C Anc AncW Fin Shun μ m t\/Eb C Fin Shun m t) (Eb C Fin Shun) (λμ m t y=>?_) μ m t (.inl h);refine y.elim (λy=>?_) .inl;obtain⟨x,tg,Tm,Sn,dn,wn,stored,rel,a,gs,w,sl,rfl,hc,l,rfl⟩:=y;let ⟨i,g,d,k,z,c,e⟩:=crowd_pick (P:=C.P) (w:=w) (sl:=sl) (hc.ai s u) (hc.ao s u v l)
 have o:=hc.at d;have D:=l.at d;right;rw[e];rcases fK i with rfl|p
 rw[hc.j]at z;cases z;rcases OS (sl:=k) s F f o D c with⟨m',b,A,q,r,B⟩|⟨m',b,q,r⟩
 exact⟨m',b,A,q,r,.inl B⟩;exact⟨m',b,(0,(0,((0,λ_=>(0,.leaf)),0))),q,Aa (by cases x<;>simp[Jw]<;>omega),.inr r⟩;let ⟨m',b,A,q,r,B⟩:=OT (sl:=k) s u f o D z p c
 exact⟨m',b,A,q,r,.inl B⟩
end
def ML{f:Nat->Nat}:∀{n:Nat},(∀i,i<n->f i=0)->sumTo n f=0
 |0,_=>rfl
 |n+1,h=>by simp only[sumTo];rw[ML λi a=>h i (by omega),h n (by omega)]
def adO{C:ee}(U:gl C Anc)(V:∀{S d g w},Fin S d g w->g.status=.running)(W:∀S d g w,AncW S d g w->fp C.P true C.E (Ge C AncW Fin) S d g w)(z:C.nw<2147483647)(A:1<=C.nw){q:Nat->Nat}{cl s r:Nat}{cs:Array Bg}(h0:gs[0]?=some a)(hb:C.eu=gs.size)(N:Leavers C.P t gs q)(O:Past Shun w.heap.size t)(B:∀m∈t,nQ m.act=true)(f:∀m∈t,m.g<gs.size)(Q:nM C Anc AncW C.nw S 0 a w)(o:WgAt C.ty C.L.b w 0 0)(u:w.heap[C.L.e]?=some (.chan 0 #[] false s r false))(v:w.heap[C.L.h]?=some (.cells cs C.ta))(x:cs.size=C.nt)(ap:Ap C.L (λk=>if k=0 then S else λ_=>False) w.heap.size)(c:∀l,jo S l\/jo C.L.F l\/jo (· = C.L.b) l\/jo (· = C.L.e) l\/jo (· = C.L.h) l->¬Shun l):∃n m' t',runNT C.P n (crowd gs w sl) t=(.next m',t')/\Eb C Fin Shun m' t':=by
 have X:=(am.1 h0).1;have y:=TI.start (L:=C.L) (wk:=(C.eu<=·)) (S0:=S) O (λl q=>c l (.inl q)) (λl q=>c l (.inr (.inl q))) (λl q=>c l (.inr (.inr (.inl q)))) (λl q=>c l (.inr (.inr (.inr (.inl q))))) (λl q=>c l (.inr (.inr (.inr (.inr q))))) B (λi g D R=>by
  let ⟨m,Y,G⟩:=bV.1 D
  have:=f m (dU Y);rw[G]at this;omega)
 have e:(λk=>k=0)=(λk:Nat=>k=0\/(C.eu<=k/\k<gs.size)):=by
  funext k;exact propext ⟨.inl,λq=>by omega⟩
 rw[e]at y;let ⟨k,R⟩:∃k,C.nw=k+1:=⟨C.nw-1,by omega⟩
 rw[R]at Q;let ⟨T,Z⟩:=Q
 have hV:Vc C (λi=>.quit (q i)) gs.size=0:=ML λi I=>by unfold BV;rw[show decide (C.eu<=i)=false by simp;omega];rfl
 have hc:gr C Anc AncW Fin Shun (.add k) (λi=>.quit (q i)) (λ_=>T) (λk=>if k=0 then S else λ_=>False) (λi=>Deaf t i) (λ_=>w) (λ_=>False) (λ_=>none) a gs w t:=by
  refine⟨h0,?_,λi g I D=>N.old i g I D,λi _=>dc.H _ (⟨⟨_,_,o⟩,⟨_,_,_,u⟩,_,v,x⟩),λ_ _=>rfl,N.above,y,ap,λi I b=>?_,f,(λq=>by cases q)⟩;show gu _ _ _ _ _ _ (Deaf t 0) _ _;rw[O.hears];exact Z;show ¬(if i=0 then S else λ_=>False) b;rw[ax (by omega)];exact id
 have l:gM C (.add k) (λi=>.quit (q i)) (λ_=>False) (λ_=>none) gs.size w:=by
  refine⟨by omega,by show _=C.eu+(C.nw-(k+1));omega,by show k<C.nw;omega,λi _=>⟨q i,rfl⟩,⟨s,r,u⟩,⟨0,0,o,?_⟩,λi J K=>by omega,λ_ _=>rfl,λ_ i J K=>by omega,(λq=>by cases q),(λr q=>by cases q),λp M=>absurd M (jt _),λi p J K=>by omega,λi j p J K=>by omega,cs,v,x,λp M=>M.elim⟩;exact⟨by rw[hV];simp[Ep],rfl,λ_ _=>rfl⟩
 exact NW U V W z A ⟨_,_,_,_,_,_,_,_,_,_,_,_,rfl,hc,l,rfl⟩
structure Ru(E:tM)(X:Nat->Prop)(Shun:Loc->Prop):Prop where
 d:¬E.D
 m:∀m,¬E.M m
 f:∀l,jo E.F l->¬Shun l
 e:∀w,E.J w->∀b,E.F b\/X b->b<w.heap.size
 h:∀w k,E.J w->E.J (w.at k)
 j:∀l,Shun l->l.isMemory=true
 i:∀S w w' es,E.J w->(∀b,S b->¬E.F b/\¬X b)->tN E true S w w' es->E.J w'
def Z0{E:tM}(L:Ru E X Shun)(v:E.J w)(o:tN E true S w w' es)(s:∀b,j9 S w w' b->b<w'.heap.size)(k:∀l,jo (j9 S w w') l->¬Shun l):∀e∈es,EvL Shun w'.heap.size e:=by
 intro e y;have g:=o.p e y;let ⟨n,t,u⟩:=e
 cases n with
 |cell ad=>
  have c:¬Shun (.cell ad)/\ad.block<w'.heap.size:=by
   rcases g with q|q
   exact⟨k _ q,s _ q⟩;exact⟨L.f _ q.1,aO (L.e w v _ (.inl q.1)) o.i⟩
  refine⟨λx a h=>?_,by simp,by simp,?_⟩;simp only[MemAct.ofEvent,MemAct.touch?,aW]at a;subst a;exact absurd h c.1;exact c.2
 |obj r=>
  have c:¬Shun (.obj r)/\r<w'.heap.size:=⟨k _ g,s _ g⟩;refine⟨λx a h=>?_,by simp,by simp,?_⟩;cases t<;>cases u<;>simp only[MemAct.ofEvent,MemAct.touch?,aW,reduceCtorEq]at a<;>(subst a;exact absurd h c.1);cases t<;>cases u<;>exact c.2
 |mark m=>
  rcases g with rfl|⟨f,rfl⟩|⟨q,_⟩|⟨q,_⟩|⟨_,q⟩
  exact⟨λx a=>(by cases a),by simp,by simp,aE⟩;exact⟨λx a=>(by cases a),by simp,by simp,aE⟩;exact absurd q L.d;exact absurd q L.d;exact absurd q (L.m m)
 |output=>exact⟨λx a h=>(by simp only[MemAct.ofEvent,MemAct.touch?,aW]at a;subst a;cases L.j _ h),by simp,by simp,aE⟩
 |goroutines=>exact⟨λx a h=>(by simp only[MemAct.ofEvent,MemAct.touch?,aW]at a;subst a;cases L.j _ h),by simp,by simp,aE⟩
def Si{E:tM}(L:Ru E X Shun){e:Event}(h:YO E true S e):nQ (MemAct.ofEvent e)=true:=by
 obtain⟨a,b,c⟩:=e;cases a with
 |obj r=>cases b<;>cases c<;>rfl
 |mark m=>
  rcases h with rfl|⟨f,rfl⟩|⟨_,rfl⟩|⟨_,rfl⟩|⟨_,q⟩
  rfl;rfl;rfl;rfl;exact absurd q (L.m m)
 |_=>rfl
def JL{e:Event}(h:e.mute=true):nQ (MemAct.ofEvent e)=true:=by
 let ⟨a,b,c⟩:=e
 cases a with
 |mark m=>cases m<;>simp_all [Event.mute,MemAct.ofEvent,nQ]
 |_=>simp[Event.mute]at h
structure Bes(P:Program)(E:tM)(X:Nat->Prop)(Shun:Loc->Prop)(S:Nat->Prop)(gs:Array Goroutine)(a:Goroutine)(w0 w:World)(t:Trace)(q:Nat->Nat):Prop where
 o:gs[0]?=some a
 i:Leavers P t gs q
 j:Past Shun w.heap.size t
 x:∀op∈t,nQ op.act=true
 p:∀op∈t,op.g<gs.size
 e:dc E S w0 w
 s:∀b,S b->b<w.heap.size/\¬E.F b/\¬X b
 u:∀l,jo S l->¬Shun l
 h:∀l,jo (w.heap.size<=·) l->¬Shun l
def Bes.H{E:tM}(L:Ru E X Shun){f:A1->Tr}{w0:A1}{q:Nat->Nat}(hG:gu P true E Stop (.node f) S d a w0)(c:Bes P E X Shun S gs a w0 w t q):
  ∃gs' a' w' A Q,stepT P (crowd gs w sl)=(.next (crowd gs' w' A),Q)/\gs'.size=gs.size/\((∃w1 S' d',gu P true E Stop (f w1) S' d' a' w'/\Bes P E X Shun S' gs' a' w' w' (t++Q) q)\/∃q',sumTo gs.size q'<sumTo gs.size q/\a'=a/\Bes P E X Shun S gs' a w0 w' (t++Q) q'):=by
 have C:=hG.1;have ba:∀g∈gs,awake g:=by
  intro g W;obtain⟨i,K,rfl⟩:=xR.1 W;rcases fK i with rfl|D
  have:gs[0]=a:=by simpa[bj K] using c.o
  rw[this];exact awake_of (.inl C);exact awake_of ((c.i.old i _ D (bj K)).status.elim .inl λx=>.inr (.inr x))
 obtain⟨i,g,k,A,K,W,Y⟩:=crowd_pick (P:=P) (w:=w) (sl:=sl) ba ⟨0,a,c.o,C⟩;have hr:dc E S w0 (w.at k):=have r:=c.e;⟨r.i,r.p,r.o,r.s,r.t,r.j,L.h w k r.h⟩;have O:0<gs.size:=(am.1 c.o).1;rcases fK i with rfl|D
 obtain rfl:g=a:=by have h0:=c.o;rw[h0]at K;exact(aZ K).symm
 obtain⟨a',w',es,bc,M,hT⟩:=hG.2 (w.at k) hr;have v:=runT_crowd_go (P:=P) (sl:=A) (i:=0) K (show stepG P (0==0) g (w.at k)=_ from bc);have G:((gs.map (woken P g a' w')).setIfInBounds 0 a').size=gs.size:=by simp
 have R:w.heap.size<=w'.heap.size:=M.i;have Z:∀b,j9 S (w.at k) w' b->b<w'.heap.size/\¬E.F b/\¬X b:=λb B=>by
  rcases B with B|B
  exact⟨aO (c.s b B).1 R,(c.s b B).2⟩;have h2:w.heap.size<=b:=B.1;exact⟨B.2,λhF=>by have:=L.e w c.e.h b (.inl hF);omega,λhF=>by have:=L.e w c.e.h b (.inr hF);omega⟩
 have aI:∀l,jo (j9 S (w.at k) w') l->¬Shun l:=λl hl=>by
  cases l with
  |cell ad=>exact hl.elim (λq=>c.u (.cell ad) q) λq=>c.h (.cell ad) q.1
  |obj r=>exact hl.elim (λq=>c.u (.obj r) q) λq=>c.h (.obj r) q.1
  |_=>exact hl.elim
 refine⟨_,a',w',A,_,by rw[Y,v],G,.inl ⟨w.at k,_,_,hT,?_⟩⟩;refine⟨by simp[O],⟨λj x I T=>?_,λj I=>?_⟩,(c.j.mono R).own (Z0 L hr.h M (λb B=>(Z b B).1) aI),λJ m=>?_,λJ m=>?_,dc.H _ (L.i S _ _ _ hr.h (λb B=>(c.s b B).2) M),Z,aI,λl hl=>c.h l (jo.h (λb B=>aP R B) hl)⟩;rw[aN (by omega),cD]at T;obtain⟨y,hy,rfl⟩:=bV.1 T;have U:=c.i.old j y I hy;rw[woken_quitsD U,Deaf_other t (g:=j) (g':=0) (by omega) _ (λJ z=>by obtain⟨e,_,rfl⟩:=Conc.mem_ofEvents z;rfl)];exact U;rw[Deaf_other t (g':=0) (by simp at I;omega) _ (λJ z=>by obtain⟨e,_,rfl⟩:=Conc.mem_ofEvents z;rfl)];exact c.i.above j (by simpa using I);rcases cN.1 m with m|m
 exact c.x J m;obtain⟨e,he,rfl⟩:=Conc.mem_ofEvents m;exact Si L (M.p e he);rw[G];rcases cN.1 m with m|m
 exact c.p J m;obtain⟨e,he,rfl⟩:=Conc.mem_ofEvents m;exact O;have U:=c.i.old i g D K;have bg:(i==0)=false:=by simp;omega
 have V:i<gs.size:=(am.1 K).1;cases hqi:q i with
 |zero=>rw[hqi]at U;rw[U.1]at W;cases W
 |succ n=>
  rw[hqi]at U;rcases U with⟨hf,_⟩|⟨_,g',es,hm,aS,bK⟩
  rw[hf]at W;cases W;have v:=runT_crowd_go (P:=P) (sl:=A) (i:=i) K (by rw[bg];exact aS (w.at k));have G:((gs.map (woken P g g' (w.at k))).setIfInBounds i g').size=gs.size:=by simp
  have a0:sumTo gs.size (up q i n)<sumTo gs.size q:=by
   have:=Ka (f:=up q i n) (g:=q) V (λj I=>dj I);rw[cI,hqi]at this;omega
  refine⟨_,a,w.at k,A,_,by rw[Y,v],G,.inr ⟨up q i n,a0,rfl,?_⟩⟩;refine⟨?_,⟨λj x I T=>?_,λj I=>?_⟩,c.j.mute (by omega) hm,λJ m=>?_,λJ m=>?_,hr,c.s,c.u,c.h⟩;rw[aN (by omega),cD,c.o];simp[woken_run C];by_cases N:i=j;subst N;rw[bi (by simpa using V)]at T;obtain rfl:=aZ T;rw[cI,Deaf_own];exact bK;rw[aN N,cD]at T;obtain⟨y,hy,rfl⟩:=bV.1 T;have a1:=c.i.old j y I hy;rw[woken_quitsD a1,dj (fE N),Deaf_other t N _ (λJ z=>by obtain⟨e,_,rfl⟩:=Conc.mem_ofEvents z;rfl)];exact a1;rw[Deaf_other t (g':=i) (by simp at I;omega) _ (λJ z=>by obtain⟨e,_,rfl⟩:=Conc.mem_ofEvents z;rfl)];exact c.i.above j (by simpa using I);rcases cN.1 m with m|m
  exact c.x J m;obtain⟨e,he,rfl⟩:=Conc.mem_ofEvents m;exact JL (hm e he);rw[G];rcases cN.1 m with m|m
  exact c.p J m;obtain⟨e,he,rfl⟩:=Conc.mem_ofEvents m;exact V
def ZS{E:tM}(L:Ru E X Shun):∀(T:Tr) (M:Nat) (S:Nat->Prop) (d:Nat) (gs:Array Bm) (a:Bm) (k w:A1) (sl:Option (Nat×Nat)) (t:Trace) (q:Nat->Nat),sumTo gs.size q<=M->gu P true E Stop T S d a k->Bes P E X Shun S gs a k w t q ->
  ∃N j l gs' a' b w' c t' y,runNT P N (crowd gs w sl) t=(.next (crowd gs' w' c),t')/\gs'.size=gs.size/\Stop j l a' b/\Bes P E X Shun j gs' a' b w' t' y:=by
 intro T;induction T with
 |leaf=>exactλM S d gs a k w sl t q _ m n=>⟨0,S,d,gs,a,k,w,sl,t,q,rfl,rfl,m,n⟩
 |node f G=>
  intro M;induction M with
  |zero=>
   intro S d gs a k w sl t q I m n;obtain⟨g,z,w1,h,i,A,o,⟨v,B,d1,C,e⟩|⟨y,D,_⟩⟩:=n.H (sl:=sl) L m;let ⟨N,j,l,gs',a',b,w',c,t',p,r,s,u,x⟩:=G v _ B d1 g z w1 w1 h (t++i) q (aa _) C e
   exact⟨N+1,j,l,gs',a',b,w',c,t',p,by rw[runNT_succ_next A];exact r,s.trans o,u,x⟩;omega
  |succ M F=>
   intro S d gs a k w sl t q I m n;obtain⟨g,z,w1,h,i,A,o,⟨v,B,d1,C,e⟩|⟨y,D,rfl,e⟩⟩:=n.H (sl:=sl) L m;let ⟨N,j,l,gs',a',b,w',c,t',p,r,s,u,x⟩:=G v _ B d1 g z w1 w1 h (t++i) q (aa _) C e
   exact⟨N+1,j,l,gs',a',b,w',c,t',p,by rw[runNT_succ_next A];exact r,s.trans o,u,x⟩;let ⟨N,j,l,gs',a',b,w',c,t',p,r,s,u,x⟩:=F S d g z k w1 h (t++i) y (by rw[o];omega) m e
   exact⟨N+1,j,l,gs',a',b,w',c,t',p,by rw[runNT_succ_next A];exact r,s.trans o,u,x⟩
section
def fO(F X:Nat->Prop)(W:World):tM:=⟨F,λw=>∀b,F b\/X b->w.heap[b]?=W.heap[b]?,λ_=>False,False⟩
section
variable{E:tM}
def dc.O(a:∀w,E'.J w->E.J w)(c:∀b,E.F b->E'.F b)(h:dc E' S w w1):dc E S w w1:=⟨h.i,λb q=>h.p b (c b q),h.o,h.s,h.t,h.j,a _ h.h⟩
def gu.j(n:∀w,E'.J w->E.J w)(k:∀b,E.F b->E'.F b)(r:∀m,¬E.M m)(l:¬E.D):∀(T:Tr) {S:Nat->Prop} {d:Nat} {g:Bm} {w:A1},gu P mb E Stop T S d g w->gu P mb E' Stop T S d g w
 |.leaf,_,_,_,_,h=>h
 |.node f,S,d,g,w,h=>⟨h.1,λw1 t=>by
  obtain⟨g',w',es,a,b,c⟩:=h.2 w1 (t.O n k);refine⟨g',w',es,a,⟨b.h,b.i,b.o,b.s,b.j,λe u=>?_⟩,gu.j n k r l (f w1) c⟩;have:=b.p e u;unfold YO at this⊢;split at this;exact this.imp id λq=>⟨k _ q.1,q.2⟩;exact this;rcases this with q|q|q|q|q
  exact .inl q;exact .inr (.inl q);exact absurd q.1 l;exact absurd q.1 l;exact absurd q.2 (r _);trivial⟩
def fp.ah(a:∀w,E'.J w->E.J w)(c:∀b,E.F b->E'.F b)(e:∀m,¬E.M m)(f:¬E.D)(h:fp P mb E Stop S d g w):fp P mb E' Stop S d g w:=by
 let ⟨T,h⟩:=h
 exact⟨T,gu.j a c e f T h⟩
end
structure Cs(P:Program)(Shun:Loc->Prop)(F X S:Nat->Prop)(gs:Array Goroutine)(a:Goroutine)(w:World)(t:Trace)(q:Nat->Nat):Prop where
 u:gs[0]?=some a
 x:Leavers P t gs q
 i:Past Shun w.heap.size t
 y:∀op∈t,nQ op.act=true
 p:∀op∈t,op.g<gs.size
 s:∀b,S b->b<w.heap.size/\¬F b/\¬X b
 f:∀b,F b\/X b->b<w.heap.size
 e:∀l,jo S l\/jo F l\/jo (w.heap.size<=·) l->¬Shun l
 o:∀l,Shun l->l.isMemory=true
def R9{W:A1}(e:∀b,F b\/X b->b<W.heap.size)(hs:∀l,jo F l->¬Shun l)(g:∀l,Shun l->l.isMemory=true):Ru (fO F X W) X Shun:=by
 refine⟨id,λ_=>id,hs,λw c b a=>?_,λw k h=>h,g,λS w w' es c f i b a=>?_⟩;have:=c b a;rw[bj (e b a)]at this;exact(am.1 this).1;have d:=c b a;have j:b<w.heap.size:=by
  rw[bj (e b a)]at d;exact(am.1 d).1
 exact(i.h b j λq=>a.elim (f b q).1 (f b q).2).trans d
variable{q:Nat->Nat}
def Cs.V(h:Cs P Shun F X S gs a w t q)(sl:Option (Nat×Nat))(v:fp P true (fO F X w) Stop S 0 a w):
  ∃N k n gs' a' m w' g t' r,runNT P N (crowd gs w sl) t=(.next (crowd gs' w' g),t')/\Stop k n a' m/\dc (fO F X w) k m w'/\Cs P Shun F X k gs' a' w' t' r:=by
 let ⟨T,z⟩:=v
 have L:=R9 (W:=w) h.f (λl c=>h.e l (.inr (.inl c))) h.o;let ⟨N,k,n,gs',a',m,w',g,t',r,A,D,B,d⟩:=ZS L T _ S 0 gs a w w sl t q (aa _) z ⟨h.u,h.x,h.i,h.y,h.p,dc.H S (λ_ _=>rfl),h.s,λl c=>h.e l (.inl c),λl c=>h.e l (.inr (.inr c))⟩
 refine⟨N,k,n,gs',a',m,w',g,t',r,A,B,d.e,d.o,d.i,d.j,d.x,d.p,d.s,λb C=>L.e w' d.e.h b C,λl c=>?_,h.o⟩;rcases c with c|c|c
 exact d.u l c;exact h.e l (.inr (.inl c));exact d.h l c
def Ow{B:Nat}(h:Past Shun B t){Z:Nat->Prop}(e:∀i a,touchAt t i=some a->jo Z a.loc->Knows t 0 i):Past (λl=>Shun l/\¬jo Z l/\¬jo (B<=·) l) B t:=by
 refine⟨h.clean,λi a b f=>?_,h.over,h.hears,h.seen⟩;rcases h.known i a b f with k|⟨k,g⟩
 exact .inl k;by_cases d:jo Z a.loc;exact .inl (e i a b d);obtain⟨x,j,c⟩:=touch_of b;exact .inr ⟨⟨k,d,CT c (h.seen x (dU j))⟩,g⟩
def OE(h:runNT P n m t=(.next m',t')):runNT P (n+k) m t=runNT P k m' t':=by
 induction n generalizing m t with
 |zero=>simp[runNT]at h;obtain⟨rfl,rfl⟩:=h;rw[b9]
 |succ n a=>
  rw[Nat.succ_add];simp only[runNT]at h⊢;cases hs:stepT P m with
  |mk s b=>
   rw[hs]at h;cases s with
   |next c=>exact a h
   |ended o w=>simp at h
end
section
def iq(P:Program)(Post:Value->World->Prop)(m:Machine)(t:Trace):Prop:=
 ∃N last o w' t',runNT P (N+1) m t=(.ended o w',t')/\runN P N m=.next last/\step P last=.ended o w'/\Good P Post last o w' t'
variable{q:Nat->Nat}
def Sw(h:runN P n m=.next m'):runN P (n+k) m=runN P k m':=by
 induction n generalizing m with
 |zero=>simp[runN]at h;subst h;rw[b9]
 |succ n a=>
  rw[Nat.succ_add];simp only[runN]at h⊢;cases hs:step P m with
  |next b=>rw[hs]at h;exact a h
  |ended o w=>rw[hs]at h;cases h
def iq.e(h:runNT P n m t=(.next m',t'))(k:iq P Post m' t'):iq P Post m t:=by
 obtain⟨N,last,o,w',a,b,c,d,f⟩:=k;refine⟨n+N,last,o,w',a,(OE (k:=N+1) h).trans b,?_,d,f⟩;rw[Sw (m':=m') (by rw[<-runNT_fst _ _ _ t,h])];exact c
def Cs.H(h:Cs P Shun F X S gs a w t q)(d:fp P true (fO F X w) Stop S 0 a w)(f:∀S' d' gs' a' w0 w' b t' c,Stop S' d' a' w0->dc (fO F X w) S' w0 w'->Cs P Shun F X S' gs' a' w' t' c->iq P Post (crowd gs' w' b) t'):iq P Post (crowd gs w sl) t:=by
 obtain⟨N,S',d',gs',a',w0,w',b,t',c,g,i,j,k⟩:=h.V sl d;exact iq.e g (f S' d' gs' a' w0 w' b t' c i j k)
def Cs.O(h:Cs P Shun F X S gs a w t q)(b:∀k,a.status=.running/\∃v es,stepG P true a (w.at k)=.ended (.done v) (w.at k) es/\(∀e∈es,EvL Shun w.heap.size e)/\Post v (w.at k)):iq P Post (crowd gs w sl) t:=
 beside_ends (D:=λ_ _ _=>False) (n:=0) (λ_ _ _ h=>h.elim) h.u h.x h.i (λw1 c=>by
  obtain⟨k,rfl⟩:=c;exact b k)
def Cx(hs:∀b,S b->b<w.heap.size/\¬F b)(c:∀b,F b->b<w.heap.size):Cs P (λ_=>False) F (λ_=>False) S #[a] a w #[] (λ_=>0):=
 ⟨rfl,leavers_one P a,past_nil.mono (jx _),(λd h=>by simp at h),(λd h=>by simp at h),λb q=>⟨(hs b q).1,(hs b q).2,id⟩,λb q=>q.elim (c b) False.elim,λ_ _=>id,λ_ h=>h.elim⟩
def Cs.I{F' d S':Nat->Prop}(h:Cs P Shun F X S gs a w t q)(hs:∀b,S' b->S b/\¬F' b/\¬d b)(f:∀b,F' b->b<w.heap.size/\∀l,jo (· = b) l->¬Shun l)(g:∀b,d b->b<w.heap.size):Cs P Shun F' d S' gs a w t q:=
 ⟨h.u,h.x,h.i,h.y,h.p,λb k=>⟨(h.s b (hs b k).1).1,(hs b k).2⟩,λb k=>k.elim (λk=>(f b k).1) (g b),λl c=>by
  rcases c with c|c|c
  exact h.e l (.inl (jo.h (λb k=>(hs b k).1) c));cases l with
  |cell ad=>exact(f _ c).2 (.cell ad) rfl
  |obj r=>exact(f _ c).2 (.obj r) rfl
  |_=>exact c.elim
  exact h.e l (.inr (.inr c)),h.o⟩
end
def CN(S:Nat->Prop)(w:A1):j9 S w w=S:=by
 funext b;exact propext ⟨λh=>h.elim id λq=>absurd q.2 (Nat.not_lt.2 q.1),.inl⟩
def sZ(h:w'.heap.size=w.heap.size):j9 S w w'=S:=by
 funext b;exact propext ⟨λq=>q.elim id λq=>by omega,.inl⟩
section
variable{E:tM}
def tN.still(a:∀e∈es,YO E mb S e):tN E mb S w w es:=⟨λ_ _ _=>rfl,aa _,rfl,rfl,rfl,λe h=>by rw[CN];exact a e h⟩
def fp.j(hs:g.status=.running)(h:∀w1,dc E S w w1->∃g' es,stepG P mb g w1=.go g' w1 es/\(∀e∈es,YO E mb S e)/\fp P mb E Stop S (deafBehind d es) g' w1):fp P mb E Stop S d g w:=
 fp.I hs λw1 f=>by
  obtain⟨g',es,a,b,c⟩:=h w1 f;exact⟨g',w1,es,a,tN.still b,by rw[CN];exact c⟩
def fp.e:∀{n:Nat} {g:Bm} {w:A1},E.J w->Goes P mb (dc E S) DC0 (λg w=>fp P mb E Stop S d g w) n g w->fp P mb E Stop S d g w
 |0,g,w,a,h=>h w (dc.H S a)
 |n+1,g,w,a,h=>by
  rcases h with h|⟨c,h⟩
  exact h w (dc.H S a);refine fp.j c λw1 b=>?_;have:=h w1 b;cases hst:stepG P mb g w1 with
  |go g' w' es=>
   rw[hst]at this;obtain⟨⟨rfl,rfl⟩,f⟩:=this;exact⟨g',#[],rfl,λe i=>by simp at i,fp.e b.h f⟩
  |_=>rw[hst]at this;exact this.elim
def lV{R R':A1->A1->Prop}{D:A1->A1->Array Event->Prop}{St a:Bm->A1->Prop}(c:∀w w1,R' w w1->R w w1)(d:∀g w,St g w->a g w):∀{n:Nat} {g:Bm} {w:A1},Goes P mb R D St n g w->Goes P mb R' D a n g w
 |0,g,w,h=>λw1 b=>d _ _ (h w1 (c _ _ b))
 |n+1,g,w,h=>by
  rcases h with h|⟨e,h⟩
  exact .inl λw1 b=>d _ _ (h w1 (c _ _ b));refine .inr ⟨e,λw1 b=>?_⟩;have:=h w1 (c _ _ b);cases hst:stepG P mb g w1 with
  |go g' w' es=>rw[hst]at this;exact⟨this.1,lV c d this.2⟩
  |_=>rw[hst]at this;exact this.elim
end
def ee.e(C:ee):tM:=⟨C.E.F,C.E.J,λ_=>False,False⟩
variable{C:ee}
def rq:dc C.E S w w1↔dc C.e S w w1:=⟨λh=>⟨h.i,h.p,h.o,h.s,h.t,h.j,h.h⟩,λh=>⟨h.i,h.p,h.o,h.s,h.t,h.j,h.h⟩⟩
def GK{v:Bg}(h:dc C.E S w w1)(c:ad.block=C.L.b)(f:¬S C.L.b)(g:¬C.L.F C.L.b)(k:C.E.J (w1.setCell ad v)):dc C.E S w (w1.setCell ad v):=by
 have d:∀b,b≠C.L.b->(w1.setCell ad v).heap[b]?=w1.heap[b]?:=λb a=>by
  show (w1.heap.modify ad.block _)[b]?=_;rw[bU,ax (λe=>a (e.symm.trans c))]
 exact⟨λb a=>(d b (λe=>f (e▸a))).trans (h.i b a),λb a=>(d b (λe=>g (e▸a))).trans (h.p b a),by show _<=(w1.heap.modify ad.block _).size;rw[Array.size_modify];exact h.o,h.s,h.t,h.j,k⟩
structure Apt(C:ee)(S:Nat->Prop):Prop where
 s:¬S C.L.b
 f:¬C.L.F C.L.b
 c:C.L.e≠C.L.b
 a:C.L.h≠C.L.b
def EM(v:Int)(h:dc C.E S w w1)(A:Apt C S)(i:WgAt C.ty C.L.b w1 st sm):dc C.E S w (w1.setCell (stA C.L.b) (.int .u64 v))/\dc C.E S w (w1.setCell (smA C.L.b) (.int .u32 v)):=by
 obtain⟨_,⟨j,s,r,k⟩,l,m,n⟩:=h.h;have d:∀ad u b,ad.block=C.L.b->b≠C.L.b->(w1.setCell ad u).heap[b]?=w1.heap[b]?:=λad u b g o=>by
  show (w1.heap.modify ad.block _)[b]?=_;rw[bU,ax (λe=>o (e.symm.trans g))]
 exact⟨GK h rfl A.s A.f ⟨⟨_,_,i.setSt v⟩,⟨j,s,r,by rw[d _ _ _ rfl A.c];exact k⟩,l,by rw[d _ _ _ rfl A.a];exact m,n⟩,GK h rfl A.s A.f ⟨⟨_,_,i.setSm v⟩,⟨j,s,r,by rw[d _ _ _ rfl A.c];exact k⟩,l,by rw[d _ _ _ rfl A.a];exact m,n⟩⟩
theorem RA{C:ee}(H:WgLib C.P L)(hty:C.ty=L.tWg){S:Nat->Prop}(A:Apt C S){Next:gS}{b₀:Frame}{a₀:Act}{ops₀:Array Oper}{i₀:Nat}{rest₀:List Nat}{k₀:List Item}{cs:List Frame}{w0 w:World}(hF:dc C.E S w0 w)
  (hT:∀w1,dc C.E S w0 w1->fp C.P true C.E Next S 0 (G (b₀.at (a₀.put ((ops₀[i₀]?).bind (·.dst)) (.tuple #[])) (.inRegion ops₀ rest₀::k₀)) cs) w1):
  fp C.P true C.E (Cr C Next) S 0 (G ((base L.add).at ⟨#[.pointer (some (aA C.L.b 0)),iI 1]++Array.replicate 115 undef,[]⟩ [.code (body_add L)]) (b₀.at a₀ (.inRegion ops₀ (i₀::rest₀)::k₀)::cs)) w:=by
 have lv:∀{w},dc C.E S w0 w->WgLive L.tWg C.L.b w:=λh=>hty▸h.h.1
 lib_facts
 simp only[body_add,addFn,bP,fF,fH,gF,ga,cH,dB]
 refine fp.e (n:=40) hF.h ?_
 repeat first|w_go dc.e|u_defer dc.e hF|u_bub dc.e hF|u_cnd false dc.e hF|u_cnd true dc.e hF
 (refine Goes.stop (λ_ h₁=>?_);replace hF:=dc.e hF h₁;clear h₁;refine fp.j rfl (λ_ h₁=>⟨_,_,(stepG_mark0 .disable (by simp) rfl rfl (by k_ne) rfl H.f_disable (x_disable_n L) (x_disable_b L) (x_disable_x L) (x_disable_f L)),(λe he=>by simp at he;subst he;exact(.inr (.inr (.inl ⟨aE,rfl⟩)))),?_⟩);replace hF:=dc.e hF h₁;clear h₁;walk_nrm)
 refine fp.e (n:=60) hF.h ?_
 repeat first|w_go dc.e|u_defer dc.e hF|u_bub dc.e hF|u_cnd false dc.e hF|u_cnd true dc.e hF
 u_call H.f_uAdd (nm_uAdd L) uAddFn dc.e hF
 repeat first|w_go dc.e|u_defer dc.e hF|u_bub dc.e hF|u_cnd false dc.e hF|u_cnd true dc.e hF
 refine Goes.stop (λw₁ h₁=>fp.h ⟨rfl,rfl,λw₂ h₂ v hv hw=>?_⟩)
 replace hF:=(hF.e h₁).e h₂
 clear h₁ h₂ w₁
 rw[hty]at hw
 have K:∀u:Int,dc C.E S w0 (w₂.setCell (stA C.L.b) (.int .u64 u)):=λu=>(EM u hF A (hty▸hw)).1
 rcases fK v with rfl|hvp
 .replace hw:WgAt L.tWg C.L.b w₂ 0 0:=by simpa using hw
  have z:(((0:Nat):Int)+1)*KK=KK:=by simp
  rw[z]
  have e0:IntKind.u64.wrap (0+4294967296)=KK:=by decide
  refine⟨_,(stepG_add_atomic rfl rfl (by k_ne) rfl H.f_addU64 (x_addU64_n L) (x_addU64_b L) (x_addU64_x L) .u64 (x_addU64_f L) rfl rfl hw.cellSt (hw.thaw 0)).trans (by rw[e0];rfl),?_⟩
  replace hF:=K KK
  clear hw K
  simp only[KK]at hF⊢
  walk_nrm
  refine fp.e (n:=110) hF.h ?_
  repeat first|w_go dc.e|u_defer dc.e hF|u_bub dc.e hF|u_cnd false dc.e hF|u_cnd true dc.e hF
  u_leave1 H.f_uAdd dc.e hF
  repeat first|w_go dc.e|u_defer dc.e hF|u_bub dc.e hF|u_cnd false dc.e hF|u_cnd true dc.e hF
  m_convG C.P H.underlying_tUP H.underlying_tPU32 H.room_tU32 (WgLive.cell1 (lv hF)).choose_spec dc.e hF
  (refine Goes.stop (λ_ h₁=>?_);replace hF:=dc.e hF h₁;clear h₁;refine fp.j rfl (λ_ h₁=>⟨_,_,(stepG_markAt .read (by simp) rfl rfl (by k_ne) rfl H.f_raceRead (x_raceRead_n L) (x_raceRead_b L) (x_raceRead_x L) (x_raceRead_f L) (ad:=(aA C.L.b 1)) (by simp[Act.eval])),(λe he=>by simp at he;subst he;exact(.inr (.inr (.inr (.inr ⟨rfl,_,rfl,.inl rfl⟩))))),?_⟩);replace hF:=dc.e hF h₁;clear h₁;walk_nrm)
  refine fp.e (n:=110) hF.h ?_
  repeat first|w_go dc.e|u_defer dc.e hF|u_bub dc.e hF|u_cnd false dc.e hF|u_cnd true dc.e hF
  (refine Goes.stop (λ_ h₁=>?_);replace hF:=dc.e hF h₁;clear h₁;refine fp.j rfl (λ_ h₁=>⟨_,_,stepG_unwind_entry (v:=.tuple #[]) (evs:=#[mk .enable]) rfl H.f_enable (x_enable_n L) (x_enable_b L) (x_enable_x L) (x_enable_f L) (by simp[Extern.Race.none_]) (by simp[mk]) (by simp[mk]),(λe he=>by simp at he;subst he;exact .inr (.inr (.inr (.inl ⟨aE,rfl⟩)))),?_⟩);replace hF:=dc.e hF h₁;clear h₁;refine fp.e (n:=1) hF.h ?_;u_leave0 H.f_add dc.e hF;exact Goes.stop (λ_ h₁=>hT _ (hF.e h₁)))
 .obtain⟨V,hV⟩:∃V:Int,V=(v:Int)+1:=⟨_,rfl⟩
  obtain⟨N,hN⟩:∃N:Int,N=V*KK:=⟨_,rfl⟩
  have eN:IntKind.u64.wrap ((v:Int)*KK+4294967296)=N:=by rw[IntKind.wrap_u64,hN,hV];simp only[KK];omega
  rw[<-hV,<-hN]
  have a1:N/4294967296=V:=by rw[hN];simp only[KK];omega
  have b1:bits .and .u64 N 2147483648=0:=by rw[hN,hV];have:=st_flag (v+1) 0 (by omega) (by omega);simpa[KK] using this
  have b2:bits .and .u64 N 2147483647=0:=by rw[hN,hV];have:=st_waiters (v+1) 0 (by omega) (by omega);simpa[KK] using this
  have c1:IntKind.i32.wrap V=V:=by rw[IntKind.wrap_i32];omega
  have q0:1<V/\V<2147483648:=by omega
  have q1:(V==1)=false:=by simp;omega
  have q2:decide (V=1)=false:=aK (by omega)
  have q3:decide (V<0)=false:=aK (by omega)
  have q4:decide (0<V)=true:=aR (by omega)
  have q5:(V==0)=false:=by simp;omega
  have q6:decide (V=0)=false:=aK (by omega)
  refine⟨_,(stepG_add_atomic rfl rfl (by k_ne) rfl H.f_addU64 (x_addU64_n L) (x_addU64_b L) (x_addU64_x L) .u64 (x_addU64_f L) rfl rfl hw.cellSt (hw.thaw 0)).trans (by rw[eN];rfl),?_⟩
  replace hF:=K N
  clear hw K hN hV eN
  walk_nrm
  refine fp.e (n:=110) hF.h ?_
  repeat first|w_go dc.e|u_defer dc.e hF|u_bub dc.e hF|u_cnd false dc.e hF|u_cnd true dc.e hF
  u_leave1 H.f_uAdd dc.e hF
  repeat first|w_go dc.e|u_defer dc.e hF|u_bub dc.e hF|u_cnd false dc.e hF|u_cnd true dc.e hF
  (refine Goes.stop (λ_ h₁=>?_);replace hF:=dc.e hF h₁;clear h₁;refine fp.j rfl (λ_ h₁=>⟨_,_,stepG_unwind_entry (v:=.tuple #[]) (evs:=#[mk .enable]) rfl H.f_enable (x_enable_n L) (x_enable_b L) (x_enable_x L) (x_enable_f L) (by simp[Extern.Race.none_]) (by simp[mk]) (by simp[mk]),(λe he=>by simp at he;subst he;exact .inr (.inr (.inr (.inl ⟨aE,rfl⟩)))),?_⟩);replace hF:=dc.e hF h₁;clear h₁;refine fp.e (n:=1) hF.h ?_;u_leave0 H.f_add dc.e hF;exact Goes.stop (λ_ h₁=>hT _ (hF.e h₁)))
end Go.Eqv
