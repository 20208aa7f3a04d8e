/- Parts of the proof. -/
import Derived.Test.YtbebfliimjjohabGreatDoorM10
set_option maxRecDepth 100000
set_option maxHeartbeats 8000000
set_option linter.all false
open Go.Conc
open Go.ConcR (KK wgBlock WgAt stA smA rd wr mk)
open Go.ConcN (sumTo sumTo_congr)
namespace Go.Eqv
variable{ad:Addr}{es:Array Event}{gs gs':Array E4}{a a' g g':E4}{st sm:Int}{Shun:Loc->Prop}{x x':MTag}{i n r d s p:Nat}{dn dn':Nat->Nat}{Sn Sn':Nat->Nat->Prop}{rel rel':Nat->Option Nat}{stored stored' S:Nat->Prop}{Tm Tm':Nat->Tr}{wn wn':Nat->Ba}{sl:Option (Nat×Nat)}{T:Tr}{t u:Trace}{w w2:Ba}{C:dQ}{Anc AncW Fin Next:gL}
section
variable{tg:Nat->WTag}{y:WTag}{v:Dv}
def jh:Nat->MTag
 |0=>.close
 |r+1=>.send r
def xZ(r:Nat):EZ C (jh r)=C.nt-r:=by cases r<;>rfl
def y9(r:Nat):lS (jh r)=false:=by cases r<;>rfl
def Dx(r:Nat):H7 C (jh r)<21+r:=by cases r<;>simp[jh,H7]
def vT(h:fL C.P true C.E (sH C AncW r) T S d g w):su C Anc AncW Fin (jh r) T S d g w:=by cases r<;>exact h
def gm.ab(l:gm C x tg stored rel n w)(m:x=.send r\/x=.sendP r)(O:C.dT<=i)(P:i<n)(G:tg i=.recv\/tg i=.park)(ap:Ap C.L Sn w.heap.size){q:Nat}:
  gm C (jh r) (up tg i (.busy (C.nt-(r+1)))) stored rel n (w.setChan C.L.e 0 #[] false s q false):=by
 have d:∀j,(up tg i (.busy (C.nt-(r+1))) j=tg j/\j≠i)\/(j=i/\up tg i (.busy (C.nt-(r+1))) j=.busy (C.nt-(r+1))):=λj=>by
  by_cases g:j=i;subst g;exact .inr ⟨rfl,cu⟩;exact .inl ⟨cV g,g⟩
 have Q:r<C.nt:=by rcases m with rfl|rfl<;>exact l.H
 have R:EZ C x=C.nt-(r+1):=by rcases m with rfl|rfl<;>rfl
 have g:Qe C x=C.nw:=by rcases m with rfl|rfl<;>rfl
 have J:∀p,tg i≠.busy p:=by rcases G with e|e<;>rw[e]<;>simp
 refine⟨l.h,by rw[l.A,g];cases r<;>rfl,by cases r<;>simp[jh,BV];omega,λj h=>?_,⟨s,q,by rw[y9];exact pu ap.e⟩,?_,λj a c=>?_,l.F,λ_ j a c=>?_,λh=>(by rw[y9]at h;cases h),λU h=>(by cases r<;>cases h),λp K=>?_,λj p a c e=>?_,λj M p a c f z D E=>?_,?_⟩;rw[cV ak];exact l.I j h;let ⟨st,sm,a,c⟩:=l.b
 refine⟨st,sm,by unfold WgAt at *;rw[ip ap.t];exact a,?_⟩;have f:st=(Vc C tg n+0:Nat)*KK/\sm=0/\∀i,i<n->(tg i).j=false:=by rcases m with rfl|rfl<;>exact c
 have z:st=(Vc C (up tg i (.busy (C.nt-(r+1)))) n+0:Nat)*KK/\sm=0/\∀j,j<n->(up tg i (.busy (C.nt-(r+1))) j).j=false:=by
  rw[(ib (by rcases G with e|e<;>rw[e]<;>rfl))];exact⟨f.1,f.2.1,Dr rfl λj g _=>f.2.2 j g⟩
 cases r<;>exact z;rcases d j with⟨e,_⟩|⟨rfl,e⟩
 rw[e];exact l.e j a c;rw[e];exact⟨λq=>by simp[WTag.e]at q,λ_=>(l.e j a c).2 (by rcases G with e|e<;>rw[e]<;>decide)⟩;rcases d j with⟨e,_⟩|⟨rfl,e⟩
 rw[e];exact l.u (by rcases m with rfl|rfl<;>rfl) j a c;rw[e];exact .inr (.inr ⟨_,rfl⟩);rw[xZ]at K;by_cases S:p=C.nt-(r+1);exact .inr ⟨i,O,P,by rw[cu,S]⟩;rcases l.B p ak with k|⟨j,b1,b2,b3⟩
 exact .inl k;exact .inr ⟨j,b1,b2,by rw[cV (λe=>by subst e;exact J p b3)];exact b3⟩;rw[xZ];rcases d j with⟨v,_⟩|⟨rfl,v⟩<;>rw[v]at e
 have:=l.y j p a c e;exact⟨ak,this.2⟩;cases e;let ⟨N,_,_,h⟩:=l.o
 exact⟨ak,λq=>by have:=(h _ q).1;omega⟩;rcases d j with⟨e,_⟩|⟨rfl,e⟩<;>rcases d M with⟨v,_⟩|⟨rfl,v⟩<;>rw[e]at D<;>rw[v]at E
 exact l.two j M p a c f z D E;cases E;have:=(l.y j _ a c D).1;omega;cases D;have:=(l.y M _ f z E).1;omega;let ⟨N,a,c,f⟩:=l.o
 refine⟨N,by rw[ip (λe=>ap.A e.symm)];exact a,c,λp K=>?_⟩;let ⟨k1,T⟩:=f p K
 exact⟨by rw[xZ];omega,T⟩
def tA.e(h:tA C p Next S d g w)(a:cF C.E S w w2):tA C p Next S d g w2:=⟨h.1,h.2.1,h.2.2.1,λw1 b=>h.2.2.2 w1 (a.e b)⟩
def BK{j:Nat}{f h:FuncId}{k l:String}{c:Nat}(ap:Ap C.L Sn w.heap.size)(o:i<n)(p:j<n):∀a∈([{g:=i,fn:=f,pos:=k,act:=.send C.L.e s},{g:=j,fn:=h,pos:=l,act:=.recv C.L.e r c},{g:=i,fn:=f,pos:=k,act:=.sendDone C.L.e s},{g:=j,fn:=h,pos:=l,act:=.recvDone C.L.e r}]:List MemOp),LU C.L w.heap.size a/\a.g<n:=by
 intro a m;rcases(by simpa using m:a=_\/a=_\/a=_\/a=_) with rfl|rfl|rfl|rfl<;>exact⟨⟨rfl,ap.e,rfl,(by intro q;cases q),(by intro q;cases q)⟩,by assumption⟩
def IN(B:fE C Anc)(h:fK C Anc AncW Fin Shun x tg Tm Sn dn wn stored rel a gs w t)(l:gm C x tg stored rel gs.size w)(Q:gs[i]?=some g)(D:0<i)(o:C.dT<=i)(U:tg i=.recv)(E:Anc (Sn i) (dn i) g (wn i))(V:x=.sendP r):
  ui C Anc AncW Fin Shun (ga C x tg Tm a gs.size) t (runT C.P (crowd gs w sl) i):=by
 have f:=(ar.1 Q).1;have c:=(ar.1 h.j).1;have v:(i==0)=false:=fS;have F:=B.b E w (h.e i f);subst V;obtain⟨s,q,G⟩:∃s r,w.heap[C.L.e]?=some (.chan 0 #[] false s r false):=l.t;obtain⟨J,m,rfl,p⟩:=h.u;have W:partners (gs.setIfInBounds i ph) C.L.e true=[(0,0)]:=by
  rw[partners_one (j:=0) (g:=parked m #[scase C.L.e (C.C1 (C.nt-(r+1))) C.zs] .send) (stand_get ak h.j) λk z hk K=>?_];rw[offersAt_parked_send,aH rfl];rfl;rcases getElem?_stand _ _ _ _ K with⟨_,rfl⟩|⟨_,K⟩
  rfl;exact h.Z B ak K
 have n:=crowd_recv_meets (P:=C.P) (sl:=sl) (j:=0) Q (v▸F) G ak h.j W;rw[mQ,qC,finishComm_recv,finishComm_send]at n;obtain⟨R,M⟩:=(p.2.2.2 _ ((h.e 0 c).e ((h.H (i:=i) (xH.h h f (s:=s+1) (r:=q+1) (cl:=false)) 0 c) |> λk=>by rw[cV ak,cV ak]at k;exact⟨λb o=>(k.i b o).trans ((h.e 0 c).i b o).symm,λb o=>(k.s b o).trans ((h.e 0 c).s b o).symm,eL iQ.symm,rfl,rfl,rfl,k.h⟩))).2;have N:=h.ae (x':=jh r) (by cases r<;>simp[jh]) (T:=R) (a':=Conc.served m undef) (cl:=false) (s:=s+1) (r:=q+1) (by rw[J];exact vT M);have O:(gs.setIfInBounds 0 (Conc.served m undef)).size=gs.size:=aY;have X:=B.d E;have A:=N.e i ak;rw[cV ak]at A;have S:r<C.nt:=l.H;obtain⟨T,Y⟩:=B.h E _ A (C.nt-(r+1)) ak;refine⟨_,_,ga C (jh r) (up tg i (.busy (C.nt-(r+1)))) (up (up Tm 0 R) i T) (Conc.served m undef) gs.size,n,yZ (Dx r),_,_,_,_,_,_,_,_,_,_,_,_,rfl,(N.I (i:=i) (y:=.busy (C.nt-(r+1))) (T:=T) (g':=Conc.served g (recvd true (C.C1 (C.nt-(r+1))) true)) ak D (l:=[{g:=0,fn:=m.frame.fn,pos:=m.frame.place,act:=.send C.L.e s},{g:=i,fn:=g.frame.fn,pos:=g.frame.place,act:=.recv C.L.e q 0},{g:=0,fn:=m.frame.fn,pos:=m.frame.place,act:=.sendDone C.L.e s},{g:=i,fn:=g.frame.fn,pos:=g.frame.place,act:=.recvDone C.L.e q}]) (by rw[O];exact BK N.h c f) (X▸Y)),by simpa using l.ab (.inr rfl) o f (.inl U) h.h,by simp[ga]⟩
end
section
variable{tg:Nat->WTag}{y:WTag}{v:Dv}
def Xq(n:fE C Anc)(h:fK C Anc AncW Fin Shun x tg Tm Sn dn wn stored rel a gs w t)(g:stepG C.P true a w=.go a' w2 es){S':Nat->Prop}(d:su C Anc AncW Fin x' T S' (deafBehind (dn 0) es) a' w2)(p:xH C (Sn 0) S' w w2)(l:TI C.L Shun (C.dT<=·) (λk=>k=0\/(C.dT<=k/\k<gs.size)) (up Sn 0 S') stored rel w2.heap.size (t++MemOp.ofEvents 0 a.frame.fn a.frame.place es))(m:gm C x' tg stored rel gs.size w2)(q:x'=.sem->WgAt C.ty C.L.b w2 0 1->a'.status=.running)(u:Lt (ga C x' tg (up Tm 0 T) a' gs.size) (ga C x tg Tm a gs.size)):ui C Anc AncW Fin Shun (ga C x tg Tm a gs.size) t (runT C.P (crowd gs w sl) 0):=by
 have c:=(ar.1 h.j).1;obtain⟨s,r,f⟩:=m.t;have v:(∃s r,w2.heap[C.L.e]?=some (.chan 0 #[] false s r false))\/∀i,i<gs.size->tg i≠.park:=by
  cases hcl:lS x' with
  |false=>rw[hcl]at f;exact .inl ⟨s,r,f⟩
  |true=>exact .inr (m.J hcl)
 refine⟨_,_,_,(runT_crowd_go (P:=C.P) (sl:=sl) (i:=0) h.j g),u,_,_,_,_,_,_,_,_,_,_,_,_,rfl,h.ac (gs':=(gs.map (woken C.P a a' w2)).setIfInBounds 0 a') aY (by rw[aV (dD c)]) (λj y z A=>h.ab n v j y z ak A) d p (yH _ es (h.o 0 c)) l (λD B=>?_) q,dD m,aY⟩;obtain⟨e,_,rfl⟩:=Conc.mem_ofEvents B;exact c
def Xf(a:0<n)(b:∀r,x≠.sendP r){p:Nat×Tr}(e:Mh tg x' (up Tm 0 T) 0=p)(h:TY p (1,Tm 0)):XZ TY n (Mh tg x' (up Tm 0 T)) (Mh tg x Tm):=by
 refine⟨0,a,?_,λj c=>?_⟩;rw[e];have:Mh tg x Tm 0=(1,Tm 0):=by
  unfold Mh;rw[aH rfl];cases x<;>first|rfl|exact absurd rfl (b _)
 rw[this];exact h;rw[BF ak,BF ak,cV c]
def IM(y:fE C Anc)(h:fK C Anc AncW Fin Shun x tg Tm Sn dn wn stored rel a gs w t)(l:gm C x tg stored rel gs.size w){c:gL}{f:Ba->Tr}(m:Tm 0=.node f)(z:fL C.P true C.E c (.node f) (Sn 0) (dn 0) a (wn 0))(s:∀r,x≠.sendP r)(n:x≠.sem)(A:∀T S d g w,fL C.P true C.E c T S d g w->su C Anc AncW Fin x T S d g w):ui C Anc AncW Fin Shun (ga C x tg Tm a gs.size) t (runT C.P (crowd gs w sl) 0):=by
 have k:=(ar.1 h.j).1;have v:=h.e 0 k;obtain⟨g',w2,es,o,b,B⟩:=z.2 w v;refine Xq (x':=x) (T:=f w) y h o (A _ _ _ _ _ B) (b.e h.h v.h) (h.al (λ_=>rfl) (.inl rfl) l.h (λq=>by have:=l.h;omega) b _ _) (l.ac (b.h _ h.h.h (h.h.x 0)) (b.h _ h.h.e (h.h.w 0)) (b.h _ h.h.i (h.h.u 0))) (λq=>absurd q n) ?_;refine qd rfl (Xf k s (p:=(1,f w)) ?_ (by rw[m];exact x8 ⟨f,w,rfl,rfl⟩));unfold Mh;rw[aH rfl,cu];cases x<;>first|rfl|exact absurd rfl (s _)
def gm.Z(l:gm C x tg stored rel n w)(d:Qe C x'=Qe C x)(f:BV C x')(hc:lS x'=lS x)(a:EZ C x'=EZ C x)(c:∀r,x'=.sendP r->∀i,i<n->tg i≠.park)(g:w2.heap[C.L.e]?=w.heap[C.L.e]?)(j:w2.heap[C.L.h]?=w.heap[C.L.h]?)(k:∃st sm,WgAt C.ty C.L.b w2 st sm/\qr C x' tg n st sm):gm C x' tg stored rel n w2:=
 ⟨l.h,d▸l.A,f,l.I,by rw[g,hc];exact l.t,k,l.e,l.F,hc▸l.u,hc▸l.J,c,a▸l.B,a▸l.y,l.two,by rw[j,a];exact l.o⟩
def lG(B:fE C Anc)(h:fK C Anc AncW Fin Shun x tg Tm Sn dn wn stored rel a gs w t)(l:gm C x tg stored rel gs.size w)(m:stepG C.P true a w=.go a' w2 es)(z:dn 0=1)(n:es=#[rd (stA C.L.b),wr (stA C.L.b)]\/es=#[rd (stA C.L.b)]\/es=#[wr (stA C.L.b)]\/es=semEvents (smA C.L.b)\/es=#[])(o:w2=w\/∃u,w2=w.setCell (stA C.L.b) (.int .u64 u)\/w2=w.setCell (smA C.L.b) (.int .u32 u))(g:su C Anc AncW Fin x' T (Sn 0) 1 a' w2)(D:Qe C x'=Qe C x)(E:BV C x')(hc:lS x'=lS x)(F:EZ C x'=EZ C x)(p:∀r,x'≠.sendP r)(s:∃st sm,WgAt C.ty C.L.b w2 st sm/\qr C x' tg gs.size st sm)(v:x'=.sem->WgAt C.ty C.L.b w2 0 1->a'.status=.running)(G:Lt (ga C x' tg (up Tm 0 T) a' gs.size) (ga C x tg Tm a gs.size)):
  ui C Anc AncW Fin Shun (ga C x tg Tm a gs.size) t (runT C.P (crowd gs w sl) 0):=by
 have d:=(ar.1 h.j).1;have A:=h.e 0 d;have f:(∀e∈es,(∃ad:Addr,ad.block=C.L.b/\e.loc=.cell ad/\e.sync=true)\/(e.loc=.mark .disable\/e.loc=.mark .enable))/\(∀k,k<=es.size->1<=deafBehind 1 (es.extract 0 k))/\deafBehind 1 es=1:=by
  rcases n with q|q|q|q|rfl
  exact oe (.inl q);exact oe (.inr (.inl q));exact oe (.inr (.inr (.inl q)));exact oe (.inr (.inr (.inr q)));exact⟨λe H=>by simp at H,λk v=>by rw[show k=0 by simpa using v];exact aj 1,rfl⟩
 obtain⟨st,sm,i,_⟩:=l.b;have c:xH C (Sn 0) (Sn 0) w w2/\w2.heap.size=w.heap.size/\w2.heap[C.L.e]?=w.heap[C.L.e]?/\w2.heap[C.L.h]?=w.heap[C.L.h]?:=by
  rcases o with rfl|⟨u,rfl|rfl⟩
  exact⟨xH.e h d,rfl,rfl,rfl⟩;exact⟨xH.j h.h (Kx A.h h.h i u).1 (.inl rfl),ra _ _ _,iB _ _ _ (λe=>h.h.t e.symm),iB _ _ _ (λe=>h.h.y e.symm)⟩;exact⟨xH.j h.h (Kx A.h h.h i u).2 (.inl rfl),ra _ _ _,iB _ _ _ (λe=>h.h.t e.symm),iB _ _ _ (λe=>h.h.y e.symm)⟩
 refine Xq (x':=x') (T:=T) (S':=Sn 0) B h m (by rw[z,f.2.2];exact g) c.1 ?_ (l.Z D E hc F (λr q=>absurd q (p r)) c.2.2.1 c.2.2.2 s) v G;rw[jl];exact h.ag l.h (.inl rfl) d ak f.1 (z▸f.2.1) c.2.1 _ _
def MV(i:fE C Anc)(k:C.nw<2147483647)(h:fK C Anc AncW Fin Shun x tg Tm Sn dn wn stored rel a gs w t)(l:gm C x tg stored rel gs.size w)(m:x=.add r)(n:Next=oU C Anc (mH C Anc AncW r))(d:Bt C Next (Sn 0) (dn 0) a (wn 0)):
  ui C Anc AncW Fin Shun (ga C x tg Tm a gs.size) t (runT C.P (crowd gs w sl) 0):=by
 have f:=(ar.1 h.j).1;subst m n;let ⟨st,sm,c,o⟩:=l.b
 obtain⟨rfl,rfl,p⟩:st=(Vc C tg gs.size+0:Nat)*KK/\sm=0/\_:=o;have v:=Kz l;let ⟨s,_,d⟩:=d
 let ⟨g',g,T,u⟩:=d w (h.e 0 f) (Vc C tg gs.size) ak c
 exact lG (x':=.go r) (T:=T) i h l g s (.inl rfl) (.inr ⟨_,.inl rfl⟩) u rfl l.H rfl rfl aY ⟨_,_,c.setSt _,by exact⟨by simp[Df],rfl,p⟩⟩ (λq=>by cases q) (yZ (by simp[H7]))
def QG(m:fE C Anc)(p:C.nw<2147483647)(h:fK C Anc AncW Fin Shun x tg Tm Sn dn wn stored rel a gs w t)(l:gm C x tg stored rel gs.size w)(r:x=.w1)(g:EJ C AncW Fin (Sn 0) (dn 0) a (wn 0)):
  ui C Anc AncW Fin Shun (ga C x tg Tm a gs.size) t (runT C.P (crowd gs w sl) 0):=by
 have i:=(ar.1 h.j).1;subst r;let ⟨st,sm,c,s⟩:=l.b
 obtain⟨rfl,rfl,n⟩:st=(Vc C tg gs.size+0:Nat)*KK/\sm=0/\_:=s;have v:=Kz l;let ⟨o,_,g⟩:=g
 let ⟨g',d,h0,u⟩:=g w (h.e 0 i) (Vc C tg gs.size) ak c
 by_cases f:Vc C tg gs.size=0;let ⟨T,k⟩:=h0 f
 exact lG (x':=.acq) (T:=T) m h l d o (.inr (.inl rfl)) (.inl rfl) k rfl aB rfl rfl aY ⟨_,_,c,by exact⟨f,by simp[f],rfl,n⟩⟩ (λq=>by cases q) (yZ (by simp[H7]));let ⟨T,k⟩:=u f
 exact lG (x':=.w2 (Vc C tg gs.size)) (T:=T) m h l d o (.inr (.inl rfl)) (.inl rfl) k rfl f rfl rfl aY ⟨_,_,c,by exact⟨by simp[Df],rfl,n⟩⟩ (λq=>by cases q) (UW (by simp[Vp]))
def QH(o:fE C Anc)(s:∀S d g w,AncW S d g w->fC C.P true C.E (EJ C AncW Fin) S d g w)(u:C.nw<2147483647)(h:fK C Anc AncW Fin Shun x tg Tm Sn dn wn stored rel a gs w t)(l:gm C x tg stored rel gs.size w){vs:Nat}(v:x=.w2 vs)(k:X6 C AncW Fin vs (Sn 0) (dn 0) a (wn 0)):
  ui C Anc AncW Fin Shun (ga C x tg Tm a gs.size) t (runT C.P (crowd gs w sl) 0):=by
 have m:=(ar.1 h.j).1;subst v;let ⟨st,sm,c,y⟩:=l.b
 obtain⟨rfl,rfl,p⟩:st=(Vc C tg gs.size+0:Nat)*KK/\sm=0/\_:=y;have B:=Kz l;have z:vs≠0:=l.H;let ⟨r,_,k⟩:=k
 let ⟨h0,A⟩:=k w (h.e 0 m) (Vc C tg gs.size) ak c
 by_cases n:Vc C tg gs.size=vs;let ⟨g',f,T,i⟩:=h0 n
 exact lG (x':=.w3) (T:=T) o h l f r (.inl rfl) (.inr ⟨_,.inl rfl⟩) i rfl aB rfl rfl aY ⟨_,_,c.setSt _,.inl ⟨ak,rfl,rfl,p⟩⟩ (λq=>by cases q) (yZ (by simp[H7]));let ⟨g',f,i⟩:=A n
 let ⟨T,i⟩:=i.Z s
 exact lG (x':=.w1) (T:=T) o h l f r (.inr (.inl rfl)) (.inl rfl) i rfl aB rfl rfl aY ⟨_,_,c,by exact⟨by simp[Df],rfl,p⟩⟩ (λq=>by cases q) (UW (by simp[Vp];rw[ay (λe=>n e.symm)];omega))
def Fm(r:fE C Anc)(h:fK C Anc AncW Fin Shun x tg Tm Sn dn wn stored rel a gs w t)(l:gm C x tg stored rel gs.size w)(m:x=.w3\/x=.sem)(d:Uk C Fin (Sn 0) (dn 0) a (wn 0)):
  ui C Anc AncW Fin Shun (ga C x tg Tm a gs.size) t (runT C.P (crowd gs w sl) 0):=by
 have o:=(ar.1 h.j).1;let ⟨st,sm,c,n⟩:=l.b
 replace n:qr C .w3 tg gs.size st sm:=by rcases m with rfl|rfl<;>exact n
 have p:=h.e 0 o;have k:Qe C x=C.nw/\EZ C x=C.nt/\lS x=true:=by rcases m with rfl|rfl<;>exact⟨rfl,rfl,rfl⟩
 by_cases f:sm=0;subst f;have g:=(d.2.2.2 w p).1 ⟨st,c⟩;refine lG (x':=.sem) (T:=Tm 0) r h l g d.1 (.inr (.inr (.inr (.inr rfl)))) (.inl rfl) ⟨rfl,a,.inr rfl,?_⟩ k.1.symm aB k.2.2.symm k.2.1.symm aY ⟨_,_,c,n⟩ (λ_ q=>absurd q (no1 c)) ?_;exact⟨rfl,d.2.1,d.2.2.1,λw1 s=>d.2.2.2 w1 (p.e s)⟩;rcases m with rfl|rfl
 exact yZ (by simp[H7]);rw[jl];apply ab0;simp[sOf,d.2.1];obtain⟨u,rfl,rfl,v⟩:Vc C tg gs.size=0/\st=0/\sm=1/\∀i,i<gs.size->(tg i).j=false:=by
  rcases n with⟨_,_,q,_⟩|⟨_,q,_⟩|q
  exact absurd q f;exact absurd q f;exact q
 let ⟨g',g,T,y⟩:=(d.2.2.2 w p).2 c
 refine lG (x':=.w4) (T:=T) r h l g d.1 (.inr (.inr (.inr (.inl rfl)))) (.inr ⟨_,.inr rfl⟩) y k.1.symm aB k.2.2.symm k.2.1.symm aY ⟨_,_,c.setSm 0,by exact⟨u,rfl,rfl,v⟩⟩ (λq=>by cases q) (yZ ?_);rcases m with rfl|rfl<;>simp[H7]
def QI(i:fE C Anc)(h:fK C Anc AncW Fin Shun x tg Tm Sn dn wn stored rel a gs w t)(l:gm C x tg stored rel gs.size w)(k:x=.w4)(d:X7 C Fin (Sn 0) (dn 0) a (wn 0)):
  ui C Anc AncW Fin Shun (ga C x tg Tm a gs.size) t (runT C.P (crowd gs w sl) 0):=by
 have f:=(ar.1 h.j).1;subst k;let ⟨st,sm,c,m⟩:=l.b
 obtain⟨n,rfl,rfl,o⟩:Vc C tg gs.size=0/\st=0/\sm=0/\_:=m;let ⟨p,_,d⟩:=d
 let ⟨g',g,T,r⟩:=d w (h.e 0 f) c
 exact lG (x':=.acq) (T:=T) i h l g p (.inr (.inl rfl)) (.inl rfl) r rfl aB rfl rfl aY ⟨_,_,c,by exact⟨n,rfl,rfl,o⟩⟩ (λq=>by cases q) (yZ (by simp[H7]))
end
section
variable{tg tg':Nat->WTag}{y:WTag}{v:Dv}
def fK.an(h:fK C Anc AncW Fin Shun x tg Tm Sn dn wn stored rel a gs w t)(d:x'≠.sem)(c:su C Anc AncW Fin x' T (Sn 0) (dn 0) a' w):fK C Anc AncW Fin Shun x' tg (up Tm 0 T) Sn dn (up wn 0 w) stored rel a' (gs.setIfInBounds 0 a') w t:=by
 have b:0<gs.size:=(ar.1 h.j).1;have:=h.ac (gs':=gs.setIfInBounds 0 a') (w2:=w) (u:=#[]) (T:=T) (S':=Sn 0) (d':=dn 0) (a':=a') (x':=x') (stored':=stored) (rel':=rel) aY (by rw[aV b]) (λj k f g=>by rw[aM ak]at g;exact g) c (xH.e h b) (λj=>?_) (by rw[jl];simpa using h.y) (λl i=>by simp at i) (λq=>absurd q d);rw[jl,jl]at this;simpa using this;simp only[Array.append_empty];by_cases f:j=0;subst f;rw[aH rfl];exact h.o 0 b;rw[ay f]
def fK.V(h:fK C Anc AncW Fin Shun x tg Tm Sn dn wn stored rel a gs w t)(i:fE C Anc){j:Nat}{g0:E4}(k:0<j)(g:gs[j]?=some g0):(tg j=.park/\dn j=0/\∃c,g0=parked c #[rcase C.L.e C.z] (.recv true)/\Anc (Sn j) 0 c (wn j))\/(tg j≠.park/\offersAt g0 C.L.e false=[]):=by
 have d:=(ar.1 g).1;have f:=h.p j g0 k g;rcases f.e i (h.e j d) with⟨e,_⟩|⟨e,b|⟨q,_,b⟩⟩
 rw[e]at f;obtain⟨l,c,rfl,m⟩:=f;exact .inl ⟨e,l,c,rfl,m⟩;exact .inr ⟨e,offersAt_of_not_blocked (by rw[b];decide) _ _⟩;exact .inr ⟨e,offersAt_of_not_blocked (by rcases b with b|b<;>rw[b]<;>decide) _ _⟩
def IK(O:fE C Anc)(h:fK C Anc AncW Fin Shun x tg Tm Sn dn wn stored rel a gs w t)(l:gm C x tg stored rel gs.size w)(hx:x=.send r)(hN:Next=sH C AncW r)(B:tA C (C.nt-(r+1)) Next (Sn 0) (dn 0) a (wn 0)):
  ui C Anc AncW Fin Shun (ga C x tg Tm a gs.size) t (runT C.P (crowd gs w sl) 0):=by
 have v:=(ar.1 h.j).1;subst hx hN;have hr:=h.e 0 v;let ⟨D,_⟩:=B.2.2.2 w hr
 let ⟨s,q,F⟩:∃s r,w.heap[C.L.e]?=some (.chan 0 #[] false s r false):=l.t
 by_cases R:partners (gs.setIfInBounds 0 ph) C.L.e false=[];have c:=crowd_waits (P:=C.P) (sl:=sl) h.j D (λcc S=>by
  obtain rfl:cc=scase C.L.e (C.C1 (C.nt-(r+1))) C.zs:=dD S;exact ways_send_none F (aj _) R)
 rw[mQ]at c;have hc:=h.an (x':=.sendP r) aY (T:=.leaf) (a':=parked a #[scase C.L.e (C.C1 (C.nt-(r+1))) C.zs] .send) ⟨B.1,a,rfl,by have:=B.e hr;rw[B.1]at this;exact this⟩;have np:∀i,i<gs.size->tg i≠.park:=λi hi e=>by
  have U:0<i:=CZ λq=>by subst q;let ⟨_,k⟩:=l.I 0 l.h;rw[k]at e;cases e
  rcases h.V O U (aW hi) with⟨_,_,n,f,_⟩|⟨k,_⟩
  have:(i,0)∈partners (gs.setIfInBounds 0 ph) C.L.e false:=mem_partners.2 ⟨_,stand_get ak (aW hi),by rw[f,offersAt_parked_recv,aH rfl];simp⟩;rw[R]at this;cases this;exact k e
 have l':gm C (.sendP r) tg stored rel gs.size w:=l.Z rfl l.H rfl rfl (λ_ _=>np) rfl rfl l.b;refine⟨_,_,ga C (.sendP r) tg (up Tm 0 .leaf) (parked a #[scase C.L.e (C.C1 (C.nt-(r+1))) C.zs] .send) gs.size,c,aao (Xf v aY (p:=(0,.leaf)) rfl (jI cn)),_,_,_,_,_,_,_,_,_,_,_,_,rfl,dD hc,dD l',by simp[ga]⟩;let ⟨j,Q,G,o,d,m,hj,c⟩:=crowd_send_meets_some (P:=C.P) (sl:=sl) h.j D F R (λj k W=>by
  let ⟨n,f,J⟩:=mem_partners.1 W
  rcases getElem?_stand _ _ _ _ f with⟨_,rfl⟩|⟨m,f⟩
  cases J;rcases h.V O (CZ m) f with⟨_,_,g2,rfl,_⟩|⟨_,q⟩
  rw[offersAt_parked_recv,aH rfl]at J;exact⟨dD J,m,_,_,_,f⟩;rw[q]at J;cases J)
 have K:0<j:=CZ m;have u:=(ar.1 hj).1;let ⟨M,X,n,Y,hn⟩:=(h.V O K hj).resolve_right λk=>by have:=k.2;rw[offersAt_parked_recv,aH rfl]at this;cases this
 have ad:C.dT<=j:=Nat.le_of_not_lt λq=>by let ⟨_,k⟩:=l.I j q;rw[M]at k;cases k
 have e1:(#[rcase C.L.e G],o)=(#[rcase C.L.e C.z],CommShape.recv true):=bb (cr Goroutine.offers Y);have e2:Q.frame=n.frame:=by show (parked Q #[rcase C.L.e G] o).frame=_;rw[Y];rfl
 have e3:Q.finishComm C.P #[rcase C.L.e G] o 0 (C.C1 (C.nt-(r+1))) true=Conc.served n (recvd true (C.C1 (C.nt-(r+1))) true):=by
  rw[<-finishComm_parked C.P Q #[rcase C.L.e G] #[rcase C.L.e G] o o,Y,finishComm_parked,(Prod.mk.inj e1).2,finishComm_recv]
 rw[mQ,qC,finishComm_send,e2,e3]at c;have aS:cF C.E (Sn 0) (wn 0) ((w.at d).setChan C.L.e 0 #[] false (s+1) (q+1) false):=by
  have k:=h.at d;have:=k.H (i:=j) (xH.h k u (s:=s+1) (r:=q+1) (cl:=false)) 0 v;rw[cV ak,cV ak]at this;exact this
 let ⟨T0,a0⟩:=(B.2.2.2 _ aS).2
 have hM:=(h.at d).ae (x':=jh r) (by cases r<;>simp[jh]) (T:=T0) (a':=Conc.served a undef) (cl:=false) (s:=s+1) (r:=q+1) (by rw[B.1];exact vT a0);have a1:(gs.setIfInBounds 0 (Conc.served a undef)).size=gs.size:=aY;have N:=hM.e j ak;rw[cV m]at N;have bm:r<C.nt:=l.H;let ⟨T,hT⟩:=O.h hn _ N (C.nt-(r+1)) ak
 have hW:=hM.I (i:=j) (y:=.busy (C.nt-(r+1))) (T:=T) (g':=Conc.served n (recvd true (C.C1 (C.nt-(r+1))) true)) ak K (l:=[{g:=0,fn:=a.frame.fn,pos:=a.frame.place,act:=.send C.L.e s},{g:=j,fn:=n.frame.fn,pos:=n.frame.place,act:=.recv C.L.e q 0},{g:=0,fn:=a.frame.fn,pos:=a.frame.place,act:=.sendDone C.L.e s},{g:=j,fn:=n.frame.fn,pos:=n.frame.place,act:=.recvDone C.L.e q}]) (by rw[a1];exact BK hM.h v u) (X▸hT);have A:(gs.setIfInBounds j (Conc.served n (recvd true (C.C1 (C.nt-(r+1))) true))).setIfInBounds 0 (Conc.served a undef)=(gs.setIfInBounds 0 (Conc.served a undef)).setIfInBounds j (Conc.served n (recvd true (C.C1 (C.nt-(r+1))) true)):=by
  rw[TW _ _ (λe=>m e)]
 rw[A]at c;refine⟨_,_,ga C (jh r) (up tg j (.busy (C.nt-(r+1)))) (up (up Tm 0 T0) j T) (Conc.served a undef) gs.size,c,yZ (Dx r),_,_,_,_,_,_,_,_,_,_,_,_,rfl,hW,by simpa using (l.at d).ab (.inl rfl) ad u (.inr M) (h.at d).h,by simp[ga]⟩
end
section
variable{tg tg':Nat->WTag}{y:WTag}{v:Dv}
def WTag.H:WTag->WTag
 |.park=>.woke
 |y=>y
def DM(y:WTag):y.H.h=y.h:=by cases y<;>rfl
def M4(y:WTag):y.H.j=y.j:=by cases y<;>rfl
def rX{y:WTag}:y.H=.busy p↔y=.busy p:=by cases y<;>simp[WTag.H]
def B9(y:WTag):(y.H.e<=5↔y.e<=5)/\(6<=y.H.e↔6<=y.e):=by cases y<;>simp[WTag.H,WTag.e]
def Fk(hA:fE C Anc)(hW:∀S d g w,AncW S d g w->fC C.P true C.E (EJ C AncW Fin) S d g w)(h:fK C Anc AncW Fin Shun x tg Tm Sn dn wn stored rel a gs w t)(l:gm C x tg stored rel gs.size w)(hx:x=.close)(U:ut C AncW (Sn 0) (dn 0) a (wn 0)):
  ui C Anc AncW Fin Shun (ga C x tg Tm a gs.size) t (runT C.P (crowd gs w sl) 0):=by
 have f:=(ar.1 h.j).1;subst hx;have hr:=h.e 0 f;let ⟨s,q,V⟩:∃s r,w.heap[C.L.e]?=some (.chan 0 #[] false s r false):=l.t
 let ⟨hd,_,W,U⟩:=U
 let ⟨g',X,Y,hG⟩:=U w hr s q V
 let ⟨T,hT⟩:=hG.Z hW
 have J:=runT_crowd_go (P:=C.P) (sl:=sl) (i:=0) h.j X;have ap:=h.h;have D:(w.setChan C.L.e 0 #[] true s q false).heap[C.L.e]?=some (.chan 0 #[] true s q false):=pu ap.e;have ad:=xH.h h f (s:=s) (r:=q) (cl:=true);have hc:fK C Anc AncW Fin Shun .w1 (λj=>(tg j).H) (up Tm 0 T) Sn dn (up wn 0 (w.setChan C.L.e 0 #[] true s q false)) stored rel g' ((gs.map (woken C.P a g' (w.setChan C.L.e 0 #[] true s q false))).setIfInBounds 0 g') (w.setChan C.L.e 0 #[] true s q false) (t++MemOp.ofEvents 0 a.frame.fn a.frame.place #[⟨.obj C.L.e,false,true⟩,⟨.obj C.L.e,true,true⟩]):=by
  have K:=yH (fn:=a.frame.fn) a.frame.place #[⟨.obj C.L.e,false,true⟩,⟨.obj C.L.e,true,true⟩] (h.o 0 f);refine⟨by rw[aV (by simpa using f)],?_,λj g0 c hg=>?_,λj c=>?_,λj c=>?_,λj c=>?_,?_,by rw[iQ];exact ap,λj c=>h.B j (by simpa using c),λM m=>?_,(λq=>by cases q)⟩;rw[cu,cu,hd];exact hT;rw[aM ak,b9]at hg;obtain⟨y,G,rfl⟩:=bS.1 hg;have N:=h.p j y c G;have O:=(ar.1 G).1;rw[cV ak,cV ak];rcases N.e hA (h.e j O) with⟨e,_⟩|⟨e,_⟩
  rw[e]at N⊢;obtain⟨aS,g1,rfl,hn⟩:=N;refine⟨aS,g1,?_,hn⟩;unfold woken;rw[aH (by rw[W,Y];rfl),again_recv_closed D];rw[N.h hA (h.e j O) (s:=0) (r:=0) λq=>absurd q e];have:(tg j).H=tg j:=by
   revert e;cases tg j<;>simp[WTag.H]
  rw[this];exact N;have:=h.H ad j (dD c);rw[jl]at this;exact this;rw[K j];by_cases Q:j=0;subst Q;rw[aH rfl];exact deafBehind_still (λe he=>by rcases(by simpa using he:e=_\/e=_) with rfl|rfl<;>simp) _;rw[ay Q];exact h.o j (dD c);have:gs.size<=j:=dD c;rw[K j,ay ak];exact h.s j this
  .have R:=h.y.j ap (u:=MemOp.ofEvents 0 a.frame.fn a.frame.place #[⟨.obj C.L.e,false,true⟩,⟨.obj C.L.e,true,true⟩]) (k:=0) (B':=(w.setChan C.L.e 0 #[] true s q false).heap.size) (S':=Sn 0) (nw:=λ_=>False) (.inl rfl) (λM m=>by obtain⟨e,_,rfl⟩:=Conc.mem_ofEvents m;rfl) (λM m y G hm=>?_) (λ_ q=>q.elim) (λb hb=>.inl hb) (λb hb=>hb) (eL iQ.symm) (λM m=>?_) (λhk=>by have:=l.h;omega) (λM m=>?_) (λq=>absurd rfl q);rw[DL,wh,jl]at R;simpa using R;all_goals (obtain⟨e,he,rfl⟩:=Conc.mem_ofEvents m)
   all_goals (rcases(by simpa using he:e=_\/e=_) with rfl|rfl)
   simp only[MemAct.ofEvent,MemAct.touch?,ba]at G;subst G;exact .inr (.inr (.inr (.inr (.inl ⟨rfl,rfl⟩))));simp[MemAct.ofEvent,MemAct.touch?]at G;show C.L.e<_;rw[iQ];exact ap.e;show C.L.e<_;rw[iQ];exact ap.e;rfl;rfl
  simp only[dI,eh];rcases cE.1 m with m|m
  exact h.A M m;obtain⟨e,_,rfl⟩:=Conc.mem_ofEvents m;exact f
 have hV:∀n,Vc C (λj=>(tg j).H) n=Vc C tg n:=λn=>sumTo_congr λj _=>by unfold A3;rw[DM]
 have l':gm C .w1 (λj=>(tg j).H) stored rel gs.size (w.setChan C.L.e 0 #[] true s q false):=by
  refine⟨l.h,l.A,aB,λj c=>?_,⟨s,q,D⟩,?_,λj v z=>?_,l.F,(λq=>by cases q),λ_ j c e=>?_,(λr q=>by cases q),λp hp=>?_,λj p v z e=>l.y j p v z (rX.1 e),λj j' p v z h3 h4 e1 e2=>l.two j j' p v z h3 h4 (rX.1 e1) (rX.1 e2),?_⟩;let ⟨q,hq⟩:=l.I j c
  exact⟨q,by rw[hq];rfl⟩;let ⟨st,sm,v,z⟩:=l.b
  refine⟨st,sm,by unfold WgAt at *;rw[ip ap.t];exact v,?_⟩;let ⟨k1,k2,k3⟩:st=(Vc C tg gs.size+0:Nat)*KK/\sm=0/\∀i,i<gs.size->(tg i).j=false:=z
  exact⟨by rw[hV];exact k1,k2,λi hi=>by rw[M4];exact k3 i hi⟩;have:=l.e j v z;exact⟨λq=>this.1 ((B9 _).1.1 q),λq=>this.2 ((B9 _).2.1 q)⟩;revert e;cases tg j<;>simp[WTag.H];rcases l.B p hp with q|⟨j,b1,b2,b3⟩
  exact .inl q;exact .inr ⟨j,b1,b2,rX.2 b3⟩;let ⟨cs,v,z⟩:=l.o
  exact⟨cs,by rw[ip (λe=>ap.A e.symm)];exact v,z⟩
 exact⟨_,_,ga C .w1 (λj=>(tg j).H) (up Tm 0 T) g' gs.size,J,yZ (by simp[H7]),_,_,_,_,_,_,_,_,_,_,_,_,rfl,hc,dD l',by simp[ga]⟩
def ny(C:dQ):Nat->MTag
 |0=>jh C.nt
 |r+1=>.add r
def Mv(h:mH C Anc AncW r S d g w):∃T,su C Anc AncW Fin (ny C r) T S d g w:=by
 cases r with
 |zero=>let ⟨T,a⟩:=h;exact⟨T,vT a⟩
 |succ r=>exact h
def Fl(h:fK C Anc AncW Fin Shun x tg Tm Sn dn wn stored rel a gs w t)(l:gm C x tg stored rel gs.size w)(hx:x=.go r)(hN:Next=mH C Anc AncW r)(hS:oU C Anc Next (Sn 0) (dn 0) a (wn 0)):
  ui C Anc AncW Fin Shun (ga C x tg Tm a gs.size) t (runT C.P (crowd gs w sl) 0):=by
 have V:=(ar.1 h.j).1;subst hx hN;have hr:=h.e 0 V;have dd:r<C.nw:=l.H;have df:gs.size=C.dT+(C.nw-(r+1)):=l.A;have W:=l.h;obtain⟨hd,_,hS⟩:=hS;obtain⟨g',d,X,O,cl,dk,a1,Y,bm,⟨T1,cm⟩,co⟩:=hS w hr;obtain⟨T0,cp⟩:=Mv (Fin:=Fin) co;have S:=runT_crowd_spawn (P:=C.P) (sl:=sl) (i:=0) h.j cl;rw[mQ]at S;have ap:=h.h;have ct:∀T∈([{g:=0,fn:=a.frame.fn,pos:=a.frame.place,act:=.go gs.size},{g:=gs.size,fn:=d.frame.fn,pos:=a.frame.place,act:=.start}]:List MemOp),LU C.L w.heap.size T:=λT Z=>by
  rcases(by simpa using Z:T=_\/T=_) with rfl|rfl<;>exact⟨rfl,aB,rfl,(by intro q;cases q),(by intro q;cases q)⟩
 have bO:∀j,Deaf (t++#[{g:=0,fn:=a.frame.fn,pos:=a.frame.place,act:=.go gs.size},{g:=gs.size,fn:=d.frame.fn,pos:=a.frame.place,act:=.start}]) j=Deaf t j:=λj=>tf j _ t ct;have Q:∀k b,(if k=gs.size then O else if k=0 then X else Sn k) b->(Sn k b/\k≠gs.size)\/(k=gs.size/\O b):=λk b v=>by
  by_cases U:k=gs.size;rw[aH U]at v;exact .inr ⟨U,v⟩;rw[ay U]at v;by_cases bR:k=0;subst bR;rw[aH rfl]at v;exact .inl ⟨a1 b v,U⟩;rw[ay bR]at v;exact .inl ⟨v,U⟩
 have D:∀k b,(if k=gs.size then O else if k=0 then X else Sn k) b->Sn k b\/Sn 0 b:=λk b v=>(Q k b v).imp (·.1) λq=>Y b q.2;have cv:Ap C.L (λk=>if k=gs.size then O else if k=0 then X else Sn k) w.heap.size:=by
  refine⟨λk b v=>(D k b v).elim (ap.p _ b) (ap.p _ b),λk b v=>(D k b v).elim (ap.s _ b) (ap.s _ b),λk v=>(D k _ v).elim (ap.x _) (ap.x _),λk v=>(D k _ v).elim (ap.w _) (ap.w _),λk v=>(D k _ v).elim (ap.u _) (ap.u _),λj k b z U=>?_,ap.I,ap.H,ap.C,ap.t,ap.y,ap.A,ap.o,ap.h,ap.e,ap.i⟩;have ci:∀j,(if j=gs.size then O else if j=0 then X else Sn j) b->O b->j=gs.size:=λj z N=>by
   rcases Q j b z with⟨q,ad⟩|q
   have:j=0:=ap.two _ _ b q (Y b N);subst this;rw[ay ad,aH rfl]at z;exact absurd N (bm b z);exact q.1
  rcases Q j b z with q|q<;>rcases Q k b U with q2|q2
  exact ap.two _ _ b q.1 q2.1;exact(ci j z q2.2).trans q2.1.symm;exact q.1.trans (ci k U q.2).symm;exact q.1.trans q2.1.symm
 have f:((gs.setIfInBounds 0 g').push d).size=gs.size+1:=aY;have R:(0:Nat)≠gs.size:=ak;have cw:ny C r≠.sem:=by
  cases r with
  |zero=>show jh C.nt≠_;cases C.nt<;>simp[jh]
  |succ r=>simp[ny]
 have hc:fK C Anc AncW Fin Shun (ny C r) (up tg gs.size .recv) (up (up Tm 0 T0) gs.size T1) (λk=>if k=gs.size then O else if k=0 then X else Sn k) (up dn gs.size 0) (up (up wn 0 w) gs.size w) stored rel g' ((gs.setIfInBounds 0 g').push d) w (t++#[{g:=0,fn:=a.frame.fn,pos:=a.frame.place,act:=.go gs.size},{g:=gs.size,fn:=d.frame.fn,pos:=a.frame.place,act:=.start}]):=by
  refine⟨?_,?_,λj g0 z hg=>?_,λj z=>?_,λj z=>?_,λj z=>?_,?_,cv,λj z b v=>?_,λT Z=>?_,λq=>absurd q cw⟩;rw[il (dD V)];simp;rw[cV R,cV R,cV R,cu,cu,ay R,aH rfl,hd];exact cp;rw[jc]at hg;split at hg;rename_i e;rw[dI]at e;subst e;cases hg;rw[cu,cu,cu,cu,aH rfl];exact cm;rw[aM ak]at hg;have dm:=(ar.1 hg).1;rw[cV ak,cV ak,cV ak,cV ak,cV ak,cV ak,ay ak,ay ak];exact h.p j g0 z hg;rw[f]at z;by_cases J:j=gs.size;subst J;rw[cu];exact cF.j _ hr.h;rw[cV J,ay J];by_cases aS:j=0;subst aS;rw[cu,aH rfl];exact cF.j _ hr.h;rw[cV aS,ay aS];exact h.e j ak;rw[bO];rw[f]at z;by_cases J:j=gs.size;subst J;rw[cu];exact h.s _ (aj _);rw[cV J];exact h.o j ak;rw[bO];exact h.s j ak;have:=h.y.ab (x:={g:=0,fn:=a.frame.fn,pos:=a.frame.place,act:=.go gs.size}) (y:={g:=gs.size,fn:=d.frame.fn,pos:=a.frame.place,act:=.start}) (c:=gs.size) (S1:=X) (S2:=O) ⟨rfl,rfl⟩ ⟨rfl,rfl⟩ (by rw[h.o 0 V,hd]) (h.s _ (aj _)) (.inl rfl) a1 Y;have e:(λk=>(k=0\/(C.dT<=k/\k<gs.size))\/k=gs.size)=(λk=>k=0\/(C.dT<=k/\k<((gs.setIfInBounds 0 g').push d).size)):=by
   funext k;rw[f];exact propext ⟨λq=>ak,λq=>ak⟩
  rw[e]at this;exact this;rw[f]at z;rw[ay ak,ay ak]at v;exact h.B j ak b v;rw[f];rcases cE.1 Z with Z|Z
  have:=h.A T Z;omega;rcases(by simpa using Z:T=_\/T=_) with rfl|rfl
  show 0<_;omega;show gs.size<_;omega
 have cA:Qe C (ny C r)=C.nw-r:=by
  cases r with
  |zero=>show Qe C (jh C.nt)=_;cases C.nt<;>rfl
  |succ r=>rfl
 have cj:lS (ny C r)=false:=by
  cases r with
  |zero=>exact y9 _
  |succ r=>rfl
 have cB:EZ C (ny C r)=0:=by
  cases r with
  |zero=>show EZ C (jh C.nt)=0;rw[xZ];omega
  |succ r=>rfl
 have cG:BV C (ny C r):=by
  cases r with
  |zero=>
   show BV C (jh C.nt);cases hq:C.nt with
   |zero=>trivial
   |succ m=>show m<C.nt;omega
  |succ r=>show r<C.nw;omega
 have cW:∀q,ny C r≠.sendP q:=λq=>by
  cases r with
  |zero=>show jh C.nt≠_;cases C.nt<;>simp[jh]
  |succ r=>simp[ny]
 have a0:∀st sm n tg,qr C (ny C r) tg n st sm↔(st=(Vc C tg n+0:Nat)*KK/\sm=0/\∀i,i<n->(tg i).j=false):=λst sm n tg=>by
  cases r with
  |zero=>show qr C (jh C.nt) tg n st sm↔_;cases C.nt<;>exact AR
  |succ r=>exact AR
 have K:∀j,j<gs.size->up tg gs.size .recv j=tg j:=λj z=>cV ak;have l':gm C (ny C r) (up tg gs.size .recv) stored rel (gs.size+1) w:=by
  refine⟨W,by rw[cA];omega,cG,λj z=>?_,by rw[cj];exact l.t,?_,λj M N=>?_,λj z=>l.F j (by omega),λ_ j M N=>?_,(λq=>by rw[cj]at q;cases q),λq e=>absurd e (cW q),(λp hp=>by rw[cB]at hp;omega),λj p M N e=>?_,λj j' p M N h3 h4 e1 e2=>?_,?_⟩;rw[K j ak];exact l.I j z;obtain⟨st,sm,M,N⟩:=l.b;obtain⟨k1,k2,k3⟩:st=(Vc C tg gs.size+1:Nat)*KK/\sm=0/\∀i,i<gs.size->(tg i).j=false:=N;refine⟨st,sm,M,(a0 _ _ _ _).2 ⟨?_,k2,λi hi=>?_⟩⟩;rw[k1];have:Vc C (up tg gs.size .recv) (gs.size+1)=Vc C tg gs.size+1:=by
   unfold Vc;simp only[sumTo];rw[sumTo_congr (g:=A3 C tg) λj z=>by unfold A3;rw[K j z]];congr 1;unfold A3;rw[cu];simp[WTag.h,WTag.e];omega
  rw[this];rcases bX i gs.size with q|q
  rw[K i q];exact k3 i q;rw[show i=gs.size by omega,cu];rfl;rcases bX j gs.size with q|q
  rw[K j q];exact l.e j M q;rw[show j=gs.size by omega,cu];exact⟨λq=>by simp[WTag.e]at q,λ_=>l.F _ (aj _)⟩;rcases bX j gs.size with q|q
  rw[K j q];exact l.u rfl j M q;rw[show j=gs.size by omega,cu];exact .inl rfl;obtain⟨e,ad⟩:=rP aY e;have:=(l.y j p M ak e).1;exact absurd this (gV _);obtain⟨e,ad⟩:=rP aY e1;have:=(l.y j p M ak e).1;exact absurd this (gV _);obtain⟨cs,M,N,h3⟩:=l.o;exact⟨cs,M,N,λp hp=>absurd (h3 p hp).1 (gV _)⟩
 have ck:H7 C (ny C r)<H7 C (.go r):=by
  cases r with
  |zero=>have:=Dx (C:=C) C.nt;show H7 C (jh C.nt)<C.nt+31+0;omega
  |succ r=>show C.nt+32+2*r<C.nt+31+2*(r+1);omega
 exact⟨_,_,ga C (ny C r) (up tg gs.size .recv) (up (up Tm 0 T0) gs.size T1) g' (gs.size+1),S,yZ ck,_,_,_,_,_,_,_,_,_,_,_,_,rfl,hc,f▸l',by rw[f]⟩
end
end Go.Eqv
