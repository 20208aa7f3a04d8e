/- Parts of the proof. -/
import Derived.Test.YtbebfliimjjohabGreatDoorM10
set_option maxRecDepth 100000
set_option maxHeartbeats 8000000
set_option linter.all false
open Go.Conc
open Go.ConcR (KK wgBlock WgAt stA smA rd wr mk)
open Go.ConcN (sumTo sumTo_congr)
namespace Go.Eqv
variable{ad:Addr}{es:Array Event}{gs gs':Array Bm}{a a' g g':Bm}{st sm:Int}{Shun:Loc->Prop}{x x':MTag}{i n r d s p:Nat}{dn dn':Nat->Nat}{Sn Sn':Nat->Nat->Prop}{rel rel':Nat->Option Nat}{stored stored' S:Nat->Prop}{Tm Tm':Nat->Tr}{wn wn':Nat->A1}{sl:Option (Nat×Nat)}{T:Tr}{t u:Trace}{w w2:A1}{C:ee}{Anc AncW Fin Next:gS}
section
variable{tg:Nat->WTag}{y:WTag}{v:Bg}
def jL:Nat->MTag
 |0=>.close
 |r+1=>.send r
def yV(r:Nat):Gv C (jL r)=C.nt-r:=by cases r<;>rfl
def Ac(r:Nat):mV (jL r)=false:=by cases r<;>rfl
def EH(r:Nat):Jw C (jL r)<21+r:=by cases r<;>simp[jL,Jw]
def xd(h:gu C.P true C.E (tV C AncW r) T S d g w):tP C Anc AncW Fin (jL r) T S d g w:=by cases r<;>exact h
def gM.ab(l:gM C x tg stored rel n w)(m:x=.send r\/x=.sendP r)(O:C.eu<=i)(P:i<n)(G:tg i=.recv\/tg i=.park)(ap:Ap C.L Sn w.heap.size){q:Nat}:
  gM C (jL r) (up tg i (.busy (C.nt-(r+1)))) stored rel n (w.setChan C.L.e 0 #[] false s q false):=by
 have d:∀j,(up tg i (.busy (C.nt-(r+1))) j=tg j/\j≠i)\/(j=i/\up tg i (.busy (C.nt-(r+1))) j=.busy (C.nt-(r+1))):=λj=>by
  by_cases g:j=i;subst g;exact .inr ⟨rfl,cI⟩;exact .inl ⟨dj g,g⟩
 have Q:r<C.nt:=by rcases m with rfl|rfl<;>exact l.H
 have R:Gv C x=C.nt-(r+1):=by rcases m with rfl|rfl<;>rfl
 have g:R0 C x=C.nw:=by rcases m with rfl|rfl<;>rfl
 have J:∀p,tg i≠.busy p:=by rcases G with e|e<;>rw[e]<;>simp
 refine⟨l.h,by rw[l.A,g];cases r<;>rfl,by cases r<;>simp[jL,CX];omega,λj h=>?_,⟨s,q,by rw[Ac];exact qH ap.e⟩,?_,λj a c=>?_,l.F,λ_ j a c=>?_,λh=>(by rw[Ac]at h;cases h),λW h=>(by cases r<;>cases h),λp K=>?_,λj p a c e=>?_,λj M p a c f z D E=>?_,?_⟩;rw[dj (by omega)];exact l.I j h;let ⟨st,sm,a,c⟩:=l.b
 refine⟨st,sm,by unfold WgAt at *;rw[iX ap.t];exact a,?_⟩;have f:st=(Vc C tg n+0:Nat)*KK/\sm=0/\∀i,i<n->(tg i).j=false:=by rcases m with rfl|rfl<;>exact c
 have z:st=(Vc C (up tg i (.busy (C.nt-(r+1)))) n+0:Nat)*KK/\sm=0/\∀j,j<n->(up tg i (.busy (C.nt-(r+1))) j).j=false:=by
  rw[(iJ (by rcases G with e|e<;>rw[e]<;>rfl))];exact⟨f.1,f.2.1,ED rfl λj g _=>f.2.2 j g⟩
 cases r<;>exact z;rcases d j with⟨e,_⟩|⟨rfl,e⟩
 rw[e];exact l.e j a c;rw[e];exact⟨λq=>by simp[WTag.e]at q,λ_=>(l.e j a c).2 (by rcases G with e|e<;>rw[e]<;>decide)⟩;rcases d j with⟨e,_⟩|⟨rfl,e⟩
 rw[e];exact l.u (by rcases m with rfl|rfl<;>rfl) j a c;rw[e];exact .inr (.inr ⟨_,rfl⟩);rw[yV]at K;by_cases S:p=C.nt-(r+1);exact .inr ⟨i,O,P,by rw[cI,S]⟩;rcases l.B p (by omega) with k|⟨j,T,U,b3⟩
 exact .inl k;exact .inr ⟨j,T,U,by rw[dj (λe=>by subst e;exact J p b3)];exact b3⟩;rw[yV];rcases d j with⟨v,_⟩|⟨rfl,v⟩<;>rw[v]at e
 have:=l.y j p a c e;exact⟨by omega,this.2⟩;cases e;let ⟨N,_,_,h⟩:=l.o
 exact⟨by omega,λq=>by have:=(h _ q).1;omega⟩;rcases d j with⟨e,_⟩|⟨rfl,e⟩<;>rcases d M with⟨v,_⟩|⟨rfl,v⟩<;>rw[e]at D<;>rw[v]at E
 exact l.two j M p a c f z D E;cases E;have:=(l.y j _ a c D).1;omega;cases D;have:=(l.y M _ f z E).1;omega;let ⟨N,a,c,f⟩:=l.o
 refine⟨N,by rw[iX (λe=>ap.A e.symm)];exact a,c,λp K=>?_⟩;let ⟨k1,V⟩:=f p K
 exact⟨by rw[yV];omega,V⟩
def us.e(h:us C p Next S d g w)(a:dc C.E S w w2):us C p Next S d g w2:=⟨h.1,h.2.1,h.2.2.1,λw1 b=>h.2.2.2 w1 (a.e b)⟩
def CM{j:Nat}{f h:FuncId}{k l:String}{c:Nat}(ap:Ap C.L Sn w.heap.size)(o:i<n)(p:j<n):∀a∈([{g:=i,fn:=f,pos:=k,act:=.send C.L.e s},{g:=j,fn:=h,pos:=l,act:=.recv C.L.e r c},{g:=i,fn:=f,pos:=k,act:=.sendDone C.L.e s},{g:=j,fn:=h,pos:=l,act:=.recvDone C.L.e r}]:List MemOp),NK C.L w.heap.size a/\a.g<n:=by
 intro a m;rcases(by simpa using m:a=_\/a=_\/a=_\/a=_) with rfl|rfl|rfl|rfl<;>exact⟨⟨rfl,ap.e,rfl,(by intro q;cases q),(by intro q;cases q)⟩,by assumption⟩
def J7(D:gl C Anc)(h:gr C Anc AncW Fin Shun x tg Tm Sn dn wn stored rel a gs w t)(l:gM C x tg stored rel gs.size w)(R:gs[i]?=some g)(E:0<i)(o:C.eu<=i)(V:tg i=.recv)(F:Anc (Sn i) (dn i) g (wn i))(W:x=.sendP r):
  vf C Anc AncW Fin Shun (gG C x tg Tm a gs.size) t (runT C.P (crowd gs w sl) i):=by
 have f:=(am.1 R).1;have c:=(am.1 h.j).1;have A:(i==0)=false:=by simp;omega
 have G:=D.b F w (h.e i f);subst W;obtain⟨s,q,J⟩:∃s r,w.heap[C.L.e]?=some (.chan 0 #[] false s r false):=l.t;obtain⟨K,m,rfl,v⟩:=h.u;have X:partners (gs.setIfInBounds i ph) C.L.e true=[(0,0)]:=by
  rw[partners_one (j:=0) (g:=parked m #[scase C.L.e (C.Ea (C.nt-(r+1))) C.zs] .send) (stand_get (by omega) h.j) λk z hk M=>?_];rw[offersAt_parked_send,az rfl];rfl;rcases getElem?_stand _ _ _ _ M with⟨_,rfl⟩|⟨_,M⟩
  rfl;exact h.Z D (by omega) M
 have n:=crowd_recv_meets (P:=C.P) (sl:=sl) (j:=0) R (by rw[A];exact G) J (by omega) h.j X;rw[nR,rF,finishComm_recv,finishComm_send]at n;obtain⟨S,N⟩:=(v.2.2.2 _ ((h.e 0 c).e ((h.H (i:=i) (yC.h h f (s:=s+1) (r:=q+1) (cl:=false)) 0 c) |> λk=>by rw[dj (by omega),dj (by omega)]at k;exact⟨λb o=>(k.i b o).trans ((h.e 0 c).i b o).symm,λb o=>(k.p b o).trans ((h.e 0 c).p b o).symm,fR jq.symm,rfl,rfl,rfl,k.h⟩))).2;have O:=h.ae (x':=jL r) (by cases r<;>simp[jL]) (T:=S) (a':=Conc.served m undef) (cl:=false) (s:=s+1) (r:=q+1) (by rw[K];exact xd N);have Q:(gs.setIfInBounds 0 (Conc.served m undef)).size=gs.size:=by simp
 have hd:=D.d F;have B:=O.e i (by omega);rw[dj (by omega)]at B;have U:r<C.nt:=l.H;obtain⟨T,Y⟩:=D.h F _ B (C.nt-(r+1)) (by omega);refine⟨_,_,gG C (jL r) (up tg i (.busy (C.nt-(r+1)))) (up (up Tm 0 S) i T) (Conc.served m undef) gs.size,n,Aa (EH r),_,_,_,_,_,_,_,_,_,_,_,_,rfl,(O.I (i:=i) (y:=.busy (C.nt-(r+1))) (T:=T) (g':=Conc.served g (recvd true (C.Ea (C.nt-(r+1))) true)) (by omega) E (l:=[{g:=0,fn:=m.frame.fn,pos:=m.frame.place,act:=.send C.L.e s},{g:=i,fn:=g.frame.fn,pos:=g.frame.place,act:=.recv C.L.e q 0},{g:=0,fn:=m.frame.fn,pos:=m.frame.place,act:=.sendDone C.L.e s},{g:=i,fn:=g.frame.fn,pos:=g.frame.place,act:=.recvDone C.L.e q}]) (by rw[Q];exact CM O.h c f) (by rw[hd];exact Y)),by simpa using l.ab (.inr rfl) o f (.inl V) h.h,by simp[gG]⟩
end
section
variable{tg:Nat->WTag}{y:WTag}{v:Bg}
def Y6(n:gl C Anc)(h:gr C Anc AncW Fin Shun x tg Tm Sn dn wn stored rel a gs w t)(g:stepG C.P true a w=.go a' w2 es){S':Nat->Prop}(d:tP C Anc AncW Fin x' T S' (deafBehind (dn 0) es) a' w2)(p:yC C (Sn 0) S' w w2)(l:TI C.L Shun (C.eu<=·) (λk=>k=0\/(C.eu<=k/\k<gs.size)) (up Sn 0 S') stored rel w2.heap.size (t++MemOp.ofEvents 0 a.frame.fn a.frame.place es))(m:gM C x' tg stored rel gs.size w2)(q:x'=.sem->WgAt C.ty C.L.b w2 0 1->a'.status=.running)(u:Lt (gG C x' tg (up Tm 0 T) a' gs.size) (gG C x tg Tm a gs.size)):vf C Anc AncW Fin Shun (gG C x tg Tm a gs.size) t (runT C.P (crowd gs w sl) 0):=by
 have c:=(am.1 h.j).1;obtain⟨s,r,f⟩:=m.t;have v:(∃s r,w2.heap[C.L.e]?=some (.chan 0 #[] false s r false))\/∀i,i<gs.size->tg i≠.park:=by
  cases hcl:mV x' with
  |false=>rw[hcl]at f;exact .inl ⟨s,r,f⟩
  |true=>exact .inr (m.J hcl)
 refine⟨_,_,_,(runT_crowd_go (P:=C.P) (sl:=sl) (i:=0) h.j g),u,_,_,_,_,_,_,_,_,_,_,_,_,rfl,h.ac (gs':=(gs.map (woken C.P a a' w2)).setIfInBounds 0 a') (by simp) (by rw[bi (by simpa using c)]) (λj y z A=>h.ab n v j y z (by omega) A) d p (zI _ es (h.o 0 c)) l (λD B=>?_) q,by simpa using m,by simp⟩;obtain⟨e,_,rfl⟩:=Conc.mem_ofEvents B;exact c
def YU(a:0<n)(b:∀r,x≠.sendP r){p:Nat×Tr}(e:N6 tg x' (up Tm 0 T) 0=p)(h:VK p (1,Tm 0)):ZG VK n (N6 tg x' (up Tm 0 T)) (N6 tg x Tm):=by
 refine⟨0,a,?_,λj c=>?_⟩;rw[e];have:N6 tg x Tm 0=(1,Tm 0):=by
  unfold N6;rw[az rfl];cases x<;>first|rfl|exact absurd rfl (b _)
 rw[this];exact h;rw[CF (by omega),CF (by omega),dj c]
def J6(v:gl C Anc)(h:gr C Anc AncW Fin Shun x tg Tm Sn dn wn stored rel a gs w t)(l:gM C x tg stored rel gs.size w){Stop:gS}{f:A1->Tr}(k:Tm 0=.node f)(y:gu C.P true C.E Stop (.node f) (Sn 0) (dn 0) a (wn 0))(o:∀r,x≠.sendP r)(m:x≠.sem)(z:∀T S d g w,gu C.P true C.E Stop T S d g w->tP C Anc AncW Fin x T S d g w):vf C Anc AncW Fin Shun (gG C x tg Tm a gs.size) t (runT C.P (crowd gs w sl) 0):=by
 have c:=(am.1 h.j).1;have s:=h.e 0 c;obtain⟨g',w2,es,n,b,A⟩:=y.2 w s;refine Y6 (x':=x) (T:=f w) v h n (z _ _ _ _ _ A) (b.e h.h s.h) (h.al (λ_=>rfl) (.inl rfl) l.h (λq=>by have:=l.h;omega) b _ _) (l.ac (b.h _ h.h.h (h.h.x 0)) (b.h _ h.h.e (h.h.w 0)) (b.h _ h.h.i (h.h.u 0))) (λq=>absurd q m) ?_;refine rj rfl (YU c o (p:=(1,f w)) ?_ (by rw[k];exact yX ⟨f,w,rfl,rfl⟩));unfold N6;rw[az rfl,cI];cases x<;>first|rfl|exact absurd rfl (o _)
def gM.Z(l:gM C x tg stored rel n w)(d:R0 C x'=R0 C x)(f:CX C x')(hc:mV x'=mV x)(a:Gv C x'=Gv C x)(c:∀r,x'=.sendP r->∀i,i<n->tg i≠.park)(g:w2.heap[C.L.e]?=w.heap[C.L.e]?)(j:w2.heap[C.L.h]?=w.heap[C.L.h]?)(k:∃st sm,WgAt C.ty C.L.b w2 st sm/\rx C x' tg n st sm):gM C x' tg stored rel n w2:=
 ⟨l.h,by rw[d];exact l.A,f,l.I,by rw[g,hc];exact l.t,k,l.e,l.F,by rw[hc];exact l.u,by rw[hc];exact l.J,c,by rw[a];exact l.B,by rw[a];exact l.y,l.two,by rw[j,a];exact l.o⟩
def mz(A:gl C Anc)(h:gr C Anc AncW Fin Shun x tg Tm Sn dn wn stored rel a gs w t)(l:gM C x tg stored rel gs.size w)(m:stepG C.P true a w=.go a' w2 es)(hd:dn 0=1)(n:es=#[rd (stA C.L.b),wr (stA C.L.b)]\/es=#[rd (stA C.L.b)]\/es=#[wr (stA C.L.b)]\/es=semEvents (smA C.L.b)\/es=#[])(o:w2=w\/∃u,w2=w.setCell (stA C.L.b) (.int .u64 u)\/w2=w.setCell (smA C.L.b) (.int .u32 u))(g:tP C Anc AncW Fin x' T (Sn 0) 1 a' w2)(B:R0 C x'=R0 C x)(D:CX C x')(hc:mV x'=mV x)(E:Gv C x'=Gv C x)(p:∀r,x'≠.sendP r)(s:∃st sm,WgAt C.ty C.L.b w2 st sm/\rx C x' tg gs.size st sm)(v:x'=.sem->WgAt C.ty C.L.b w2 0 1->a'.status=.running)(F:Lt (gG C x' tg (up Tm 0 T) a' gs.size) (gG C x tg Tm a gs.size)):
  vf C Anc AncW Fin Shun (gG C x tg Tm a gs.size) t (runT C.P (crowd gs w sl) 0):=by
 have d:=(am.1 h.j).1;have z:=h.e 0 d;have f:(∀e∈es,(∃ad:Addr,ad.block=C.L.b/\e.loc=.cell ad/\e.sync=true)\/(e.loc=.mark .disable\/e.loc=.mark .enable))/\(∀k,k<=es.size->1<=deafBehind 1 (es.extract 0 k))/\deafBehind 1 es=1:=by
  rcases n with q|q|q|q|rfl
  exact pD (.inl q);exact pD (.inr (.inl q));exact pD (.inr (.inr (.inl q)));exact pD (.inr (.inr (.inr q)));exact⟨λe G=>by simp at G,λk v=>by rw[show k=0 by simpa using v];exact aa 1,rfl⟩
 obtain⟨st,sm,i,_⟩:=l.b;have c:yC C (Sn 0) (Sn 0) w w2/\w2.heap.size=w.heap.size/\w2.heap[C.L.e]?=w.heap[C.L.e]?/\w2.heap[C.L.h]?=w.heap[C.L.h]?:=by
  rcases o with rfl|⟨u,rfl|rfl⟩
  exact⟨yC.e h d,rfl,rfl,rfl⟩;exact⟨yC.j h.h (Mh z.h h.h i u).1 (.inl rfl),sd _ _ _,jd _ _ _ (λe=>h.h.t e.symm),jd _ _ _ (λe=>h.h.y e.symm)⟩;exact⟨yC.j h.h (Mh z.h h.h i u).2 (.inl rfl),sd _ _ _,jd _ _ _ (λe=>h.h.t e.symm),jd _ _ _ (λe=>h.h.y e.symm)⟩
 refine Y6 (x':=x') (T:=T) (S':=Sn 0) A h m (by rw[hd,f.2.2];exact g) c.1 ?_ (l.Z B D hc E (λr q=>absurd q (p r)) c.2.2.1 c.2.2.2 s) v F;rw[jN];exact h.ag l.h (.inl rfl) d (by omega) f.1 (by rw[hd];exact f.2.1) c.2.1 _ _
def OR(i:gl C Anc)(k:C.nw<2147483647)(h:gr C Anc AncW Fin Shun x tg Tm Sn dn wn stored rel a gs w t)(l:gM C x tg stored rel gs.size w)(m:x=.add r)(n:Next=qr C Anc (nM C Anc AncW r))(d:Cr C Next (Sn 0) (dn 0) a (wn 0)):
  vf C Anc AncW Fin Shun (gG C x tg Tm a gs.size) t (runT C.P (crowd gs w sl) 0):=by
 have f:=(am.1 h.j).1;subst m n;let ⟨st,sm,c,o⟩:=l.b
 obtain⟨rfl,rfl,p⟩:st=(Vc C tg gs.size+0:Nat)*KK/\sm=0/\_:=o;have u:=Mk l;let ⟨hd,_,d⟩:=d
 let ⟨g',g,T,s⟩:=d w (h.e 0 f) (Vc C tg gs.size) (by omega) c
 exact mz (x':=.go r) (T:=T) i h l g hd (.inl rfl) (.inr ⟨_,.inl rfl⟩) s rfl l.H rfl rfl (by simp) ⟨_,_,c.setSt _,by exact⟨by simp[Ep],rfl,p⟩⟩ (λq=>by cases q) (Aa (by simp[Jw]))
def SG(m:gl C Anc)(o:C.nw<2147483647)(h:gr C Anc AncW Fin Shun x tg Tm Sn dn wn stored rel a gs w t)(l:gM C x tg stored rel gs.size w)(p:x=.w1)(g:Ge C AncW Fin (Sn 0) (dn 0) a (wn 0)):
  vf C Anc AncW Fin Shun (gG C x tg Tm a gs.size) t (runT C.P (crowd gs w sl) 0):=by
 have i:=(am.1 h.j).1;subst p;let ⟨st,sm,c,r⟩:=l.b
 obtain⟨rfl,rfl,n⟩:st=(Vc C tg gs.size+0:Nat)*KK/\sm=0/\_:=r;have u:=Mk l;let ⟨hd,_,g⟩:=g
 let ⟨g',d,h0,s⟩:=g w (h.e 0 i) (Vc C tg gs.size) (by omega) c
 by_cases f:Vc C tg gs.size=0;let ⟨T,k⟩:=h0 f
 exact mz (x':=.acq) (T:=T) m h l d hd (.inr (.inl rfl)) (.inl rfl) k rfl aE rfl rfl (by simp) ⟨_,_,c,by exact⟨f,by simp[f],rfl,n⟩⟩ (λq=>by cases q) (Aa (by simp[Jw]));let ⟨T,k⟩:=s f
 exact mz (x':=.w2 (Vc C tg gs.size)) (T:=T) m h l d hd (.inr (.inl rfl)) (.inl rfl) k rfl f rfl rfl (by simp) ⟨_,_,c,by exact⟨by simp[Ep],rfl,n⟩⟩ (λq=>by cases q) (WD (by simp[Xc]))
def SH(o:gl C Anc)(r:∀S d g w,AncW S d g w->fp C.P true C.E (Ge C AncW Fin) S d g w)(s:C.nw<2147483647)(h:gr C Anc AncW Fin Shun x tg Tm Sn dn wn stored rel a gs w t)(l:gM C x tg stored rel gs.size w){vs:Nat}(u:x=.w2 vs)(k:ZN C AncW Fin vs (Sn 0) (dn 0) a (wn 0)):
  vf C Anc AncW Fin Shun (gG C x tg Tm a gs.size) t (runT C.P (crowd gs w sl) 0):=by
 have m:=(am.1 h.j).1;subst u;let ⟨st,sm,c,v⟩:=l.b
 obtain⟨rfl,rfl,p⟩:st=(Vc C tg gs.size+0:Nat)*KK/\sm=0/\_:=v;have A:=Mk l;have y:vs≠0:=l.H;let ⟨hd,_,k⟩:=k
 let ⟨h0,z⟩:=k w (h.e 0 m) (Vc C tg gs.size) (by omega) c
 by_cases n:Vc C tg gs.size=vs;let ⟨g',f,T,i⟩:=h0 n
 exact mz (x':=.w3) (T:=T) o h l f hd (.inl rfl) (.inr ⟨_,.inl rfl⟩) i rfl aE rfl rfl (by simp) ⟨_,_,c.setSt _,.inl ⟨by omega,rfl,rfl,p⟩⟩ (λq=>by cases q) (Aa (by simp[Jw]));let ⟨g',f,i⟩:=z n
 let ⟨T,i⟩:=i.ab r
 exact mz (x':=.w1) (T:=T) o h l f hd (.inr (.inl rfl)) (.inl rfl) i rfl aE rfl rfl (by simp) ⟨_,_,c,by exact⟨by simp[Ep],rfl,p⟩⟩ (λq=>by cases q) (WD (by simp[Xc];rw[ax (λe=>n e.symm)];omega))
def GQ(r:gl C Anc)(h:gr C Anc AncW Fin Shun x tg Tm Sn dn wn stored rel a gs w t)(l:gM C x tg stored rel gs.size w)(m:x=.w3\/x=.sem)(d:VZ C Fin (Sn 0) (dn 0) a (wn 0)):
  vf C Anc AncW Fin Shun (gG C x tg Tm a gs.size) t (runT C.P (crowd gs w sl) 0):=by
 have o:=(am.1 h.j).1;let ⟨st,sm,c,n⟩:=l.b
 replace n:rx C .w3 tg gs.size st sm:=by rcases m with rfl|rfl<;>exact n
 have p:=h.e 0 o;have k:R0 C x=C.nw/\Gv C x=C.nt/\mV x=true:=by rcases m with rfl|rfl<;>exact⟨rfl,rfl,rfl⟩
 by_cases f:sm=0;subst f;have g:=(d.2.2.2 w p).1 ⟨st,c⟩;refine mz (x':=.sem) (T:=Tm 0) r h l g d.1 (.inr (.inr (.inr (.inr rfl)))) (.inl rfl) ⟨rfl,a,.inr rfl,?_⟩ k.1.symm aE k.2.2.symm k.2.1.symm (by simp) ⟨_,_,c,n⟩ (λ_ q=>absurd q (no1 c)) ?_;exact⟨rfl,d.2.1,d.2.2.1,λw1 s=>d.2.2.2 w1 (p.e s)⟩;rcases m with rfl|rfl
 exact Aa (by simp[Jw]);rw[jN];apply aeb;simp[sOf,d.2.1];obtain⟨u,rfl,rfl,v⟩:Vc C tg gs.size=0/\st=0/\sm=1/\∀i,i<gs.size->(tg i).j=false:=by
  rcases n with⟨_,_,q,_⟩|⟨_,q,_⟩|q
  exact absurd q f;exact absurd q f;exact q
 let ⟨g',g,T,y⟩:=(d.2.2.2 w p).2 c
 refine mz (x':=.w4) (T:=T) r h l g d.1 (.inr (.inr (.inr (.inl rfl)))) (.inr ⟨_,.inr rfl⟩) y k.1.symm aE k.2.2.symm k.2.1.symm (by simp) ⟨_,_,c.setSm 0,by exact⟨u,rfl,rfl,v⟩⟩ (λq=>by cases q) (Aa ?_);rcases m with rfl|rfl<;>simp[Jw]
def SI(i:gl C Anc)(h:gr C Anc AncW Fin Shun x tg Tm Sn dn wn stored rel a gs w t)(l:gM C x tg stored rel gs.size w)(k:x=.w4)(d:ZO C Fin (Sn 0) (dn 0) a (wn 0)):
  vf C Anc AncW Fin Shun (gG C x tg Tm a gs.size) t (runT C.P (crowd gs w sl) 0):=by
 have f:=(am.1 h.j).1;subst k;let ⟨st,sm,c,m⟩:=l.b
 obtain⟨n,rfl,rfl,o⟩:Vc C tg gs.size=0/\st=0/\sm=0/\_:=m;let ⟨hd,_,d⟩:=d
 let ⟨g',g,T,p⟩:=d w (h.e 0 f) c
 exact mz (x':=.acq) (T:=T) i h l g hd (.inr (.inl rfl)) (.inl rfl) p rfl aE rfl rfl (by simp) ⟨_,_,c,by exact⟨n,rfl,rfl,o⟩⟩ (λq=>by cases q) (Aa (by simp[Jw]))
end
section
variable{tg tg':Nat->WTag}{y:WTag}{v:Bg}
def gr.an(h:gr C Anc AncW Fin Shun x tg Tm Sn dn wn stored rel a gs w t)(d:x'≠.sem)(c:tP C Anc AncW Fin x' T (Sn 0) (dn 0) a' w):gr C Anc AncW Fin Shun x' tg (up Tm 0 T) Sn dn (up wn 0 w) stored rel a' (gs.setIfInBounds 0 a') w t:=by
 have b:0<gs.size:=(am.1 h.j).1;have:=h.ac (gs':=gs.setIfInBounds 0 a') (w2:=w) (u:=#[]) (T:=T) (S':=Sn 0) (d':=dn 0) (a':=a') (x':=x') (stored':=stored) (rel':=rel) (by simp) (by rw[bi b]) (λj k f g=>by rw[aN (by omega)]at g;exact g) c (yC.e h b) (λj=>?_) (by rw[jN];simpa using h.y) (λl i=>by simp at i) (λq=>absurd q d);rw[jN,jN]at this;simpa using this;simp only[Array.append_empty];by_cases f:j=0;subst f;rw[az rfl];exact h.o 0 b;rw[ax f]
def gr.V(h:gr C Anc AncW Fin Shun x tg Tm Sn dn wn stored rel a gs w t)(i:gl C Anc){j:Nat}{g0:Bm}(k:0<j)(g:gs[j]?=some g0):(tg j=.park/\dn j=0/\∃c,g0=parked c #[rcase C.L.e C.z] (.recv true)/\Anc (Sn j) 0 c (wn j))\/(tg j≠.park/\offersAt g0 C.L.e false=[]):=by
 have d:=(am.1 g).1;have f:=h.p j g0 k g;rcases f.e i (h.e j d) with⟨e,_⟩|⟨e,b|⟨q,_,b⟩⟩
 rw[e]at f;obtain⟨hd,c,rfl,l⟩:=f;exact .inl ⟨e,hd,c,rfl,l⟩;exact .inr ⟨e,offersAt_of_not_blocked (by rw[b];decide) _ _⟩;exact .inr ⟨e,offersAt_of_not_blocked (by rcases b with b|b<;>rw[b]<;>decide) _ _⟩
def J5(O:gl C Anc)(h:gr C Anc AncW Fin Shun x tg Tm Sn dn wn stored rel a gs w t)(l:gM C x tg stored rel gs.size w)(hx:x=.send r)(hN:Next=tV C AncW r)(B:us C (C.nt-(r+1)) Next (Sn 0) (dn 0) a (wn 0)):
  vf C Anc AncW Fin Shun (gG C x tg Tm a gs.size) t (runT C.P (crowd gs w sl) 0):=by
 have v:=(am.1 h.j).1;subst hx hN;have hr:=h.e 0 v;let ⟨D,_⟩:=B.2.2.2 w hr
 let ⟨s,q,F⟩:∃s r,w.heap[C.L.e]?=some (.chan 0 #[] false s r false):=l.t
 by_cases R:partners (gs.setIfInBounds 0 ph) C.L.e false=[];have c:=crowd_waits (P:=C.P) (sl:=sl) h.j D (λcc S=>by
  obtain rfl:cc=scase C.L.e (C.Ea (C.nt-(r+1))) C.zs:=by simpa using S
  exact ways_send_none F (aa _) R)
 rw[nR]at c;have hc:=h.an (x':=.sendP r) (by simp) (T:=.leaf) (a':=parked a #[scase C.L.e (C.Ea (C.nt-(r+1))) C.zs] .send) ⟨B.1,a,rfl,by have:=B.e hr;rw[B.1]at this;exact this⟩;have np:∀i,i<gs.size->tg i≠.park:=λi hi e=>by
  have U:0<i:=D9 λq=>by subst q;let ⟨_,k⟩:=l.I 0 l.h;rw[k]at e;cases e
  rcases h.V O U (bj hi) with⟨_,_,n,f,_⟩|⟨k,_⟩
  have:(i,0)∈partners (gs.setIfInBounds 0 ph) C.L.e false:=mem_partners.2 ⟨_,stand_get (by omega) (bj hi),by rw[f,offersAt_parked_recv,az rfl];simp⟩;rw[R]at this;cases this;exact k e
 have l':gM C (.sendP r) tg stored rel gs.size w:=l.Z rfl l.H rfl rfl (λ_ _=>np) rfl rfl l.b;refine⟨_,_,gG C (.sendP r) tg (up Tm 0 .leaf) (parked a #[scase C.L.e (C.Ea (C.nt-(r+1))) C.zs] .send) gs.size,c,acf (YU v (by simp) (p:=(0,.leaf)) rfl (kg (by decide))),_,_,_,_,_,_,_,_,_,_,_,_,rfl,by simpa using hc,by simpa using l',by simp[gG]⟩;let ⟨j,Q,G,o,d,m,hj,c⟩:=crowd_send_meets_some (P:=C.P) (sl:=sl) h.j D F R (λj k W=>by
  let ⟨n,f,J⟩:=mem_partners.1 W
  rcases getElem?_stand _ _ _ _ f with⟨_,rfl⟩|⟨m,f⟩
  cases J;rcases h.V O (D9 m) f with⟨_,_,g2,rfl,_⟩|⟨_,q⟩
  rw[offersAt_parked_recv,az rfl]at J;exact⟨by simpa using J,m,_,_,_,f⟩;rw[q]at J;cases J)
 have K:0<j:=D9 m;have u:=(am.1 hj).1;let ⟨M,X,n,Y,hn⟩:=(h.V O K hj).resolve_right λk=>by have:=k.2;rw[offersAt_parked_recv,az rfl]at this;cases this
 have ad:C.eu<=j:=Nat.le_of_not_lt λq=>by let ⟨_,k⟩:=l.I j q;rw[M]at k;cases k
 have e1:(#[rcase C.L.e G],o)=(#[rcase C.L.e C.z],CommShape.recv true):=aZ (bY Goroutine.offers Y);have e2:Q.frame=n.frame:=by show (parked Q #[rcase C.L.e G] o).frame=_;rw[Y];rfl
 have e3:Q.finishComm C.P #[rcase C.L.e G] o 0 (C.Ea (C.nt-(r+1))) true=Conc.served n (recvd true (C.Ea (C.nt-(r+1))) true):=by
  rw[<-finishComm_parked C.P Q #[rcase C.L.e G] #[rcase C.L.e G] o o,Y,finishComm_parked,(Prod.mk.inj e1).2,finishComm_recv]
 rw[nR,rF,finishComm_send,e2,e3]at c;have aI:dc C.E (Sn 0) (wn 0) ((w.at d).setChan C.L.e 0 #[] false (s+1) (q+1) false):=by
  have k:=h.at d;have:=k.H (i:=j) (yC.h k u (s:=s+1) (r:=q+1) (cl:=false)) 0 v;rw[dj (by omega),dj (by omega)]at this;exact this
 let ⟨T0,aS⟩:=(B.2.2.2 _ aI).2
 have hM:=(h.at d).ae (x':=jL r) (by cases r<;>simp[jL]) (T:=T0) (a':=Conc.served a undef) (cl:=false) (s:=s+1) (r:=q+1) (by rw[B.1];exact xd aS);have a0:(gs.setIfInBounds 0 (Conc.served a undef)).size=gs.size:=by simp
 have N:=hM.e j (by omega);rw[dj m]at N;have a1:r<C.nt:=l.H;let ⟨T,hT⟩:=O.h hn _ N (C.nt-(r+1)) (by omega)
 have hW:=hM.I (i:=j) (y:=.busy (C.nt-(r+1))) (T:=T) (g':=Conc.served n (recvd true (C.Ea (C.nt-(r+1))) true)) (by omega) K (l:=[{g:=0,fn:=a.frame.fn,pos:=a.frame.place,act:=.send C.L.e s},{g:=j,fn:=n.frame.fn,pos:=n.frame.place,act:=.recv C.L.e q 0},{g:=0,fn:=a.frame.fn,pos:=a.frame.place,act:=.sendDone C.L.e s},{g:=j,fn:=n.frame.fn,pos:=n.frame.place,act:=.recvDone C.L.e q}]) (by rw[a0];exact CM hM.h v u) (by rw[X];exact hT);have A:(gs.setIfInBounds j (Conc.served n (recvd true (C.Ea (C.nt-(r+1))) true))).setIfInBounds 0 (Conc.served a undef)=(gs.setIfInBounds 0 (Conc.served a undef)).setIfInBounds j (Conc.served n (recvd true (C.Ea (C.nt-(r+1))) true)):=by
  rw[VI _ _ (λe=>m e)]
 rw[A]at c;refine⟨_,_,gG C (jL r) (up tg j (.busy (C.nt-(r+1)))) (up (up Tm 0 T0) j T) (Conc.served a undef) gs.size,c,Aa (EH r),_,_,_,_,_,_,_,_,_,_,_,_,rfl,hW,by simpa using (l.at d).ab (.inl rfl) ad u (.inr M) (h.at d).h,by simp[gG]⟩
end
section
variable{tg tg':Nat->WTag}{y:WTag}{v:Bg}
def WTag.H:WTag->WTag
 |.park=>.woke
 |y=>y
def EW(y:WTag):y.H.h=y.h:=by cases y<;>rfl
def O0(y:WTag):y.H.j=y.j:=by cases y<;>rfl
def tu{y:WTag}:y.H=.busy p↔y=.busy p:=by cases y<;>simp[WTag.H]
def C8(y:WTag):(y.H.e<=5↔y.e<=5)/\(6<=y.H.e↔6<=y.e):=by cases y<;>simp[WTag.H,WTag.e]
def GO(hA:gl C Anc)(hW:∀S d g w,AncW S d g w->fp C.P true C.E (Ge C AncW Fin) S d g w)(h:gr C Anc AncW Fin Shun x tg Tm Sn dn wn stored rel a gs w t)(l:gM C x tg stored rel gs.size w)(hx:x=.close)(U:vt C AncW (Sn 0) (dn 0) a (wn 0)):
  vf C Anc AncW Fin Shun (gG C x tg Tm a gs.size) t (runT C.P (crowd gs w sl) 0):=by
 have f:=(am.1 h.j).1;subst hx;have hr:=h.e 0 f;let ⟨s,q,V⟩:∃s r,w.heap[C.L.e]?=some (.chan 0 #[] false s r false):=l.t
 let ⟨hd,_,W,U⟩:=U
 let ⟨g',X,Y,hG⟩:=U w hr s q V
 let ⟨T,hT⟩:=hG.ab hW
 have J:=runT_crowd_go (P:=C.P) (sl:=sl) (i:=0) h.j X;have ap:=h.h;have D:(w.setChan C.L.e 0 #[] true s q false).heap[C.L.e]?=some (.chan 0 #[] true s q false):=qH ap.e;have Z:=yC.h h f (s:=s) (r:=q) (cl:=true);have hc:gr C Anc AncW Fin Shun .w1 (λj=>(tg j).H) (up Tm 0 T) Sn dn (up wn 0 (w.setChan C.L.e 0 #[] true s q false)) stored rel g' ((gs.map (woken C.P a g' (w.setChan C.L.e 0 #[] true s q false))).setIfInBounds 0 g') (w.setChan C.L.e 0 #[] true s q false) (t++MemOp.ofEvents 0 a.frame.fn a.frame.place #[⟨.obj C.L.e,false,true⟩,⟨.obj C.L.e,true,true⟩]):=by
  have K:=zI (fn:=a.frame.fn) a.frame.place #[⟨.obj C.L.e,false,true⟩,⟨.obj C.L.e,true,true⟩] (h.o 0 f);refine⟨by rw[bi (by simpa using f)],?_,λj g0 c hg=>?_,λj c=>?_,λj c=>?_,λj c=>?_,?_,by rw[jq];exact ap,λj c=>h.B j (by simpa using c),λM m=>?_,(λq=>by cases q)⟩;rw[cI,cI,hd];exact hT;rw[aN (by omega),cD]at hg;obtain⟨y,G,rfl⟩:=bV.1 hg;have N:=h.p j y c G;have O:=(am.1 G).1;rw[dj (by omega),dj (by omega)];rcases N.e hA (h.e j O) with⟨e,_⟩|⟨e,_⟩
  rw[e]at N⊢;obtain⟨ad,g1,rfl,hn⟩:=N;refine⟨ad,g1,?_,hn⟩;unfold woken;rw[az (by rw[W,Y];rfl),again_recv_closed D];rw[N.h hA (h.e j O) (s:=0) (r:=0) λq=>absurd q e];have:(tg j).H=tg j:=by
   revert e;cases tg j<;>simp[WTag.H]
  rw[this];exact N;have:=h.H Z j (by simpa using c);rw[jN]at this;exact this;rw[K j];by_cases Q:j=0;subst Q;rw[az rfl];exact deafBehind_still (λe he=>by rcases(by simpa using he:e=_\/e=_) with rfl|rfl<;>simp) _;rw[ax Q];exact h.o j (by simpa using c);have:gs.size<=j:=by simpa using c
  rw[K j,ax (by omega)];exact h.s j this
  .have R:=h.y.j ap (u:=MemOp.ofEvents 0 a.frame.fn a.frame.place #[⟨.obj C.L.e,false,true⟩,⟨.obj C.L.e,true,true⟩]) (k:=0) (B':=(w.setChan C.L.e 0 #[] true s q false).heap.size) (S':=Sn 0) (nw:=λ_=>False) (.inl rfl) (λM m=>by obtain⟨e,_,rfl⟩:=Conc.mem_ofEvents m;rfl) (λM m y G hm=>?_) (λ_ q=>q.elim) (λb hb=>.inl hb) (λb hb=>hb) (fR jq.symm) (λM m=>?_) (λhk=>by have:=l.h;omega) (λM m=>?_) (λq=>absurd rfl q);rw[EU,xl,jN]at R;simpa using R;all_goals (obtain⟨e,he,rfl⟩:=Conc.mem_ofEvents m)
   all_goals (rcases(by simpa using he:e=_\/e=_) with rfl|rfl)
   simp only[MemAct.ofEvent,MemAct.touch?,aW]at G;subst G;exact .inr (.inr (.inr (.inr (.inl ⟨rfl,rfl⟩))));simp[MemAct.ofEvent,MemAct.touch?]at G;show C.L.e<_;rw[jq];exact ap.e;show C.L.e<_;rw[jq];exact ap.e;rfl;rfl
  simp only[dT,eR];rcases cN.1 m with m|m
  exact h.A M m;obtain⟨e,_,rfl⟩:=Conc.mem_ofEvents m;exact f
 have hV:∀n,Vc C (λj=>(tg j).H) n=Vc C tg n:=λn=>sumTo_congr λj _=>by unfold BV;rw[EW]
 have l':gM C .w1 (λj=>(tg j).H) stored rel gs.size (w.setChan C.L.e 0 #[] true s q false):=by
  refine⟨l.h,l.A,aE,λj c=>?_,⟨s,q,D⟩,?_,λj v z=>?_,l.F,(λq=>by cases q),λ_ j c e=>?_,(λr q=>by cases q),λp hp=>?_,λj p v z e=>l.y j p v z (tu.1 e),λj j' p v z h3 h4 e1 e2=>l.two j j' p v z h3 h4 (tu.1 e1) (tu.1 e2),?_⟩;let ⟨q,hq⟩:=l.I j c
  exact⟨q,by rw[hq];rfl⟩;let ⟨st,sm,v,z⟩:=l.b
  refine⟨st,sm,by unfold WgAt at *;rw[iX ap.t];exact v,?_⟩;let ⟨k1,k2,k3⟩:st=(Vc C tg gs.size+0:Nat)*KK/\sm=0/\∀i,i<gs.size->(tg i).j=false:=z
  exact⟨by rw[hV];exact k1,k2,λi hi=>by rw[O0];exact k3 i hi⟩;have:=l.e j v z;exact⟨λq=>this.1 ((C8 _).1.1 q),λq=>this.2 ((C8 _).2.1 q)⟩;revert e;cases tg j<;>simp[WTag.H];rcases l.B p hp with q|⟨j,b1,b2,b3⟩
  exact .inl q;exact .inr ⟨j,b1,b2,tu.2 b3⟩;let ⟨cs,v,z⟩:=l.o
  exact⟨cs,by rw[iX (λe=>ap.A e.symm)];exact v,z⟩
 exact⟨_,_,gG C .w1 (λj=>(tg j).H) (up Tm 0 T) g' gs.size,J,Aa (by simp[Jw]),_,_,_,_,_,_,_,_,_,_,_,_,rfl,hc,by simpa using l',by simp[gG]⟩
def oM(C:ee):Nat->MTag
 |0=>jL C.nt
 |r+1=>.add r
def Om(h:nM C Anc AncW r S d g w):∃T,tP C Anc AncW Fin (oM C r) T S d g w:=by
 cases r with
 |zero=>let ⟨T,a⟩:=h;exact⟨T,xd a⟩
 |succ r=>exact h
def GP(h:gr C Anc AncW Fin Shun x tg Tm Sn dn wn stored rel a gs w t)(l:gM C x tg stored rel gs.size w)(hx:x=.go r)(hN:Next=nM C Anc AncW r)(hS:qr C Anc Next (Sn 0) (dn 0) a (wn 0)):
  vf C Anc AncW Fin Shun (gG C x tg Tm a gs.size) t (runT C.P (crowd gs w sl) 0):=by
 have V:=(am.1 h.j).1;subst hx hN;have hr:=h.e 0 V;have co:r<C.nw:=l.H;have cp:gs.size=C.eu+(C.nw-(r+1)):=l.A;have W:=l.h;obtain⟨hd,_,hS⟩:=hS;obtain⟨g',d,X,O,bR,ct,a0,Y,a1,⟨T1,b1⟩,b2⟩:=hS w hr;obtain⟨T0,cb⟩:=Om (Fin:=Fin) b2;have S:=runT_crowd_spawn (P:=C.P) (sl:=sl) (i:=0) h.j bR;rw[nR]at S;have ap:=h.h;have cc:∀T∈([{g:=0,fn:=a.frame.fn,pos:=a.frame.place,act:=.go gs.size},{g:=gs.size,fn:=d.frame.fn,pos:=a.frame.place,act:=.start}]:List MemOp),NK C.L w.heap.size T:=λT Z=>by
  rcases(by simpa using Z:T=_\/T=_) with rfl|rfl<;>exact⟨rfl,aE,rfl,(by intro q;cases q),(by intro q;cases q)⟩
 have ba:∀j,Deaf (t++#[{g:=0,fn:=a.frame.fn,pos:=a.frame.place,act:=.go gs.size},{g:=gs.size,fn:=d.frame.fn,pos:=a.frame.place,act:=.start}]) j=Deaf t j:=λj=>un j _ t cc;have Q:∀k b,(if k=gs.size then O else if k=0 then X else Sn k) b->(Sn k b/\k≠gs.size)\/(k=gs.size/\O b):=λk b v=>by
  by_cases U:k=gs.size;rw[az U]at v;exact .inr ⟨U,v⟩;rw[ax U]at v;by_cases bc:k=0;subst bc;rw[az rfl]at v;exact .inl ⟨a0 b v,U⟩;rw[ax bc]at v;exact .inl ⟨v,U⟩
 have D:∀k b,(if k=gs.size then O else if k=0 then X else Sn k) b->Sn k b\/Sn 0 b:=λk b v=>(Q k b v).imp (·.1) λq=>Y b q.2;have cd:Ap C.L (λk=>if k=gs.size then O else if k=0 then X else Sn k) w.heap.size:=by
  refine⟨λk b v=>(D k b v).elim (ap.p _ b) (ap.p _ b),λk b v=>(D k b v).elim (ap.s _ b) (ap.s _ b),λk v=>(D k _ v).elim (ap.x _) (ap.x _),λk v=>(D k _ v).elim (ap.w _) (ap.w _),λk v=>(D k _ v).elim (ap.u _) (ap.u _),λj k b z U=>?_,ap.I,ap.H,ap.C,ap.t,ap.y,ap.A,ap.o,ap.h,ap.e,ap.i⟩;have bg:∀j,(if j=gs.size then O else if j=0 then X else Sn j) b->O b->j=gs.size:=λj z N=>by
   rcases Q j b z with⟨q,ad⟩|q
   have:j=0:=ap.two _ _ b q (Y b N);subst this;rw[ax ad,az rfl]at z;exact absurd N (a1 b z);exact q.1
  rcases Q j b z with q|q<;>rcases Q k b U with q2|q2
  exact ap.two _ _ b q.1 q2.1;exact(bg j z q2.2).trans q2.1.symm;exact q.1.trans (bg k U q.2).symm;exact q.1.trans q2.1.symm
 have f:((gs.setIfInBounds 0 g').push d).size=gs.size+1:=by simp
 have R:(0:Nat)≠gs.size:=by omega
 have ce:oM C r≠.sem:=by
  cases r with
  |zero=>show jL C.nt≠_;cases C.nt<;>simp[jL]
  |succ r=>simp[oM]
 have hc:gr C Anc AncW Fin Shun (oM C r) (up tg gs.size .recv) (up (up Tm 0 T0) gs.size T1) (λk=>if k=gs.size then O else if k=0 then X else Sn k) (up dn gs.size 0) (up (up wn 0 w) gs.size w) stored rel g' ((gs.setIfInBounds 0 g').push d) w (t++#[{g:=0,fn:=a.frame.fn,pos:=a.frame.place,act:=.go gs.size},{g:=gs.size,fn:=d.frame.fn,pos:=a.frame.place,act:=.start}]):=by
  refine⟨?_,?_,λj g0 z hg=>?_,λj z=>?_,λj z=>?_,λj z=>?_,?_,cd,λj z b v=>?_,λT Z=>?_,λq=>absurd q ce⟩;rw[iS (by simpa using V)];simp;rw[dj R,dj R,dj R,cI,cI,ax R,az rfl,hd];exact cb;rw[jK]at hg;split at hg;rename_i e;rw[dT]at e;subst e;cases hg;rw[cI,cI,cI,cI,az rfl];exact b1;rw[aN (by omega)]at hg;have cv:=(am.1 hg).1;rw[dj (by omega),dj (by omega),dj (by omega),dj (by omega),dj (by omega),dj (by omega),ax (by omega),ax (by omega)];exact h.p j g0 z hg;rw[f]at z;by_cases J:j=gs.size;subst J;rw[cI];exact dc.H _ hr.h;rw[dj J,ax J];by_cases aI:j=0;subst aI;rw[cI,az rfl];exact dc.H _ hr.h;rw[dj aI,ax aI];exact h.e j (by omega);rw[ba];rw[f]at z;by_cases J:j=gs.size;subst J;rw[cI];exact h.s _ (aa _);rw[dj J];exact h.o j (by omega);rw[ba];exact h.s j (by omega);have:=h.y.ab (x:={g:=0,fn:=a.frame.fn,pos:=a.frame.place,act:=.go gs.size}) (y:={g:=gs.size,fn:=d.frame.fn,pos:=a.frame.place,act:=.start}) (c:=gs.size) (S1:=X) (S2:=O) ⟨rfl,rfl⟩ ⟨rfl,rfl⟩ (by rw[h.o 0 V,hd]) (h.s _ (aa _)) (.inl rfl) a0 Y;have e:(λk=>(k=0\/(C.eu<=k/\k<gs.size))\/k=gs.size)=(λk=>k=0\/(C.eu<=k/\k<((gs.setIfInBounds 0 g').push d).size)):=by
   funext k;rw[f];exact propext ⟨λq=>by omega,λq=>by omega⟩
  rw[e]at this;exact this;rw[f]at z;rw[ax (by omega),ax (by omega)]at v;exact h.B j (by omega) b v;rw[f];rcases cN.1 Z with Z|Z
  have:=h.A T Z;omega;rcases(by simpa using Z:T=_\/T=_) with rfl|rfl
  show 0<_;omega;show gs.size<_;omega
 have cg:R0 C (oM C r)=C.nw-r:=by
  cases r with
  |zero=>show R0 C (jL C.nt)=_;cases C.nt<;>rfl
  |succ r=>rfl
 have bK:mV (oM C r)=false:=by
  cases r with
  |zero=>exact Ac _
  |succ r=>rfl
 have ci:Gv C (oM C r)=0:=by
  cases r with
  |zero=>show Gv C (jL C.nt)=0;rw[yV];omega
  |succ r=>rfl
 have ck:CX C (oM C r):=by
  cases r with
  |zero=>
   show CX C (jL C.nt);cases hq:C.nt with
   |zero=>trivial
   |succ m=>show m<C.nt;omega
  |succ r=>show r<C.nw;omega
 have cl:∀q,oM C r≠.sendP q:=λq=>by
  cases r with
  |zero=>show jL C.nt≠_;cases C.nt<;>simp[jL]
  |succ r=>simp[oM]
 have aS:∀st sm n tg,rx C (oM C r) tg n st sm↔(st=(Vc C tg n+0:Nat)*KK/\sm=0/\∀i,i<n->(tg i).j=false):=λst sm n tg=>by
  cases r with
  |zero=>show rx C (jL C.nt) tg n st sm↔_;cases C.nt<;>exact BM
  |succ r=>exact BM
 have K:∀j,j<gs.size->up tg gs.size .recv j=tg j:=λj z=>dj (by omega);have l':gM C (oM C r) (up tg gs.size .recv) stored rel (gs.size+1) w:=by
  refine⟨W,by rw[cg];omega,ck,λj z=>?_,by rw[bK];exact l.t,?_,λj M N=>?_,λj z=>l.F j (by omega),λ_ j M N=>?_,(λq=>by rw[bK]at q;cases q),λq e=>absurd e (cl q),(λp hp=>by rw[ci]at hp;omega),λj p M N e=>?_,λj j' p M N h3 h4 e1 e2=>?_,?_⟩;rw[K j (by omega)];exact l.I j z;obtain⟨st,sm,M,N⟩:=l.b;obtain⟨k1,k2,k3⟩:st=(Vc C tg gs.size+1:Nat)*KK/\sm=0/\∀i,i<gs.size->(tg i).j=false:=N;refine⟨st,sm,M,(aS _ _ _ _).2 ⟨?_,k2,λi hi=>?_⟩⟩;rw[k1];have:Vc C (up tg gs.size .recv) (gs.size+1)=Vc C tg gs.size+1:=by
   unfold Vc;simp only[sumTo];rw[sumTo_congr (g:=BV C tg) λj z=>by unfold BV;rw[K j z]];congr 1;unfold BV;rw[cI];simp[WTag.h,WTag.e];omega
  rw[this];rcases cz i gs.size with q|q
  rw[K i q];exact k3 i q;rw[show i=gs.size by omega,cI];rfl;rcases cz j gs.size with q|q
  rw[K j q];exact l.e j M q;rw[show j=gs.size by omega,cI];exact⟨λq=>by simp[WTag.e]at q,λ_=>l.F _ (aa _)⟩;rcases cz j gs.size with q|q
  rw[K j q];exact l.u rfl j M q;rw[show j=gs.size by omega,cI];exact .inl rfl;obtain⟨e,ad⟩:=sX (by simp) e;have:=(l.y j p M (by omega) e).1;exact absurd this (jt _);obtain⟨e,ad⟩:=sX (by simp) e1;have:=(l.y j p M (by omega) e).1;exact absurd this (jt _);obtain⟨cs,M,N,h3⟩:=l.o;exact⟨cs,M,N,λp hp=>absurd (h3 p hp).1 (jt _)⟩
 have bO:Jw C (oM C r)<Jw C (.go r):=by
  cases r with
  |zero=>have:=EH (C:=C) C.nt;show Jw C (jL C.nt)<C.nt+31+0;omega
  |succ r=>show C.nt+32+2*r<C.nt+31+2*(r+1);omega
 exact⟨_,_,gG C (oM C r) (up tg gs.size .recv) (up (up Tm 0 T0) gs.size T1) g' (gs.size+1),S,Aa bO,_,_,_,_,_,_,_,_,_,_,_,_,rfl,hc,by rw[f];exact l',by rw[f]⟩
end
end Go.Eqv
