/- Parts of the proof. -/
import Derived.Test.YtbebfliimjjohabGreatDoorM12
import Derived.Test.YtbebfliimjjohabGreatDoorRows
set_option maxRecDepth 100000
set_option maxHeartbeats 8000000
set_option linter.all false
open Go.Proofs.Tryz
open Go.Conc Go.ConcN Go.RowKit Go.Conc.Lib Go.ConcR.Gen Go.ConcM Go.ConcN.Gen Go.Proofs
open Go.ConcR (KK wgBlock WgAt stA smA rd wr mk DC0 Payload)
namespace Go.Eqv
variable{a:Act}{ad:Addr}{l:Array Bool}{ops:Array Oper}{aS:Array Operand}{ats:Array DU}{cap args:Array Dv}{mb:Bool}{c:Code}{b:Frame}{fn:Func}{f:FuncId}{g:E4}{cs:List Frame}{k:List Item}{rest:List Nat}{i d Wg n Low B id V1 V2:Nat}{S:Nat->Prop}{o:Oper}{x y:Operand}{P:Ft}{md:Region.Mode}{ty:DU}{u val:Dv}{L:WgLink}{w w' w0 W0 w1:Ba}{C:dQ}{Stop:gL}
def yw(L:WgLink)(C:dQ)(K:gL):gL:=λS d g w=>d=1/\ZW C S/\C.E.J w/\∃(T:Array Value) (f:Frame) (h:Act) (a:Array Oper) (i:Nat) (c:List Nat) (j:List Item) (cs:List Frame),
 g=G ((base L.wait).at ⟨T,[]⟩ [.code (L7 L),.inLoop (L7 L),.inBlock 0]) (f.at h (.inRegion a (i::c)::j)::cs)/\T.size=84/\T[0]?=some (.pointer (some ⟨C.L.b,0,none⟩)) /\
 ∀w1,cF C.E S w w1->fC C.P true C.e K S 0 (G (f.at (h.put ((a[i]?).bind (·.dst)) (.tuple #[])) (.inRegion a c::j)) cs) w1
def X1(C:dQ)(K:gL):gL:=λS d g w=>g.status=.running/\fC C.P true C.e K S d g w
def IV(H:WgLib C.P L)(c:C.ty=L.tWg){K:gL}(h:yw L C K S d g w):fC C.P true C.E (EJ C (yw L C K) (X1 C K)) S d g w:=by
 obtain⟨rfl,A,D,T,b₀,a₀,x,i₀,s,k₀,cs,rfl,p,y,t⟩:=h;have u:∀{w1},cF C.E S w w1->WgLive L.tWg C.L.b w1:=λh=>c▸h.h.1;lib_facts;obtain⟨v0,v1,v2,v3,v4,v5,v6,v7,v8,v9,F,G,I,J,M,O,Q,R,U,V,W,X,Y,Z,aS,a0,bm,bO,bR,ci,cj,ck,cl,cm,co,cp,ct,cv,cw,cA,cB,cG,cW,dd,df,dk,dm,dn,dr,ds,dt,dv,dy,dz,dJ,dN,dP,dT,d0,d6,d7,d8,d9,ea,eb,ec,ef,eg,em,en,ep,eq,er,es,ev,ex,ey,ez,eA,eB,eC,eF,eG,eJ,rfl⟩:=array84 T p;simp only[bH,bI,ba]at y;subst y;have hF:cF C.E S w w:=cF.j S D;simp only[L7,body_wait,waitFn,di];refine zq hF λ_ hF=>?_;u_call H.f_uLoad (nm_uLoad L) uLoadFn cF.e hF;refine vF λ_ hF=>?_;refine Goes.stop (λw₁ f=>fC.h ⟨rfl,rfl,λw₂ k v hv a=>?_⟩);replace hF:=(hF.e f).e k;clear f k w₁;rw[c]at a;rcases fM v with rfl|eK
 .replace a:WgAt L.tWg C.L.b w₂ 0 0:=dD a;refine⟨_,stepG_load_atomic (v:=0) rfl rfl (by k_ne) rfl H.f_loadU64 (x_loadU64_n L) (x_loadU64_b L) (x_loadU64_x L) .u64 (x_loadU64_f L) rfl a.cellSt,λ_=>?_,λh=>absurd rfl h⟩;clear a;walk_nrm;refine zq hF λ_ hF=>?_;u_leave1 H.f_uLoad cF.e hF;refine vF λ_ hF=>?_
  ((refine Goes.ab hF rfl λ_ hF=>⟨_,_,stepG_mark0 .enable aY rfl rfl (by k_ne) rfl H.f_enable (x_enable_n L) (x_enable_b L) (x_enable_x L) (x_enable_f L),(λe l=>by simp at l;subst l;exact .inr (.inr (.inr (.inl ⟨aB,rfl⟩)))),?_⟩;walk_nrm);refine fC.e (n:=12) hF.h ?_;(refine vF λ_ hF=>?_);m_convG C.P H.underlying_tUP H.underlying_tWgP H.room_tWg (WgLive.cell0 (u hF)).choose_spec cF.e hF;refine Goes.stop (λ_ f=>fC.h ⟨rfl,rfl,λ_ k=>⟨_,stepG_markAt .acquire aY rfl rfl (by k_ne) rfl H.f_acquire (x_acquire_n L) (x_acquire_b L) (x_acquire_x L) (x_acquire_f L) (by simp[Act.eval,stA]),rfl,?_⟩⟩);replace hF:=rq.1 ((cF.e hF f).e k);clear f k;walk_nrm;refine fC.e (n:=30) hF.h ?_;(refine vF λ_ hF=>?_);u_leave0 H.f_wait cF.e hF;exact Goes.stop (λ_ f=>t _ (rq.2 (hF.e f))))
 .obtain⟨N,m⟩:∃N:Int,(v:Int)*KK=N:=⟨_,rfl⟩;have a1:N/4294967296=(v:Int):=by rw[<-m];simp only[KK];omega
  have b1:bits .and .u64 N 2147483648=0:=by rw[<-m];have:=st_flag v 0 ak ak;simpa[KK] using this
  have b2:bits .and .u64 N 2147483647=0:=by rw[<-m];have:=st_waiters v 0 ak ak;simpa[KK] using this
  have c1:IntKind.i32.wrap (v:Int)=(v:Int):=by rw[IntKind.wrap_i32];omega
  have e1:IntKind.u64.wrap (N+1)=N+1:=by rw[IntKind.wrap_u64,<-m];simp only[KK];omega
  have q3:decide ((v:Int)<0)=false:=aK ak;have q4:decide (0<(v:Int))=true:=aX ak;have q5:((v:Int)==0)=false:=fS;have q6:decide ((v:Int)=0)=false:=aK ak;rw[m]at a;refine⟨_,stepG_load_atomic (v:=N) rfl rfl (by k_ne) rfl H.f_loadU64 (x_loadU64_n L) (x_loadU64_b L) (x_loadU64_x L) .u64 (x_loadU64_f L) rfl a.cellSt,λh0=>absurd h0 ak,λ_=>?_⟩;clear a;walk_nrm;refine zq hF λ_ hF=>?_;u_leave1 H.f_uLoad cF.e hF;refine vF λ_ hF=>?_;u_call H.f_uCas (nm_uCas L) uCasFn cF.e hF;refine vF λ_ hF=>?_;refine Goes.stop (λo i=>fC.h ⟨rfl,rfl,λw₄ r v' eN a=>⟨λe=>?_,λe=>?_⟩⟩)
  .replace hF:=(hF.e i).e r;clear i r o;rw[c]at a;subst e;rw[m]at a⊢;refine⟨_,(stepG_cas_hit (v:=N) (n:=N+1) rfl rfl (by k_ne) rfl H.f_casU64 (x_casU64_n L) (x_casU64_b L) (x_casU64_x L) .u64 (x_casU64_f L) rfl rfl rfl a.cellSt (a.thaw 0)).trans (by rfl),?_⟩;replace hF:=(DD (N+1) hF A (c▸a)).1;clear a;walk_nrm;refine zq hF λ_ hF=>?_;u_leave1 H.f_uCas cF.e hF;refine vF λ_ hF=>?_;m_convG C.P H.underlying_tUP H.underlying_tPU32 H.room_tU32 (WgLive.cell1 (u hF)).choose_spec cF.e hF
   (refine Goes.ab hF rfl λ_ hF=>⟨_,_,(stepG_markAt .write aY rfl rfl (by k_ne) rfl H.f_raceWrite (x_raceWrite_n L) (x_raceWrite_b L) (x_raceWrite_x L) (x_raceWrite_f L) (ad:=(aA C.L.b 1)) (by simp[Act.eval])),(λe l=>by simp at l;subst l;exact(.inr (.inr (.inr (.inr ⟨rfl,_,rfl,.inr rfl⟩))))),?_⟩;walk_nrm)
   refine zq hF λ_ hF=>?_;refine Goes.stop (λo i=>fC.h ⟨rfl,rfl,rfl,λw₅ z=>⟨λ⟨st,a⟩=>stepG_semacquire_wait rfl rfl rfl H.f_semacquire (x_semacquire_n L) (x_semacquire_b L) (x_semacquire_x L) (x_semacquire_f L) (by simp[Act.eval,smA]) a.cellSm,λq=>?_⟩⟩);replace hF:=(hF.e i).e z;clear i z o;rw[c]at q;refine⟨_,(stepG_semacquire (n:=1) rfl rfl (by k_ne) rfl H.f_semacquire (x_semacquire_n L) (x_semacquire_b L) (x_semacquire_x L) (x_semacquire_f L) (by simp[Act.eval,smA]) q.cellSm (by k_ne) (q.thaw 1)).trans (by rfl),?_⟩;replace hF:=(DD 0 hF A (c▸q)).2;clear q;walk_nrm;refine zq hF λ_ hF=>?_;u_call H.f_uLoad (nm_uLoad L) uLoadFn cF.e hF;refine vF λ_ hF=>?_;refine Goes.stop (λo i=>fC.h ⟨rfl,rfl,λw₆ B a=>?_⟩);replace hF:=(hF.e i).e B;clear i B o;rw[c]at a;refine⟨_,stepG_load_atomic (v:=0) rfl rfl (by k_ne) rfl H.f_loadU64 (x_loadU64_n L) (x_loadU64_b L) (x_loadU64_x L) .u64 (x_loadU64_f L) rfl a.cellSt,?_⟩;clear a;walk_nrm;refine zq hF λ_ hF=>?_;u_leave1 H.f_uLoad cF.e hF;refine vF λ_ hF=>?_
   ((refine Goes.ab hF rfl λ_ hF=>⟨_,_,stepG_mark0 .enable aY rfl rfl (by k_ne) rfl H.f_enable (x_enable_n L) (x_enable_b L) (x_enable_x L) (x_enable_f L),(λe l=>by simp at l;subst l;exact .inr (.inr (.inr (.inl ⟨aB,rfl⟩)))),?_⟩;walk_nrm);refine fC.e (n:=12) hF.h ?_;(refine vF λ_ hF=>?_);m_convG C.P H.underlying_tUP H.underlying_tWgP H.room_tWg (WgLive.cell0 (u hF)).choose_spec cF.e hF;refine Goes.stop (λ_ f=>fC.h ⟨rfl,rfl,λ_ k=>⟨_,stepG_markAt .acquire aY rfl rfl (by k_ne) rfl H.f_acquire (x_acquire_n L) (x_acquire_b L) (x_acquire_x L) (x_acquire_f L) (by simp[Act.eval,stA]),rfl,?_⟩⟩);replace hF:=rq.1 ((cF.e hF f).e k);clear f k;walk_nrm;refine fC.e (n:=30) hF.h ?_;(refine vF λ_ hF=>?_);u_leave0 H.f_wait cF.e hF;exact Goes.stop (λ_ f=>t _ (rq.2 (hF.e f))))
  .replace hF:=(hF.e i).e r;clear i r o;rw[c]at a;refine⟨_,stepG_cas_miss (v:=(v':Int)*KK) (old:=N) (n:=N+1) rfl rfl (by k_ne) rfl H.f_casU64 (x_casU64_n L) (x_casU64_b L) (x_casU64_x L) .u64 (x_casU64_f L) rfl rfl rfl a.cellSt (a.thaw 0) (by rw[<-m];simp only[KK];omega),?_⟩;clear a;walk_nrm;refine zq hF λ_ hF=>?_;u_leave1 H.f_uCas cF.e hF;repeat w_nl cF.e
   u_c stepG_inLoop cF.e hF;refine Goes.stop (λ_ i=>fC.h ⟨rfl,A,i.h,_,_,_,_,_,_,_,_,rfl,aY,aY,λ_ f=>t _ ((hF.e i).e f)⟩)
def IW{C:dQ}(H:WgLib C.P L){K:gL}{S:Nat->Prop}(A:ZW C S){d:Frame}{f:Act}{a:Array Oper}{g:Nat}{c:List Nat}{i:List Item}{cs:List Frame}{w0 w:Ba}(hF:cF C.E S w0 w)
  (l:∀w1,cF C.E S w0 w1->fC C.P true C.e K S 0 (G (d.at (f.put ((a[g]?).bind (·.dst)) (.tuple #[])) (.inRegion a c::i)) cs) w1):
  fC C.P true C.E (yw L C K) S 0 (G ((base L.wait).at ⟨#[.pointer (some (aA C.L.b 0))]++Array.replicate 83 undef,[]⟩ [.code (body_wait L)]) (d.at f (.inRegion a (g::c)::i)::cs)) w:=by
 lib_facts;simp only[body_wait,waitFn,di,eY,eZ,fZ,fv,cS,dh];refine zq hF λ_ hF=>?_
 (refine Goes.ab hF rfl λ_ hF=>⟨_,_,(stepG_mark0 .disable aY rfl rfl (by k_ne) rfl H.f_disable (x_disable_n L) (x_disable_b L) (x_disable_x L) (x_disable_f L)),(λe j=>by simp at j;subst j;exact(.inr (.inr (.inl ⟨aB,rfl⟩)))),?_⟩;walk_nrm)
 apply fC.e (n:=20) hF.h;repeat w_bar cF.e
 u_c stepG_loop cF.e hF;refine Goes.stop (λ_ k=>fC.h ⟨rfl,A,k.h,_,_,_,_,_,_,_,_,rfl,aY,aY,λ_ m=>l _ ((hF.e k).e m)⟩)
def Xg{q e:Ba->Ba->Prop}{s:Ba->Ba->Array Event->Prop}{Q St:E4->Ba->Prop}(d:∀a b,q a b->e a b)(m:∀a,e a a)(o:∀a b c,e a b->e b c->e a c)(r:∀n g w,Q g w->Goes P mb e s St n g w->St g w)(f:∀g w g',St g w->stepG P mb g w=.go g' w #[]->False):
  ∀{n i:Nat} {g:E4} {w:Ba},Goes P mb q DC0 Q n g w->Goes P mb e s St i g w->Goes P mb q DC0 St n g w
 |0,i,g,w,j,p=>λw1 h=>r i g w1 (j w1 h) (Goes.rely o p (d _ _ h))
 |n+1,i,g,w,j,p=>by
  rcases j with j|⟨u,j⟩
  exact .inl λw1 h=>r i g w1 (j w1 h) (Goes.rely o p (d _ _ h));refine .inr ⟨u,λw1 h=>?_⟩;have k:=j w1 h;have l:=Goes.rely o p (d _ _ h);cases hst:stepG P mb g w1 with
  |go g' w' v=>
   rw[hst]at k;obtain⟨⟨rfl,rfl⟩,k⟩:=k;refine⟨⟨rfl,rfl⟩,?_⟩;cases i with
   |zero=>exact(f _ _ _ (l _ (m _)) hst).elim
   |succ i=>
    rcases l with l|⟨_,l⟩
    exact(f _ _ _ (l _ (m _)) hst).elim;have t:=l _ (m _);rw[hst]at t;exact Xg d m o r f k t.2
  |_=>rw[hst]at k;exact k.elim
instance:Payload:=⟨176⟩
theorem lx{ty C:Nat}(a:Ba):RW ty Wg C n Low i a a:=⟨λ_ _ _ _=>rfl,id,id,rfl⟩
def QC{ty C:Nat}(a b c:Ba)(h:RW ty Wg C n Low i a b)(k:RW ty Wg C n Low i b c):RW ty Wg C n Low i a c:=⟨λx d e f=>(k.low x d e f).trans (h.low x d e f),λq=>k.live (h.live q),λq=>k.pay (h.pay q),k.cell.trans h.cell⟩
def rT(a:C.ty=L.tWg)(c:S B)(w w1:Ba)(h:cF C.E S w w1):RW L.tWg C.L.b B 1 0 (1-1) w w1:=by
 have e:=h.i B c;refine⟨λb q=>absurd q (gV b),λ_=>a▸h.h.1,λ⟨cs,d,f⟩=>⟨cs,e.trans d,f⟩,?_⟩;unfold World.cell?

 rw[e]
def Z9(P:Program)(R:World->World->Prop)(Wg:Nat)(g:Goroutine)(w:World):Prop:=∃a,stepG P false g w=.go a w #[mk (.releaseMerge (stA Wg))]/\∃m,Goes P false R DC0 (λg w=>∃b,stepG P false g w=.go b w #[mk .disable]) m a w
def PY{g':E4}(h:AtR0 C.P L.tWg C.L.b B 1 0 1 val g w)(q:stepG C.P false g w=.go g' w #[]):False:=by
 let ⟨_,_,c,a,_⟩:=h
 rw[a]at q;injection q with _ _ q
 cases cr Array.size q
def MF(c:C.E.J w)(h:Z9 C.P (cF C.E S) C.L.b g w)(k:Goes C.P false (RW L.tWg C.L.b B 1 0 (1-1)) (DWs C.L.b (λ_ _=>False) (λ_ _=>False) B 1 1) (AtR0 C.P L.tWg C.L.b B 1 0 1 val) n g w):AtR0 C.P L.tWg C.L.b B 1 0 1 val g w:=by
 let ⟨t,p,m,r⟩:=h
 have s:∀{m n:Nat} {g:E4} {w:Ba},C.E.J w->Goes C.P false (cF C.E S) DC0 (λg w=>∃i,stepG C.P false g w=.go i w #[mk .disable]) m g w->Goes C.P false (RW L.tWg C.L.b B 1 0 (1-1)) (DWs C.L.b (λ_ _=>False) (λ_ _=>False) B 1 1) (AtR0 C.P L.tWg C.L.b B 1 0 1 val) n g w->False:=by
  intro m;induction m with
  |zero=>
   intro n g w c a b;let ⟨i,q⟩:=a w (cF.j S c)
   have l:AtR0 C.P L.tWg C.L.b B 1 0 1 val g w->False:=λ⟨_,_,u,f,_⟩=>by
    rw[q]at f;injection f with _ _ f
    have:=cr (λe:Array Event=>e[0]?) f;simp[mk]at this
   cases n with
   |zero=>exact l (b w (lx w))
   |succ n=>
    rcases b with b|⟨_,b⟩
    exact l (b w (lx w));have:=b w (lx w);rw[q]at this;exact(this.1.2 (mk .disable) aY).2.1 rfl
  |succ m o=>
   intro n g w c a b;rcases a with a|⟨_,a⟩
   exact o c (Goes.stop a) b;have d:=a w (cF.j S c);cases hst:stepG C.P false g w with
   |go v w' x=>
    rw[hst]at d;obtain⟨⟨rfl,rfl⟩,d⟩:=d;cases n with
    |zero=>exact PY (b _ (lx _)) hst
    |succ n=>
     rcases b with b|⟨_,b⟩
     exact PY (b _ (lx _)) hst;have b1:=b _ (lx _);rw[hst]at b1;exact o c d b1.2
   |_=>rw[hst]at d;exact d.elim
 cases n with
 |zero=>exact k w (lx w)
 |succ n=>
  rcases k with k|⟨_,k⟩
  exact k w (lx w);have:=k w (lx w);rw[p]at this;exact(s c r this.2).elim
def EX{R:Ba->Ba->Prop}{D:Ba->Ba->Array Event->Prop}{St:E4->Ba->Prop}(e:∀a b c,R a b->R b c->R a c):∀{n:Nat} {g:E4} {w:Ba},Goes P mb R D St n g w->Goes P mb R D (λg w=>(∃v,R v w)/\∀w1,R w w1->St g w1) n g w
 |0,g,w,h=>λw1 d=>⟨⟨w,d⟩,λw2 f=>h w2 (e _ _ _ d f)⟩
 |n+1,g,w,h=>by
  rcases h with h|⟨i,h⟩
  exact .inl λw1 d=>⟨⟨w,d⟩,λw2 f=>h w2 (e _ _ _ d f)⟩;refine .inr ⟨i,λw1 d=>?_⟩;have:=h w1 d;cases hst:stepG P mb g w1 with
  |go j w' k=>rw[hst]at this;exact⟨this.1,EX e this.2⟩
  |_=>rw[hst]at this;exact this.elim
def Yg(c:C.ty=L.tWg)(l:S B)(h:∀w1,cF C.E S w w1->AtR0 C.P L.tWg C.L.b B 1 0 1 val g w1)(o:C.E.J w):uu C S 0 g w:=by
 have p:∀g w,AtD3 C.P L.tWg C.L.b B 1 0 1 g w->XY C S g w:=λg w ⟨a,h⟩=>⟨a,λq=>by
  let ⟨d,f,m,i⟩:=h (c▸q)
  exact⟨d,f,m,lc (rT c l) (λg w h=>by rw[<-c]at h;exact h) i⟩⟩
 have r:∀g w,AtD2 C.P L.tWg C.L.b B 1 0 1 g w->XX C S g w:=λg w ⟨a,h⟩=>⟨a,λq=>by
  let ⟨d,f,m,i⟩:=h (c▸q)
  exact⟨d,f,m,lc (rT c l) p i⟩⟩
 have s:∀g w,AtD1 C.P L.tWg C.L.b B 1 0 1 g w->XW C S g w:=λg w ⟨a,h⟩=>⟨a,λv wt f i q=>by
  let ⟨d,k1,n,t⟩:=h v wt f i (c▸q)
  refine⟨d,k1,λe=>?_,t⟩;let ⟨m,k⟩:=n e
  exact⟨m,lc (rT c l) r k⟩⟩
 refine⟨rfl,(h w (cF.j S o)).1,λw1 f=>?_⟩;let ⟨_,_,d,k1,m,n⟩:=h w1 f
 exact⟨d,k1,m,lc (rT c l) (λg w ⟨a,d,f,m,i⟩=>⟨a,d,f,m,lc (rT c l) s i⟩) n⟩
def MG(H:WgLib C.P L)(a:C.ty=L.tWg){c:Frame}(hF:cF C.E S w0 w):
  Goes C.P false (cF C.E S) DC0 (λg w=>C.E.J w/\Z9 C.P (cF C.E S) C.L.b g w) 20 (G ((base L.add).at ⟨#[.pointer (some (aA C.L.b 0)),iI (-1)]++Array.replicate 115 undef,[]⟩ [.code (body_add L)]) (c::cs)) w:=by
 lib_facts;simp only[body_add,addFn,di,eY,eZ,fZ,fv,cS,dh];refine vF λ_ hF=>?_;m_convG C.P H.underlying_tUP H.underlying_tWgP H.room_tWg (WgLive.cell0 ((λh=>a▸h.h.1) hF)).choose_spec cF.e hF;refine Goes.stop (λ_ d=>⟨d.h,_,stepG_markAt .releaseMerge aY rfl rfl (by k_ne) rfl H.f_relMerge (x_relMerge_n L) (x_relMerge_b L) (x_relMerge_x L) (x_relMerge_f L) (by simp[Act.eval,stA]),10,?_⟩);replace hF:=hF.e d

 walk_nrm;refine vF λ_ hF=>?_;exact Goes.stop (λ_ d=>⟨_,stepG_mark0 .disable aY rfl rfl (by k_ne) rfl H.f_disable (x_disable_n L) (x_disable_b L) (x_disable_x L) (x_disable_f L)⟩)
def Qp{C:dQ}(H:WgLib C.P L)(f:C.ty=L.tWg){S:Nat->Prop}{B:Nat}(j:S B){val:Dv}{l:Frame}{m:Act}{d:Array Oper}{o:Nat}{a:List Nat}{p:List Item}{cs:List Frame}{qt:Nat}{w0 w:Ba}(hF:cF C.E S w0 w)(s:cC w0 (aA B 0) val)
  (t:QuitsD C.P qt 0 (G (l.at (m.put ((d[o]?).bind (·.dst)) (.tuple #[])) (.inRegion d a::p)) cs)):
  fC C.P false C.E (uu C) S 0 (G ((base L.add).at ⟨#[.pointer (some (aA C.L.b 0)),iI (-1)]++Array.replicate 115 undef,[]⟩ [.code (body_add L)]) (l.at m (.inRegion d (o::a)::p)::cs)) w:=by
 have r:=MG (c:=l.at m (.inRegion d (o::a)::p)) (cs:=cs) H f hF;have hc:Has B (1-1) val w:=by
  show w.cell? ⟨B,0,none⟩=some val;rw[<-s];unfold World.cell?

  rw[(hF.i B j)]
 have u:=addNegN H (Own:=λ_ _=>False) (Rd:=λ_ _=>False) (n:=1) (Low:=0) (k:=1) t w ⟨f▸hF.h.1,hc⟩;simp only[eY,eZ,fZ,fv,cS,dh]at r⊢;exact fC.e hF.h (lc (R':=cF C.E S) (λ_ _ h=>h) (λg w ⟨⟨v,x⟩,h⟩=>fC.h (Yg f j h x.h)) (EX (R:=cF C.E S) (λ_ _ _ h k=>h.e k) (Xg (rT f j) lx QC (λn g w q k=>MF q.1 q.2 k) (λg w y=>PY) r u)))
def L8{C:dQ}(H:WgLib C.P L)(d:C.ty=L.tWg){S:Nat->Prop}{B:Nat}(k:S B){val:Dv}{f:Frame}{g:Act}{a:Array Oper}{h:Nat}{c:List Nat}{i:List Item}{cs:List Frame}{qt:Nat}{w0 w:Ba}(hF:cF C.E S w0 w)(l:cC w0 (aA B 0) val)
  (m:QuitsD C.P qt 0 (G (f.at (g.put ((a[h]?).bind (·.dst)) (.tuple #[])) (.inRegion a c::i)) cs)):
  fC C.P false C.E (uu C) S 0 (G ((base L.done).at ⟨#[.pointer (some (aA C.L.b 0)),undef,undef,undef],[]⟩ [.code (body_done L)]) (f.at g (.inRegion a (h::c)::i)::cs)) w:=by
 have j:=@Qp L C H d S B k val;lib_facts;simp only[body_done,body_add,doneFn,addFn,di,eY,eZ,fZ,fv,cS,dh]at j⊢;refine zq hF λ_ hF=>?_;u_call H.f_add (nm_add L) addFn cF.e hF;refine Goes.stop (λ_ n=>j (qt:=qt+3) (hF.e n) l ?_);q_c stepG_region_end;q_c stepG_end;q_leave0 H.f_done;exact m
def Vd{dst:Array Value}(b : P.funcs[f]? = some fn)(a : (fn.name == "runtime.NumGoroutine") = false)(d : fn.body = some c) : (callFunc f dst).run P w = .ok (.enter f dst) w ∧ (callFunc f dst).events P w #[] = #[] := by
 constructor<;>simp[callFunc,b,(dD a),d]
def MQ(m:ops[i]?=some o)(n:Region.wanted o (yielded ops a.tmps)=true)(p:b.kind≠.early)(e:o.op = .call { callee:=.value x,args:=aS,argTypes:=ats })(g:a.eval x = .func (.func f) #[] cap)(h : P.funcs[f]? = some fn)(d : (fn.name == "runtime.NumGoroutine") = false)(j : fn.body = some c) :
  stepG P mb (G (b.at a (.inRegion ops (i::rest)::k)) cs) w=.go (G ((base f).at {tmps:=(aS.map a.eval++cap)++Array.replicate (fn.ntmps-(aS.map a.eval++cap).size) undef,defers:=[]} [.code c]) (b.at a (.inRegion ops (i::rest)::k)::cs)) w #[]:=by
 have l:=Vd (w:=w) (dst:=aS.map a.eval++cap) h d j;have q:(execOp a.eval o).run P w=.ok (.enter f (aS.map a.eval++cap)) w:=by
  unfold execOp;simp[e,resolve,Deferred.ofValue,g,invoke,l]
 have r:(execOp a.eval o).events P w #[]=#[]:=by
  unfold execOp;simp[e,resolve,Deferred.ofValue,g,invoke,l]
 rw[stepG_enter m n p q,enter_at _ h j];unfold listed;rw[r,seen_none]
def uz(f:FuncId)(args cap:Array Value):Deferred:={target:=.fn (.func f) cap,args:=args}
def xO(e:ops[i]?=some o)(h:Region.wanted o (yielded ops a.tmps)=true)(j:b.kind≠.early)(c:o.op=.defer {callee:=.value x,args:=aS,argTypes:=ats})(g:a.eval x=.func (.func f) #[] cap):
  stepG P mb (G (b.at a (.inRegion ops (i::rest)::k)) cs) w=.go (G (b.at (Act.put ⟨a.tmps,uz f (aS.map a.eval) cap::a.defers⟩ o.dst undef) (.inRegion ops rest::k)) cs) w #[]:=by
 have l:(execOp a.eval o).run P w=.ok (.defer (uz f (aS.map a.eval) cap)) w:=by
  unfold execOp;simp[c,resolve,Deferred.ofValue,g,uz]
 have m:(execOp a.eval o).events P w #[]=#[]:=by
  unfold execOp;simp[c,resolve,Deferred.ofValue,g]
 have d:(b.at ⟨a.tmps,uz f (aS.map a.eval) cap::a.defers⟩ (.inRegion ops (i::rest)::k)).finish undef=b.at (Act.put ⟨a.tmps,uz f (aS.map a.eval) cap::a.defers⟩ o.dst undef) (.inRegion ops rest::k):=by rw[Frame.finish_at,e];rfl
 rw[stepG_oper e h,<-d];simp[stepG.apply,l,m,G,Frame.at,(dD j),GStep.after,seen_none]
def DH(e:ops[i]?=some o)(g:Region.wanted o (yielded ops a.tmps)=true)(h:b.kind≠.early)(c:o.op=.go {callee:=.value x,args:=aS,argTypes:=ats})(d:a.eval x=.func (.func f) #[] cap):
  stepG P mb (G (b.at a (.inRegion ops (i::rest)::k)) cs) w=.spawn (G (b.at (a.put o.dst undef) (.inRegion ops rest::k)) cs) (born P (uz f (aS.map a.eval) cap)) w #[]:=by
 have j:(execOp a.eval o).run P w=.ok (.spawn (uz f (aS.map a.eval) cap)) w:=by
  unfold execOp;simp[c,resolve,Deferred.ofValue,d,uz]
 have l:(execOp a.eval o).events P w #[]=#[]:=by
  unfold execOp;simp[c,resolve,Deferred.ofValue,d]
 rw[stepG_spawn e g h j rfl];unfold listed;rw[l,seen_none]
def we{todo:List Item}{e:List Deferred}(i : a.defers = uz f args cap :: e)(g : P.funcs[f]? = some fn)(d : (fn.name == "runtime.NumGoroutine") = false)(h : fn.body = some c) :
  stepG P mb (G {b.at a todo with mode:=.returning} cs) w=.go (G ((baseD f).at {tmps:=(args++cap)++Array.replicate (fn.ntmps-(args++cap).size) undef,defers:=[]} [.code c]) ({b.at ⟨a.tmps,e⟩ todo with mode:=.returning} :: cs)) w #[]:=by
 rw[<-enter_atD _ g h];simp[G,stepG,unwind,callDeferred,Frame.at,i,uz,invoke,callFunc,g,(dD d),h,GStep.after,seen_none]
def EL(P:Program):Frame:={ (default:Frame) with fn:=P.funcs.size,defers:=[],mode:=.panicking [goexitEntry]}
def IH(b : P.funcs[f]? = some fn)(a : (fn.name == "runtime.NumGoroutine") = false)(d : fn.body = some c) :
  stepG P false (born P (uz f args cap)) w=.go (G ((baseD f).at {tmps:=(args++cap)++Array.replicate (fn.ntmps-(args++cap).size) undef,defers:=[]} [.code c]) [EL P]) w #[]:=by
 rw[<-enter_atD _ b d];simp[born,G,stepG,unwind,callDeferred,uz,invoke,callFunc,b,(dD a),d,GStep.after,seen,EL]
def A9{cl:Frame}(f:ops[i]?=some o)(h:Region.wanted o (yielded ops a.tmps)=true)(g:b.kind=.deferred)(hc:cl.mode=.returning)(c:o.op=.call {callee:=.builtin .recover,args:=#[],argTypes:=#[]}):
  stepG P mb (G (b.at a (.inRegion ops (i::rest)::k)) (cl::cs)) w=.go (G (b.at (a.put o.dst .nilIface) (.inRegion ops rest::k)) (cl::cs)) w #[]:=by
 have j:(execOp a.eval o).run P w=.ok .recover w:=by
  unfold execOp;simp[c,resolve,invoke,builtin]
 have l:(execOp a.eval o).events P w #[]=#[]:=by
  unfold execOp;simp[c,resolve,invoke,builtin]
 have d:(b.at a (.inRegion ops (i::rest)::k)).finish .nilIface=b.at (a.put o.dst .nilIface) (.inRegion ops rest::k):=by rw[Frame.finish_at,f];rfl
 have e:(b.kind==CallKind.early)=false:=g▸rfl;rw[stepG_oper f h,<-d];simp[stepG.apply,j,l,G,Frame.at,e,GStep.after,seen_none,tryRecover,g,hc]
section
variable{E:rM}{v:Dv}
def B0(h:cF E S w w')(a:S ad.block\/E.F ad.block):w'.cell? ad=w.cell? ad/\w'.frozen? ad=w.frozen? ad:=by
 have e:w'.heap[ad.block]?=w.heap[ad.block]?:=a.elim (h.i _) (h.s _);constructor;unfold World.cell?;rw[e];unfold World.frozen?;rw[e]
theorem fC.O(ho:ops[i]?=some o)(hw:Region.wanted o (yielded ops a.tmps)=true)(hk:b.kind≠.early)(hop:o.op=.load ty x)(hx:a.eval x=.pointer (some ad))(hg:∀w,(isAgg ty).run P w=.ok false w)(hge:∀w es,(isAgg ty).events P w es=es)(hv:cC w ad v)(hb:S ad.block\/E.F ad.block)(hT:∀w1,cF E S w w1->fC P mb E Stop S d (G (b.at (a.put o.dst v) (.inRegion ops rest::k)) cs) w1):fC P mb E Stop S d (G (b.at a (.inRegion ops (i::rest)::k)) cs) w:=by
 refine fC.j rfl λw1 h1=>?_
 have hv1:cC w1 ad v:=(B0 h1 hb).1.trans hv
 have hr:(execOp a.eval o).run P w1=.ok (.value v) w1:=by
  unfold execOp
  simp only[hop,hx]
  simp[go_sem,hg,hv1]
 have he:(execOp a.eval o).events P w1 #[]=#[⟨.cell ad,false,false⟩]:=by
  unfold execOp
  simp only[hop,hx]
  simp[go_sem,hg,hge,hv1]
 have hev:∀e∈listed P b.fn a o w1,e=⟨.cell ad,false,false⟩:=λe h=>by
  have:=mem_listed h
  rw[he]at this
  simpa using this
 refine⟨_,_,stepG_value ho hw hk hr,λe h=>?_,?_⟩
 .rw[hev e h]
  exact hb.imp id λq=>⟨q,rfl⟩
 .rw[deafBehind_still (λe h=>by rw[hev e h];simp)]
  exact hT w1 h1
end
abbrev xL:Go.Conc.Lib.WgLink:={add:=104,done:=107,wait:=54,relMerge:=159,disable:=108,enable:=110,inBubble:=116,associate:=160,fatal:=161,uOr:=162,uAdd:=163,raceRead:=164,uLoad:=109,uStore:=165,disassociate:=114,semrelease:=166,acquire:=111,isAssociated:=112,uCas:=113,raceWrite:=115,semacquire:=117,orU64:=211,addU64:=212,loadU64:=167,storeU64:=213,casU64:=168,tWgP:=176,tUP:=179,tAssoc:=241,tWg:=115,tAU:=112,tU64:=110,tUint:=67,tU32:=113,tPU32:=183,tPAU:=247,tPU64:=249,tNoCopy:=107,tANoCopy:=108,tAlign64:=109}
def zM:Go.Conc.Lib.WgLib prog xL:=by
 constructor;all_goals first|kernel_rfl|(intro w;kernel_rfl)
def aau : (f105.name == "runtime.NumGoroutine") = false := bt
def aav : (f106.name == "runtime.NumGoroutine") = false := bt
def ab7 : (f53.name == "runtime.NumGoroutine") = false := bt
def abG:(∀w,(isAgg 1).run prog w=.ok false w)/\∀w a,(isAgg 1).events prog w a=a:=⟨λw=>bt,λw a=>bt⟩
def H8:(∀w,(isAgg 105).run prog w=.ok false w)/\∀w a,(isAgg 105).events prog w a=a:=⟨λw=>bt,λw a=>bt⟩
def je{E:rM}{v:Dv}(h:cF E S w w')(a:S ad.block\/E.F ad.block)(b:cC w ad v):cC w' ad v:=(B0 h a).1.trans b
def fC.I{E:rM}{v:Dv}(hF:cF E S w0 w)(l:ops[i]?=some o)(m:Region.wanted o (yielded ops a.tmps)=true)(p:b.kind≠.early)(c:o.op=.load ty x)(s:a.eval x=.pointer (some ad))(f:(∀w,(isAgg ty).run P w=.ok false w)/\∀w h,(isAgg ty).events P w h=h)(j:S ad.block\/E.F ad.block)(t:cC w0 ad v)(u:∀w1,cF E S w0 w1->fC P mb E Stop S d (G (b.at (a.put o.dst v) (.inRegion ops rest::k)) cs) w1):Goes P mb (cF E S) DC0 (λg w=>fC P mb E Stop S d g w) n (G (b.at a (.inRegion ops (i::rest)::k)) cs) w:=
 Goes.stop λ_ r=>fC.O l m p c s f.1 f.2 (je (hF.e r) j t) j λ_ q=>u _ ((hF.e r).e q)
section
variable{E:rM}
def xK(l:Array Bool):Nat:=(l.toList.filter (!·)).length
def yX(h:l[i]?=some false):xK (l.setIfInBounds i true)+1=xK l:=by
 obtain⟨l⟩:=l;unfold xK;simp at h⊢;induction l generalizing i with
 |nil=>simp at h
 |cons x l a=>
  cases i with
  |zero=>simp at h;subst h;simp
  |succ i=>
   simp at h;have:=a h;cases x<;>simp at this⊢<;>omega
def nz(f:l.size=ops.size)(h:i∈Region.ready md ops l):l[i]?=some false/\∃o,ops[i]?=some o/\o.after.all (λe=>!Region.binds md e||l.getD e.on false)=true:=by
 unfold Region.ready at h;simp only[jH,mF,aR,Et]at h;obtain⟨a,b,c⟩:=h;have d:i<l.size:=ak;rw[bD,aW d]at b;refine⟨by rw[aW d];simpa using b,ops[i],aW a,?_⟩;rw[aW a]at c;simpa using c
def ME(a:l.size=ops.size)(h:xK l=0):Region.ready md ops l=[]:=by
 cases hr:Region.ready md ops l with
 |nil=>rfl
 |cons x b=>
  have:=yX (nz a (i:=x) (md:=md) (by rw[hr];simp)).1;omega
def Yn(b:l.size=ops.size)(h:xK l=0):∀a t,Region.linearise.go md ops a t l []=[]
 |0,_=>rfl
 |a+1,t=>by
  simp only[Region.linearise.go];have:=ME (md:=md) b h;unfold Region.ready at this;rw[this];rfl
def LZ{I:Array Bool->(Nat->Prop)->Act->Ba->Prop}(e:∀l S a w,I l S a w->l.size=ops.size)(hs:∀l S a w i rest,I l S a w->i∈Region.ready md ops l->(xK (l.setIfInBounds i true)=0->rest=[])->(∀S' a' w',I (l.setIfInBounds i true) S' a' w'->fC P mb E Stop S' d (G (b.at a' (.inRegion ops rest::k)) cs) w')->fC P mb E Stop S d (G (b.at a (.inRegion ops (i::rest)::k)) cs) w)(g:∀l S a w,I l S a w->Region.ready md ops l=[]->fC P mb E Stop S d (G (b.at a (.inRegion ops []::k)) cs) w):
  ∀(c t:Nat) (l:Array Bool) (S:Nat->Prop) (a:Act) (w:Ba),xK l<=c->I l S a w->fC P mb E Stop S d (G (b.at a (.inRegion ops (Region.linearise.go md ops c t l [])::k)) cs) w:=by
 intro c;induction c with
 |zero=>
  intro t l S a w m h;apply g l S a w h;cases hr:Region.ready md ops l with
  |nil=>rfl
  |cons x f=>
   have:=(nz (e _ _ _ _ h) (i:=x) (md:=md) (by rw[hr];simp)).1;have:=yX this;omega
 |succ c n=>
  intro t l S a w m h;simp only[Region.linearise.go];change fC P mb E Stop S d (G (b.at a (.inRegion ops (match (Region.ready md ops l)[t%(Region.ready md ops l).length]? with
   |some i=>Region.linearise.go md ops c (t/(Region.ready md ops l).length) (l.setIfInBounds i true) [i]
   |none=>[].reverse)::k)) cs) w
  cases hi:(Region.ready md ops l)[t%(Region.ready md ops l).length]? with
  |none=>
   apply g l S a w h;cases hr:Region.ready md ops l with
   |nil=>rfl
   |cons x f=>
    rw[hr]at hi;have o:t%(x::f).length<(x::f).length:=Nat.mod_lt _ aY;rw[List.getElem?_eq_none_iff]at hi;omega
  |some i=>
   simp;rw[linearise_go_acc,List.reverse_singleton,List.singleton_append];have j:=fg hi;have:=yX (nz (e _ _ _ _ h) j).1;exact hs l S a w i _ h j (λq=>Yn (by simpa using e _ _ _ _ h) q _ _) λS' a' w' p=>n _ _ S' a' w' ak p
def Qg(n:Nat):xK (Array.replicate n false)=n:=by simp[xK]
def Ma:stepG P mb (G (b.at a (.code (.region id ops true)::k)) cs) w=.go (G (b.at a (.inRegion ops (Region.schedule (P.follows .mixedOrders) ops (w.tape w.drawn (.order b.fn id)))::k)) cs) {w with drawn:=w.drawn+1}:=by
 simp[G,stepG,stepG.exec,Frame.at,choose,Sem.run,Question.forced,Question.cut]
def fC.af(f:P.follows .mixedOrders=true)(I:Array Bool->(Nat->Prop)->Act->Ba->Prop)(g:∀l S a w,I l S a w->l.size=ops.size)(hs:∀l S a w i rest,I l S a w->i∈Region.ready .any ops l->(xK (l.setIfInBounds i true)=0->rest=[])->(∀S' a' w',I (l.setIfInBounds i true) S' a' w'->fC P mb E Stop S' d (G (b.at a' (.inRegion ops rest::k)) cs) w')->fC P mb E Stop S d (G (b.at a (.inRegion ops (i::rest)::k)) cs) w)(c:∀l S a w,I l S a w->Region.ready .any ops l=[]->fC P mb E Stop S d (G (b.at a (.inRegion ops []::k)) cs) w)(h:∀w1,cF E S w w1->I (Array.replicate ops.size false) S a {w1 with drawn:=w1.drawn+1}):fC P mb E Stop S d (G (b.at a (.code (.region id ops true)::k)) cs) w:=by
 refine fC.H rfl λw1 j=>⟨_,_,_,Ma,⟨λ_ _ _=>rfl,aj _,rfl,rfl,rfl,λe c=>by simp at c⟩,?_⟩;rw[rR (w:=w1) (w':={w1 with drawn:=w1.drawn+1}) rfl];simp only[Region.schedule,f,Bool.true_or,dG];exact LZ (d:=d) g hs c _ _ _ S a _ (by rw[Qg];exact aj _) (h w1 j)
end
def Mr(f:Func):Code:=match f.body with
 |some (.seq _ (.block _ (.loop c)))=>c
 |_=>.skip
def UN(f:Func):Array Oper:=match Mr f with
 |.seq (.region _ o _) _=>o
 |_=>#[]
def QS(f:Func):Code:=match Mr f with
 |.seq _ x=>x
 |_=>.skip
def aaz(f:Func):Array Oper:=match f.body with
 |some (.seq _ (.region _ o _))=>o
 |_=>#[]
def iz(b:Nat):Value:=.pointer (some ⟨b,0,none⟩)
def Xi(f:Func)(a b V1 V2:Nat):Frame:=(baseD 105).at ⟨#[iz a,iz b,.func (.func 106) #[] #[iz a],.func (.func 53) #[] #[iz V1,iz V2],undef],[uz 106 #[] #[iz a]]⟩ [.inRegion (aaz f) [1]]
structure kr(C:dQ)(W0:World)(S:Nat->Prop)(w:World):Prop where
 t:w.os=W0.os
 p:w.output=W0.output
 i:∀b,C.L.F b->w.heap[b]?=W0.heap[b]?
 o:∀b,C.L.F b->b<W0.heap.size
 h:W0.heap.size<=w.heap.size
 s:∀b,S b->b<w.heap.size/\¬C.L.F b/\b≠C.L.b/\b≠C.L.e/\b≠C.L.h
 j:C.E.J w
def kr.e(h:kr C W0 S w)(r:cF C.E S w w1):kr C W0 S w1:=
 ⟨r.u.trans h.t,r.o.trans h.p,λb a=>(r.s b a).trans (h.i b a),h.o,aO h.h r.p,λb a=>⟨aN (h.s b a).1 r.p,(h.s b a).2⟩,r.h⟩
def PG(h:C.E.J w):C.L.b<w.heap.size/\C.L.e<w.heap.size/\C.L.h<w.heap.size:=by
 let ⟨⟨f,g,a⟩,⟨i,s,r,c⟩,cs,d,_⟩:=h
 exact⟨(ar.1 a).1,(ar.1 c).1,(ar.1 d).1⟩
def X3(h:C.E.J w)(a:w'.heap[C.L.b]?=w.heap[C.L.b]?)(c:w'.heap[C.L.e]?=w.heap[C.L.e]?)(d:w'.heap[C.L.h]?=w.heap[C.L.h]?):C.E.J w':=by
 obtain⟨⟨f,g,k1⟩,⟨i,s,r,j⟩,cs,k,l⟩:=h;exact⟨⟨f,g,by unfold WgAt at *;rw[a];exact k1⟩,⟨i,s,r,c.trans j⟩,cs,d.trans k,l⟩
def kr.H{e:Array Event}(h:kr C W0 S w)(g:sr C.E mb S w w' e):kr C W0 (jF S w w') w':=by
 have c:=PG h.j;have d:=h.h;refine⟨g.s.trans h.t,g.j.trans h.p,λb a=>(g.h b (aN (h.o b a) d) λq=>(h.s b q).2.1 a).trans (h.i b a),h.o,aO d g.i,λb a=>?_,X3 h.j (g.h _ c.1 λq=>(h.s _ q).2.2.1 rfl) (g.h _ c.2.1 λq=>(h.s _ q).2.2.2.1 rfl) (g.h _ c.2.2 λq=>(h.s _ q).2.2.2.2 rfl)⟩;rcases a with a|a
 have:=h.s b a;exact⟨aN this.1 g.i,this.2⟩;refine⟨a.2,λq=>?_,λq=>?_,λq=>?_,λq=>?_⟩;have:=h.o b q;omega;omega;omega;omega
def us(C:dQ)(W0:World)(V1 V2:Nat):gL:=λS d g w=>d=0/\kr C W0 S w/\∃(T:Array Value) (a c:Nat),g=G ((base 53).at ⟨T,[]⟩ [.inRegion (UN f53) [0,1],.code (QS f53),.inLoop (Mr f53),.inBlock 0]) [Xi f105 a c V1 V2,EL prog]/\T.size=14/\T[0]?=some (iz V1)/\T[1]?=some (iz V2)/\T[3]?=some (.chan (some C.L.e))/\S a/\w.cell? ⟨a,0,none⟩=some (iz C.L.b)
def PW{α:Type}(T:Array α)(h:T.size=14):∃e f a2 a3 a4 a5 a6 a7 a8 a9 a b c d,T=#[e,f,a2,a3,a4,a5,a6,a7,a8,a9,a,b,c,d]:=by
 refine⟨T[0],T[1],T[2],T[3],T[4],T[5],T[6],T[7],T[8],T[9],T[10],T[11],T[12],T[13],Array.ext (dD h) λi g j=>?_⟩;have:i<14:=ak;match i,this with
 |0,_|1,_|2,_|3,_|4,_|5,_|6,_|7,_|8,_|9,_|10,_|11,_|12,_|13,_=>rfl
def us.e(h:us C W0 V1 V2 S d g w)(a:cF C.E S w w1):us C W0 V1 V2 S d g w1:=by
 obtain⟨c,f,T,i,j,rfl,k,l,m,n,b,o⟩:=h;exact⟨c,f.e a,T,i,j,rfl,k,l,m,n,b,je a (.inl b) o⟩
def PQ:(∀w,(isAgg 176).run prog w=.ok false w)/\∀w a,(isAgg 176).events prog w a=a:=⟨λw=>bt,λw a=>bt⟩
def iq{v:Dv}(c:ops[i]?=some o)(d:Region.wanted o (yielded ops a.tmps)=true)(e:b.kind≠.early)(f:(execOp a.eval o).run P w=.ok (.value v) w)(g:(execOp a.eval o).events P w #[]=#[]):
  stepG P mb (G (b.at a (.inRegion ops (i::rest)::k)) cs) w=.go (G (b.at (a.put o.dst v) (.inRegion ops rest::k)) cs) w #[]:=by
 rw[stepG_value c d e f];unfold listed;rw[g,seen_none]
def Vm{T:Array Dv}:QuitsD prog 2 0 (G { (baseD 105).at ⟨T,[]⟩ [] with mode:=.returning} [EL prog]):=by
 refine QuitsD.ctl (g':=G (EL prog) []) rfl (λw=>?_) ?_;simp[G,stepG,unwind,doReturn,results,Frame.at,baseD,EL,func105,f105,seen,GStep.after,goexitEntry];refine QuitsD.ctl (g':={G (EL prog) [] with status:=.finished}) rfl (λw=>?_) ⟨rfl,rfl⟩;simp[G,stepG,unwind,EL,goexitEntry,Frame.catches];rfl
def vZ{v:Dv}:Conc.served (G (b.at a (.inRegion ops (i::rest)::k)) cs) v=G (b.at (a.put ((ops[i]?).bind (·.dst)) v) (.inRegion ops rest::k)) cs:=by
 rw[<-Frame.finish_at];rfl
def z53:Value:=.agg #[.int .i64 0,.string ⟨#[]⟩]
def us.j(f:C.z=z53)(h:us C W0 V1 V2 S d g w)(i:cF C.E S w w1):stepG prog false g w1=.comm g #[rcase C.L.e C.z] true (.recv true) w1 #[]:=by
 obtain⟨q,_,T,t,u,rfl,k,a,b,c,v,x⟩:=h;obtain⟨y,A,a2,a3,a4,a5,a6,a7,a8,a9,l,m,n,o,rfl⟩:=PW T k;simp at a b c;subst a b c;obtain⟨_,⟨B,s,r,p⟩,_⟩:=i.h;simp only[UN,QS,Mr,f53];rw[stepG_comm (cases:=#[rcase C.L.e C.z]) (blocking:=true) (shape:=.recv true) (w':=w1) rfl rfl (by k_ne) ?_];congr 1;rw[f];kernel_rfl
def us.h(f:C.P=prog)(a:C.ty=115)(y:C.z=z53)(h:us C W0 V1 V2 S d g w)(w1:Ba)(o:cF C.E S w w1):fC C.P false C.E (uu C) S 0 (Conc.served g (recvd true C.z false)) w1:=by
 obtain⟨A,_,T,p,B,rfl,q,i,j,k,l,m⟩:=h;obtain⟨D,F,a2,a3,a4,a5,a6,a7,a8,a9,r,s,t,u,rfl⟩:=PW T q;simp only[bH,bI,bv,ba]at i j k;subst i j k;have hF:=o

 have c:=@L8 xL C (f▸zM) a S p l (iz C.L.b);rw[f]at c⊢;simp only[body_done,doneFn,di]at c;rw[vZ];simp only[UN,QS,Mr,f53,recvd,Xi,aaz,f105,dG];walk_nrm;refine zq hF λ_ hF=>?_;u_leave0 func53 cF.e hF;refine vF λ_ hF=>?_;u_c (we rfl func106 aav rfl) cF.e hF;walk_nrmf f106;refine vF λ_ hF=>?_;u_c (A9 rfl rfl rfl rfl rfl) cF.e hF;walk_nrm;refine vF λ_ hF=>?_;u_c (iq (v:=.bool false) rfl rfl (by k_ne) bt bt) cF.e hF;walk_nrm;refine vF λ_ hF=>?_;refine fC.I hF rfl rfl (by k_ne) rfl rfl PQ (.inl l) m λ_ hF=>?_;walk_nrm;apply fC.e (n:=60) hF.h;u_call zM.f_done (nm_done xL) doneFn cF.e hF;refine Goes.stop (λ_ x=>c (hF.e x) m (qt:=5) ?_);walk_nrm;q_c stepG_region_end;q_c stepG_end;exact QuitsD.leaveD rfl rfl func106 rfl rfl (Vm)
def Fy{c d:Nat}(hF:cF C.E S w0 w)(k:kr C W0 S w0)(a:S c)(g:S d)(i:C.L.F V1)(l:cC w0 (aA V1 0) (.chan (some C.L.e)))(h0:cC w0 (aA c 0) (iz C.L.b))(m:cC w0 (aA d 0) (.func (.func 53) #[] #[iz V1,iz V2])):
  fC prog false C.E (us C W0 V1 V2) S 0 (born prog (uz 105 #[] #[iz c,iz d])) w:=by
 refine fC.j rfl λw1 f=>⟨_,_,IH func105 aau rfl,λe o=>by simp at o,?_⟩;replace hF:=hF.e f

 show fC _ _ _ _ _ 0 _ _;simp;refine zq hF λ_ hF=>?_;u_c (xO rfl rfl (by k_ne) rfl rfl) cF.e hF;walk_nrm;refine vF λ_ hF=>?_;refine fC.I hF rfl rfl (by k_ne) rfl rfl abG (.inl g) m λ_ hF=>?_;walk_nrm;apply fC.e (n:=40) hF.h;u_c (MQ rfl rfl (by k_ne) rfl rfl func53 ab7 rfl) cF.e hF;walk_nrmf f53;refine vF λ_ hF=>?_;refine fC.I hF rfl rfl (by k_ne) rfl rfl H8 (.inr i) l λ_ hF=>?_;walk_nrm;refine zq hF λ_ hF=>?_;exact Goes.stop (λ_ f=>fC.h ⟨rfl,k.e (hF.e f),_,c,d,rfl,rfl,rfl,rfl,rfl,a,je (hF.e f) (.inl a) h0⟩)
def Ve : (execOp a.eval { dst := some 2, op := Op.alloc 118, type := 0, pos := "many.go:34", after := #[], guard := none }).run prog w = .ok (.value (.pointer (some ⟨w.heap.size, 0, none⟩))) { w with heap := w.heap.push (.cells #[.int .i64 0, .string ⟨#[]⟩] 118) } := bt
def Yj : (execOp a.eval { dst := some 2, op := Op.alloc 118, type := 0, pos := "many.go:34", after := #[], guard := none }).events prog w #[] = #[] := bt
def Vf{b:Nat}{g e x y:Value}(f : w.heap[b]? = some (.cells #[g, e] 118))(h : x.oneCell' = true)(i : y.oneCell' = true)(a : Act)(p : a.tmps.getD 2 undef = iz b)(q : a.tmps.getD 6 undef = .agg #[x, y]) : (execOp a.eval { dst := none, op := Op.store 118 (Operand.tmp 2) (Operand.tmp 6), type := 0, pos := "many.go:34", after := #[{ on := 1, ground := Ground.data }, { on := 0, ground := Ground.data }, { on := 0, ground := Ground.phase }, { on := 1, ground := Ground.phase }], guard := none }).run prog w = .ok .skip ((w.setCell ⟨b, 0, none⟩ x).setCell ⟨b, 1, none⟩ y) ∧ (execOp a.eval { dst := none, op := Op.store 118 (Operand.tmp 2) (Operand.tmp 6), type := 0, pos := "many.go:34", after := #[{ on := 1, ground := Ground.data }, { on := 0, ground := Ground.data }, { on := 0, ground := Ground.phase }, { on := 1, ground := Ground.phase }], guard := none }).events prog w #[] = #[⟨.cell ⟨b, 0, none⟩, true, false⟩, ⟨.cell ⟨b, 1, none⟩, true, false⟩] := by
 have c0:w.cell? ⟨b,0,none⟩=some g:=by simp[World.cell?,f]
 have j:w.frozen? (aA b 0)=false:=by simp[World.frozen?,f]
 have d:(w.setCell (aA b 0) x).heap[b]?=some (.cells #[x,e] 118):=by
  show (w.heap.modify b _)[b]?=_;rw[bL,aH rfl,f];rfl
 have c1:(w.setCell ⟨b,0,none⟩ x).cell? ⟨b,1,none⟩=some e:=by simp[World.cell?,d]
 have k:(w.setCell (aA b 0) x).frozen? (aA b 1)=false:=by simp[World.frozen?,d]
 have l:a.eval (.tmp 2)=iz b:=p;have n:a.eval (.tmp 6)=.agg #[x,y]:=q;have s0:∀m,(store (aA b 0) x m).run prog w=.ok () (w.setCell (aA b 0) x):=λm=>by rw[run_store _ _ _ _ _ h,c0];simp[j]
 have o:∀m,(store (aA b 1) y m).run prog (w.setCell (aA b 0) x)=.ok () ((w.setCell (aA b 0) x).setCell (aA b 1) y):=λm=>by rw[run_store _ _ _ _ _ i,c1];simp[k]
 have r:∀c,(store (aA b 0) x).events prog w c=c.push ⟨.cell (aA b 0),true,false⟩:=λc=>by rw[events_store _ _ _ _ _ _ h,c0];simp[j];rfl
 have s:∀c,(store (aA b 1) y).events prog (w.setCell (aA b 0) x) c=c.push ⟨.cell (aA b 1),true,false⟩:=λc=>by rw[events_store _ _ _ _ _ _ i,c1];simp[k];rfl
 constructor
 .unfold execOp;simp only[l,n];simp[go_sem,iz,s0,o]
 .unfold execOp;simp only[l,n];simp[go_sem,iz,s0,o,r,s]
end Go.Eqv
