/- Parts of the proof. -/
import Derived.Test.YtbebfliimjjohabGreatDoorM08
import Derived.Conc.CrowdComm
import Derived.Conc.CrowdRun
set_option maxRecDepth 100000
set_option maxHeartbeats 8000000
set_option linter.all false
open Go.Conc
open Go.ConcR (KK wgBlock WgAt stA smA rd wr mk)
open Go.ConcN (sumTo sumTo_congr)
namespace Go.Eqv
variable{es:Array Event}{gs gs':Array E4}{mb:Bool}{a g g' a' b b':E4}{Shun:Loc->Prop}{i n r v' n' s s' d d':Nat}{dn:Nat->Nat}{f f':Nat->Nat×Tr}{Sn:Nat->Nat->Prop}{rel rel':Nat->Option Nat}{stored stored' S S':Nat->Prop}{Tm:Nat->Tr}{wn:Nat->Ba}{sl:Option (Nat×Nat)}{T T':Tr}{t u:Trace}{α:Type}{w w2 w1 w':Ba}
structure dQ where
 P:Program
 L:Zy
 ty:TypeId
 ta:TypeId
 nt:Nat
 nw:Nat
 dT:Nat
 AT:Nat->Value
 C1:Nat->Value
 z:Value
 zs:Value
def dQ.E(C:dQ):rM:=
 ⟨C.L.F,λw=>(∃d f,WgAt C.ty C.L.b w d f)/\(∃g s r,w.heap[C.L.e]?=some (.chan 0 #[] g s r false))/\∃c,w.heap[C.L.h]?=some (.cells c C.ta)/\c.size=C.nt,
  λm=>∃a:Addr,a.block=C.L.b/\(m=.read a\/m=.write a),True⟩
section
variable(C:dQ)
abbrev LS (S:Nat->Prop) (Stop:Goroutine->World->Prop):=Goes C.P false (cF C.E S) (λw w' es=>w'=w/\es=#[]) Stop
def Z0(g:Goroutine)(w:World):Prop:=g.status=.running/\mayWake C.P g=true/\(WgAt C.ty C.L.b w 0 0 ->
 ∃g',stepG C.P false g w=.go g' (w.setCell (smA C.L.b) (.int .u32 1)) (semEvents (smA C.L.b))/\∃q,QuitsD C.P q 1 g')
def XY(S:Nat->Prop)(g:Goroutine)(w:World):Prop:=g.status=.running/\(WgAt C.ty C.L.b w 1 0 ->
 ∃g',stepG C.P false g w=.go g' (w.setCell (stA C.L.b) (.int .u64 0)) #[wr (stA C.L.b)]/\∃m,LS C S (Z0 C) m g' (w.setCell (stA C.L.b) (.int .u64 0)))
def XX(S:Nat->Prop)(g:Goroutine)(w:World):Prop:=g.status=.running/\(WgAt C.ty C.L.b w 1 0 ->
 ∃g',stepG C.P false g w=.go g' w #[rd (stA C.L.b)]/\∃m,LS C S (XY C S) m g' w)
def XW(S:Nat->Prop)(g:Goroutine)(w:World):Prop:=g.status=.running/\∀v wt:Nat,wt<=1->v<2147483647->WgAt C.ty C.L.b w ((v+1)*KK+wt) 0 ->
 ∃g',stepG C.P false g w=.go g' (w.setCell (stA C.L.b) (.int .u64 (v*KK+wt))) #[rd (stA C.L.b),wr (stA C.L.b)] /\
  ((v=0/\wt=1)->∃m,LS C S (XX C S) m g' (w.setCell (stA C.L.b) (.int .u64 (v*KK+wt))))/\(¬(v=0/\wt=1)->∃q,QuitsD C.P q 1 g')
def Z6(S:Nat->Prop)(g:Goroutine)(w:World):Prop:=g.status=.running/\∃g',stepG C.P false g w=.go g' w #[mk .disable]/\∃m,LS C S (XW C S) m g' w
def uu:gL:=λS d g w=>d=0/\g.status=.running/\∀w1,cF C.E S w w1->∃g',stepG C.P false g w1=.go g' w1 #[mk (.releaseMerge (stA C.L.b))]/\∃m,LS C S (Z6 C S) m g' w1
def uw(Anc:gL)(p:Nat):gL:=λS d g w=>d=0/\g.status=.running/\∀w1,cF C.E S w w1 ->
 ∃g',stepG C.P false g w1=.go g' (w1.setCell ⟨C.L.h,p,none⟩ (C.AT p)) #[⟨.cell ⟨C.L.h,p,none⟩,true,false⟩]/\fC C.P false C.E Anc S 0 g' (w1.setCell ⟨C.L.h,p,none⟩ (C.AT p))
structure fE(Anc:gL):Prop where
 d:∀{S d g w},Anc S d g w->d=0
 i:∀{S d g w},Anc S d g w->g.status=.running/\g.offers=none
 j:∀{S d g w},Anc S d g w->∀w1,cF C.E S w w1->Anc S d g w1
 b:∀{S d g w},Anc S d g w->∀w1,cF C.E S w w1->stepG C.P false g w1=.comm g #[rcase C.L.e C.z] true (.recv true) w1 #[]
 h:∀{S d g w},Anc S d g w->∀w1,cF C.E S w w1->∀p,p<C.nt->fC C.P false C.E (uw C Anc p) S 0 (Conc.served g (recvd true (C.C1 p) true)) w1
 e:∀{S d g w},Anc S d g w->∀w1,cF C.E S w w1->fC C.P false C.E (uu C) S 0 (Conc.served g (recvd true C.z false)) w1
variable(Anc AncW Fin:gL)
def Kw:gL:=λS d g w=>d=0/\g.status=.running/\∀w1,cF C.E S w w1->∃g',stepG C.P true g w1=.go g' w1 #[mk (.acquire (stA C.L.b))]/\Fin S 0 g' w1
def X7:gL:=λS d g w=>d=1/\g.status=.running/\∀w1,cF C.E S w w1->WgAt C.ty C.L.b w1 0 0->∃g',stepG C.P true g w1=.go g' w1 #[rd (stA C.L.b)]/\fC C.P true C.E (Kw C Fin) S 1 g' w1
def Uk:gL:=λS d g w=>d=1/\g.status=.running/\g.offers=none/\∀w1,cF C.E S w w1 ->
 ((∃a,WgAt C.ty C.L.b w1 a 0)->stepG C.P true g w1=.go {g with status:=.blocked} w1 #[]) /\
 (WgAt C.ty C.L.b w1 0 1->∃g',stepG C.P true g w1=.go g' (w1.setCell (smA C.L.b) (.int .u32 0)) (semEvents (smA C.L.b))/\fC C.P true C.E (X7 C Fin) S 1 g' (w1.setCell (smA C.L.b) (.int .u32 0)))
def X6(vs:Nat):gL:=λS d g w=>d=1/\g.status=.running/\∀w1,cF C.E S w w1->∀v:Nat,v<2147483648->WgAt C.ty C.L.b w1 (v*KK) 0 ->
 (v=vs->∃g',stepG C.P true g w1=.go g' (w1.setCell (stA C.L.b) (.int .u64 (v*KK+1))) #[rd (stA C.L.b),wr (stA C.L.b)]/\fC C.P true C.E (Uk C Fin) S 1 g' (w1.setCell (stA C.L.b) (.int .u64 (v*KK+1)))) /\
 (v≠vs->∃g',stepG C.P true g w1=.go g' w1 #[rd (stA C.L.b)]/\fC C.P true C.E AncW S 1 g' w1)
def EJ:gL:=λS d g w=>d=1/\g.status=.running/\∀w1,cF C.E S w w1->∀v:Nat,v<2147483648->WgAt C.ty C.L.b w1 (v*KK) 0->∃g',stepG C.P true g w1=.go g' w1 #[rd (stA C.L.b)] /\
 (v=0->fC C.P true C.E (Kw C Fin) S 1 g' w1)/\(v≠0->fC C.P true C.E (X6 C AncW Fin v) S 1 g' w1)
def ut:gL:=λS d g w=>d=0/\g.status=.running/\mayWake C.P g=true/\∀w1,cF C.E S w w1->∀s r,w1.heap[C.L.e]?=some (.chan 0 #[] false s r false) ->
 ∃g',stepG C.P true g w1=.go g' (w1.setChan C.L.e 0 #[] true s r false) #[⟨.obj C.L.e,false,true⟩,⟨.obj C.L.e,true,true⟩]/\g'.status=.running/\fC C.P true C.E AncW S 0 g' (w1.setChan C.L.e 0 #[] true s r false)
def tA(p:Nat)(Next:gL):gL:=λS d g w=>d=0/\g.status=.running/\g.offers=none/\∀w1,cF C.E S w w1 ->
 stepG C.P true g w1=.comm g #[scase C.L.e (C.C1 p) C.zs] true .send w1 #[]/\fC C.P true C.E Next S 0 (Conc.served g undef) w1
def sH:Nat->gL
 |0=>ut C AncW
 |r+1=>tA C (C.nt-(r+1)) (sH r)
def oU(Next:gL):gL:=λS d g w=>d=0/\g.status=.running/\∀w1,cF C.E S w w1->∃g' a c e,stepG C.P true g w1=.spawn g' a w1 #[]/\a.status=.running /\
 (∀b,c b->S b)/\(∀b,e b->S b)/\(∀b,c b->¬e b)/\fC C.P false C.E Anc e 0 a w1/\Next c 0 g' w1
def Bt(Next:gL):gL:=λS d g w=>d=1/\g.status=.running/\∀w1,cF C.E S w w1->∀v:Nat,v<2147483647->WgAt C.ty C.L.b w1 (v*KK) 0 ->
 ∃g',stepG C.P true g w1=.go g' (w1.setCell (stA C.L.b) (.int .u64 ((v+1)*KK))) #[rd (stA C.L.b),wr (stA C.L.b)]/\fC C.P true C.E Next S 1 g' (w1.setCell (stA C.L.b) (.int .u64 ((v+1)*KK)))
def mH:Nat->gL
 |0=>fC C.P true C.E (sH C AncW C.nt)
 |r+1=>fC C.P true C.E (Bt C (oU C Anc (mH r)))
end
def qv:Nat->Tr
 |0=>.leaf
 |n+1=>.node λ_=>qv n
inductive WTag where
 |recv|park|woke|busy (p:Nat)|tell|k1|d1|d2|d3|d4|quit (q:Nat)
def WTag.e:WTag->Nat
 |.busy _=>10|.recv=>9|.park=>8|.woke=>7|.tell=>6|.k1=>5|.d1=>4|.d2=>3|.d3=>2|.d4=>1|.quit _=>0
def WTag.h(x:WTag):Bool:=decide (4<=x.e)
def C4(C:dQ)(Anc:gL)(x:WTag)(T:Tr)(S:Nat->Prop)(d:Nat)(g:Goroutine)(w:World):Prop:=match x with
 |.recv=>fL C.P false C.E Anc T S d g w
 |.park=>d=0/\∃a,g=parked a #[rcase C.L.e C.z] (.recv true)/\Anc S 0 a w
 |.woke=>d=0/\∃a,g = {parked a #[rcase C.L.e C.z] (.recv true) with status:=.running}/\Anc S 0 a w
 |.busy p=>fL C.P false C.E (uw C Anc p) T S d g w
 |.tell=>fL C.P false C.E (uu C) T S d g w
 |.k1=>d=0/\∃m,T=qv m/\LS C S (Z6 C S) m g w
 |.d1=>d=1/\∃m,T=qv m/\LS C S (XW C S) m g w
 |.d2=>d=1/\∃m,T=qv m/\LS C S (XX C S) m g w
 |.d3=>d=1/\∃m,T=qv m/\LS C S (XY C S) m g w
 |.d4=>d=1/\∃m,T=qv m/\LS C S (Z0 C) m g w
 |.quit q=>QuitsD C.P q d g
inductive MTag where
 |add (r:Nat)|go (r:Nat)|send (r:Nat)|sendP (r:Nat)|close|w1|w2 (v:Nat)|w3|sem|w4|acq|fin
variable{x x':MTag}
def su(C:dQ)(Anc AncW Fin:gL)(x:MTag)(T:Tr)(S:Nat->Prop)(d:Nat)(g:Goroutine)(w:World):Prop:=match x with
 |.add r=>fL C.P true C.E (Bt C (oU C Anc (mH C Anc AncW r))) T S d g w
 |.go r=>fL C.P true C.E (oU C Anc (mH C Anc AncW r)) T S d g w
 |.send r=>fL C.P true C.E (tA C (C.nt-(r+1)) (sH C AncW r)) T S d g w
 |.sendP r=>d=0/\∃a,g=parked a #[scase C.L.e (C.C1 (C.nt-(r+1))) C.zs] .send/\tA C (C.nt-(r+1)) (sH C AncW r) S 0 a w
 |.close=>fL C.P true C.E (ut C AncW) T S d g w
 |.w1=>fL C.P true C.E (EJ C AncW Fin) T S d g w
 |.w2 v=>fL C.P true C.E (X6 C AncW Fin v) T S d g w
 |.w3=>fL C.P true C.E (Uk C Fin) T S d g w
 |.sem=>d=1/\∃a,(g=a\/g = {a with status:=.blocked})/\Uk C Fin S 1 a w
 |.w4=>fL C.P true C.E (X7 C Fin) T S d g w
 |.acq=>fL C.P true C.E (Kw C Fin) T S d g w
 |.fin=>Fin S d g w
def Sub(a b:Tr):Prop:=∃f w,b=.node f/\a=f w
def YG:WellFounded Sub:=by
 refine⟨λT=>?_⟩;induction T with
 |leaf=>exact⟨_,λa ⟨f,w,h,_⟩=>by cases h⟩
 |node f b=>exact⟨_,λa ⟨f',w,h,e⟩=>by cases h;subst e;exact b w⟩
def Fa(n:Nat):Sub (qv n) (qv (n+1)):=⟨_,default,rfl,rfl⟩
def TY:Nat×Tr->Nat×Tr->Prop:=Prod.Lex (· < ·) Sub
def Yv:WellFounded TY:=(Prod.lex ⟨(· < ·),Nat.lt_wfRel.wf⟩ ⟨Sub,YG⟩).wf
def XZ{α:Type}(r:α->α->Prop)(n:Nat)(f' f:Nat->α):Prop:=∃i,i<n/\r (f' i) (f i)/\∀j,j≠i->f' j=f j
def KE{r:α->α->Prop}(j:WellFounded r):∀(n:Nat) (f:Nat->α),Acc (XZ r n) f
 |0,f=>⟨_,λf' ⟨i,h,_⟩=>absurd h (gV _)⟩
 |n+1,f=>by
  have a:∀x,∀f:Nat->α,f n=x->Acc (XZ r (n+1)) f:=by
   intro x;induction x using j.induction with
   |_ x c=>
    intro f k;have h:=KE j n f;induction h with
    |intro f _ d=>
     refine⟨_,λf' ⟨i,m,g,l⟩=>?_⟩;by_cases b:i=n;subst b;rw[k]at g;exact c _ g f' rfl;refine d f' ⟨i,ak,g,l⟩ ?_;rw[l n (λe=>b e.symm),k]
  exact a _ f rfl
abbrev Zz:=Nat×(Nat×((Nat×(Nat->Nat×Tr))×Nat))
def X0(a b:Nat×(Nat->Nat×Tr)):Prop:=a.1=b.1/\XZ TY b.1 a.2 b.2
def Ux:WellFounded X0:=by
 refine⟨λ⟨n,f⟩=>?_⟩;have h:=KE Yv n f;induction h with
 |intro f _ b=>exact⟨_,λ⟨m,g⟩ ⟨a,c⟩=>by dsimp only at a;subst a;exact b g c⟩
def Lt:Zz->Zz->Prop:=Prod.Lex (· < ·) (Prod.Lex (· < ·) (Prod.Lex X0 (· < ·)))
def aap:WellFounded Lt:=(Prod.lex ⟨(· < ·),Nat.lt_wfRel.wf⟩ (Prod.lex ⟨(· < ·),Nat.lt_wfRel.wf⟩ (Prod.lex ⟨X0,Ux⟩ ⟨(· < ·),Nat.lt_wfRel.wf⟩))).wf
def yZ{a a' v:Nat}(h:a'<a):Lt (a',v',(n',f'),s') (a,v,(n,f),s):=.left _ _ h
def UW{a v:Nat}(h:v'<v):Lt (a,v',(n',f'),s') (a,v,(n,f),s):=.right _ (.left _ _ h)
def aao{a v:Nat}(h:XZ TY n f' f):Lt (a,v,(n,f'),s') (a,v,(n,f),s):=.right _ (.right _ (.left _ _ ⟨rfl,h⟩))
def ab0{a v:Nat}(h:s'<s):Lt (a,v,(n,f),s') (a,v,(n,f),s):=.right _ (.right _ (.right _ h))
def YB{P:Ft}{r:α->α->Prop}(f:WellFounded r)(b:α->Machine->Trace->Prop)(Q:Machine->Trace->Prop)(h:∀μ m t,b μ m t->Q m t\/∃m' a c,stepT P m=(.next m',a)/\r c μ/\b c m' (t++a)):
  ∀μ m t,b μ m t->∃n m' e,runNT P n m t=(.next m',e)/\Q m' e:=by
 intro μ;induction μ using f.induction with
 |_ μ g=>
  intro m t i;rcases h μ m t i with j|⟨m',a,c,k,l,d⟩
  exact⟨0,m,t,rfl,j⟩;obtain⟨n,o,p,q,s⟩:=g c l m' (t++a) d;exact⟨n+1,o,p,by rw[runNT_succ_next k];exact q,s⟩
def Qe(C:dQ):MTag->Nat
 |.add r|.go r=>C.nw-(r+1)
 |_=>C.nw
def EZ(C:dQ):MTag->Nat
 |.add _|.go _=>0
 |.send r|.sendP r=>C.nt-(r+1)
 |_=>C.nt
def lS:MTag->Bool
 |.add _|.go _|.send _|.sendP _|.close=>false
 |_=>true
def Df:MTag->Nat
 |.go _=>1
 |_=>0
def BV(C:dQ):MTag->Prop
 |.add r|.go r=>r<C.nw
 |.send r|.sendP r=>r<C.nt
 |.w2 v=>v≠0
 |.fin=>False
 |_=>True
def WTag.j:WTag->Bool
 |.d2|.d3|.d4=>true
 |_=>false
variable{tg:Nat->WTag}{y:WTag}
def A3(C:dQ)(tg:Nat->WTag)(i:Nat):Nat:=if decide (C.dT<=i)&&(tg i).h then 1 else 0
def Vc(C:dQ)(tg:Nat->WTag)(n:Nat):Nat:=sumTo n (A3 C tg)
def qr(C:dQ)(x:MTag)(tg:Nat->WTag)(n:Nat)(a b:Int):Prop:=match x with
 |.w3|.sem=>
  (1<=Vc C tg n/\a=Vc C tg n*KK+1/\b=0/\∀i,i<n->(tg i).j=false) \/
  (Vc C tg n=0/\b=0/\∃l,C.dT<=l/\l<n/\(((tg l=.d2\/tg l=.d3)/\a=1)\/(tg l=.d4/\a=0))/\∀i,i<n->i≠l->(tg i).j=false) \/
  (Vc C tg n=0/\a=0/\b=1/\∀i,i<n->(tg i).j=false)
 |.w4|.acq|.fin=>Vc C tg n=0/\a=0/\b=0/\∀i,i<n->(tg i).j=false
 |_=>a=(Vc C tg n+Df x:Nat)*KK/\b=0/\∀i,i<n->(tg i).j=false
def Mh(tg:Nat->WTag)(x:MTag)(Tm:Nat->Tr)(i:Nat):Nat×Tr:=if i=0 then (match x with|.sendP _=>(0,.leaf)|_=>(1,Tm 0)) else match tg i with
 |.quit q=>(0,qv q)
 |.park=>(8,.leaf)
 |.woke=>(7,.leaf)
 |y=>(y.e,Tm i)
def H7(C:dQ):MTag->Nat
 |.add r=>C.nt+32+2*r
 |.go r=>C.nt+31+2*r
 |.send r|.sendP r=>21+r
 |.close=>20
 |.w1|.w2 _=>10
 |.w3=>9
 |.sem=>8
 |.w4=>7
 |.acq=>6
 |.fin=>5
def Vp(x:MTag)(V:Nat):Nat:=match x with
 |.w2 v=>if v=V then 3*V else 3*V+2
 |_=>3*V+1
def sOf(x:MTag)(a:Goroutine):Nat:=match x with
 |.sem=>if a.status=.running then 1 else 0
 |_=>0
structure fK(C:dQ)(Anc AncW Fin:gL)(Shun:Loc->Prop)(x:MTag)(tg:Nat->WTag)(Tm:Nat->Tr)(Sn:Nat->Nat->Prop)(dn:Nat->Nat)(wn:Nat->World)(stored:Nat->Prop)(rel:Nat->Option Nat)(a:Goroutine)(gs:Array Goroutine)(w:World)(t:Trace):Prop where
 j:gs[0]?=some a
 u:su C Anc AncW Fin x (Tm 0) (Sn 0) (dn 0) a (wn 0)
 p:∀i g,0<i->gs[i]?=some g->C4 C Anc (tg i) (Tm i) (Sn i) (dn i) g (wn i)
 e:∀i,i<gs.size->cF C.E (Sn i) (wn i) w
 o:∀i,i<gs.size->Deaf t i=dn i
 s:∀i,gs.size<=i->Deaf t i=0
 y:TI C.L Shun (C.dT<=·) (λk=>k=0\/(C.dT<=k/\k<gs.size)) Sn stored rel w.heap.size t
 h:Ap C.L Sn w.heap.size
 B:∀i,gs.size<=i->∀b,¬Sn i b
 A:∀op∈t,op.g<gs.size
 F:x=.sem->WgAt C.ty C.L.b w 0 1->a.status=.running
structure gm(C:dQ)(x:MTag)(tg:Nat->WTag)(stored:Nat->Prop)(rel:Nat->Option Nat)(n:Nat)(w:World):Prop where
 h:1<=C.dT
 A:n=C.dT+Qe C x
 H:BV C x
 I:∀i,i<C.dT->∃q,tg i=.quit q
 t:∃s r,w.heap[C.L.e]?=some (.chan 0 #[] (lS x) s r false)
 b:∃st sm,WgAt C.ty C.L.b w st sm/\qr C x tg n st sm
 e:∀i,C.dT<=i->i<n->((tg i).e<=5->∃p,rel i=some p)/\(6<=(tg i).e->rel i=none)
 F:∀i,n<=i->rel i=none
 u:lS x=false->∀i,C.dT<=i->i<n->tg i=.recv\/tg i=.park\/∃p,tg i=.busy p
 J:lS x=true->∀i,i<n->tg i≠.park
 O:∀r,x=.sendP r->∀i,i<n->tg i≠.park
 B:∀p,p<EZ C x->stored p\/∃i,C.dT<=i/\i<n/\tg i=.busy p
 y:∀i p,C.dT<=i->i<n->tg i=.busy p->p<EZ C x/\¬stored p
 two:∀i j p,C.dT<=i->i<n->C.dT<=j->j<n->tg i=.busy p->tg j=.busy p->i=j
 o:∃cs,w.heap[C.L.h]?=some (.cells cs C.ta)/\cs.size=C.nt/\∀p,stored p->p<EZ C x/\cs[p]?=some (C.AT p)
def XV(C:dQ)(Anc AncW Fin:gL)(Shun:Loc->Prop)(μ:Zz)(m:Machine)(t:Trace):Prop:=
 ∃x tg Tm Sn dn wn stored rel a gs w sl,m=crowd gs w sl/\fK C Anc AncW Fin Shun x tg Tm Sn dn wn stored rel a gs w t/\gm C x tg stored rel gs.size w/\μ=(H7 C x,Vp x (Vc C tg gs.size),(gs.size,Mh tg x Tm),sOf x a)
section
variable{C:dQ}{Anc AncW Fin:gL}
def C4.e(n:fE C Anc)(h:C4 C Anc y T S d g w)(j:cF C.E S w w1):(y=.park/\g.status=.blocked)\/(y≠.park/\(g.status=.running\/∃q,y=.quit q/\(g.status=.running\/g.status=.finished))):=by
 have go:∀{a:gL},(∀{S d g w},a S d g w->g.status=.running)->fL C.P false C.E a T S d g w->g.status=.running:=λc k=>by
  cases T with
  |leaf=>exact c k
  |node f=>exact k.1
 have b:∀{a:E4->Ba->Prop} {m:Nat},(∀{g w},a g w->g.status=.running)->LS C S a m g w->g.status=.running:=λc l=>by
  rename_i m;cases m with
  |zero=>exact c (l w1 j)
  |succ m=>exact l.elim (λq=>c (q w1 j)) λq=>q.1
 cases y with
 |recv=>exact .inr ⟨aY,.inl (go (λh=>(n.i h).1) h)⟩
 |park=>obtain⟨_,o,rfl,_⟩:=h;exact .inl ⟨rfl,rfl⟩
 |woke=>obtain⟨_,o,rfl,_⟩:=h;exact .inr ⟨aY,.inl rfl⟩
 |busy p=>exact .inr ⟨aY,.inl (go (λh=>h.2.1) h)⟩
 |tell=>exact .inr ⟨aY,.inl (go (λh=>h.2.1) h)⟩
 |k1=>let ⟨_,m,_,h⟩:=h;exact .inr ⟨aY,.inl (b (λh=>h.1) h)⟩
 |d1=>let ⟨_,m,_,h⟩:=h;exact .inr ⟨aY,.inl (b (λh=>h.1) h)⟩
 |d2=>let ⟨_,m,_,h⟩:=h;exact .inr ⟨aY,.inl (b (λh=>h.1) h)⟩
 |d3=>let ⟨_,m,_,h⟩:=h;exact .inr ⟨aY,.inl (b (λh=>h.1) h)⟩
 |d4=>let ⟨_,m,_,h⟩:=h;exact .inr ⟨aY,.inl (b (λh=>h.1) h)⟩
 |quit q=>exact .inr ⟨aY,.inr ⟨q,rfl,QuitsD.status h⟩⟩
def C4.h(c:fE C Anc)(h:C4 C Anc y T S d g w)(f:cF C.E S w w1)(i:y=.park->w'.heap[C.L.e]?=some (.chan 0 #[] false s r false)):Conc.woken C.P b b' w' g=g:=by
 rcases h.e c f with⟨rfl,_⟩|⟨_,a|⟨q,_,a⟩⟩
 obtain⟨_,j,rfl,_⟩:=h;exact woken_recv_open b b' (i rfl);exact woken_run a;unfold Conc.woken;split;exact again_running _ a;rfl
def su.h(hF:∀{S d g w},Fin S d g w->g.status=.running)(h:su C Anc AncW Fin x T S d g w)(m:∀n,x=.sendP n->w'.heap[C.L.e]?=some (.chan 0 #[] false s r false)):
  su C Anc AncW Fin x T S d (Conc.woken C.P b b' w' g) w:=by
 have go:∀{a:gL},(∀{S d g w},a S d g w->g.status=.running)->fL C.P true C.E a T S d g w->fL C.P true C.E a T S d (Conc.woken C.P b b' w' g) w:=λo i=>by
  have:g.status=.running:=by
   cases T with
   |leaf=>exact o i
   |node f=>exact i.1
  rw[woken_run this];exact i
 cases x with
 |add r=>exact go (λh=>h.2.1) h
 |go r=>exact go (λh=>h.2.1) h
 |send r=>exact go (λh=>h.2.1) h
 |sendP r=>
  obtain⟨j,c,rfl,h0⟩:=h;rw[woken_send_open b b' (m r rfl)];exact⟨j,c,rfl,h0⟩
 |close=>exact go (λh=>h.2.1) h
 |w1=>exact go (λh=>h.2.1) h
 |w2 v=>exact go (λh=>h.2.1) h
 |w3=>exact go (λh=>h.2.1) h
 |sem=>
  let ⟨j,c,p,h0⟩:=h
  refine⟨j,c,?_,h0⟩;rcases p with rfl|rfl
  exact .inl (woken_run h0.2.1);unfold Conc.woken;split;left;have k:=h0.2.1;have l:=h0.2.2.1;let ⟨q,t,u,y,z⟩:=c
  dsimp only at k l;subst k l;rfl;exact .inr rfl
 |w4=>exact go (λh=>h.2.1) h
 |acq=>exact go (λh=>h.2.1) h
 |fin=>
  have:=hF h;show Fin S d (Conc.woken C.P b b' w' g) w;rw[woken_run this];exact h
def up{α:Type}(f:Nat->α)(i:Nat)(x:α):Nat->α:=λa=>if a=i then x else f a
def cu{f:Nat->α}{x:α}:up f i x i=x:=aH rfl
def cV{f:Nat->α}{a:Nat}{x:α}(h:a≠i):up f i x a=f a:=ay h
def fK.at(h:fK C Anc AncW Fin Shun x tg Tm Sn dn wn stored rel a gs w t)(d:Nat):fK C Anc AncW Fin Shun x tg Tm Sn dn wn stored rel a gs (w.at d) t:=
 ⟨h.j,h.u,h.p,λi b=>have r:=h.e i b;⟨r.i,r.s,r.p,r.t,r.u,r.o,r.h⟩,h.o,h.s,h.y,h.h,h.B,h.A,h.F⟩
def gm.at(h:gm C x tg stored rel n w)(d:Nat):gm C x tg stored rel n (w.at d):=
 ⟨h.h,h.A,h.H,h.I,h.t,h.b,h.e,h.F,h.u,h.J,h.O,h.B,h.y,h.two,h.o⟩
structure xH(C:dQ)(S S':Nat->Prop)(w w2:World):Prop where
 p:w.heap.size<=w2.heap.size
 t:w2.tape=w.tape
 x:w2.os=w.os
 o:w2.output=w.output
 i:∀b,b<w.heap.size->¬S b->b≠C.L.b->b≠C.L.e->b≠C.L.h->w2.heap[b]?=w.heap[b]?
 s:C.E.J w2
 y:∀b,S b->S' b
 u:∀b,S' b->S b\/(w.heap.size<=b/\b<w2.heap.size)
def Ap.j(ap:Ap C.L Sn w.heap.size)(l:xH C (Sn i) S' w w2):Ap C.L (up Sn i S') w2.heap.size:=by
 have d:=l.p;have c:∀k b,up Sn i S' k b->Sn k b\/(k=i/\w.heap.size<=b/\b<w2.heap.size):=λk b a=>by
  by_cases f:k=i;subst f;rw[cu]at a;exact(l.u b a).imp id λq=>⟨rfl,q⟩;rw[cV f]at a;exact .inl a
 refine⟨λk b a=>?_,λk b a hF=>?_,λk a=>?_,λk a=>?_,λk a=>?_,λj k b m f=>?_,ap.I,ap.H,ap.C,ap.t,ap.y,ap.A,λb a=>aN (ap.o b a) d,aN ap.h d,aN ap.e d,aN ap.i d⟩;rcases c k b a with q|q
 exact aN (ap.p k b q) d;exact q.2.2;rcases c k b a with q|q
 exact ap.s k b q hF;have:=ap.o b hF;omega;rcases c k _ a with q|q
 exact ap.x k q;have:=ap.h;omega;rcases c k _ a with q|q
 exact ap.w k q;have:=ap.e;omega;rcases c k _ a with q|q
 exact ap.u k q;have:=ap.i;omega;rcases c j b m with q|q<;>rcases c k b f with g|g
 exact ap.two j k b q g;have:=ap.p j b q;omega;have:=ap.p k b g;omega;exact q.1.trans g.1.symm
def fK.H(h:fK C Anc AncW Fin Shun x tg Tm Sn dn wn stored rel a gs w t)(f:xH C (Sn i) S' w w2):∀j,j<gs.size->cF C.E (up Sn i S' j) (up wn i w2 j) w2:=by
 intro j g;by_cases d:j=i;subst d;rw[cu,cu];exact cF.j _ f.s;rw[cV d,cV d];have r:=h.e j g;have ap:=h.h;refine⟨λb c=>?_,λb c=>?_,aO r.p f.p,f.t.trans r.t,f.x.trans r.u,f.o.trans r.o,f.s⟩;rw[f.i b (ap.p j b c) (λq=>d (ap.two _ _ b c q)) (λe=>by subst e;exact ap.x j c) (λe=>by subst e;exact ap.w j c) (λe=>by subst e;exact ap.u j c)];exact r.i b c;rw[f.i b (ap.o b c) (λq=>ap.s i b q c) (λe=>by subst e;exact ap.I c) (λe=>by subst e;exact ap.H c) (λe=>by subst e;exact ap.C c)];exact r.s b c
def fK.ah(h:fK C Anc AncW Fin Shun x tg Tm Sn dn wn stored rel a gs w t)(N:i<gs.size)(I:0<i)(f:gs'.size=gs.size)(n:gs'[i]?=some g')(q:gs'[0]?=some a')(J:su C Anc AncW Fin x (Tm 0) (Sn 0) (dn 0) a' (wn 0))(r:∀j g0,0<j->j≠i->gs'[j]?=some g0->gs[j]?=some g0)(l:C4 C Anc y T S' d' g' w2)(E:xH C (Sn i) S' w w2)(F:∀j,Deaf (t++u) j=if j=i then d' else Deaf t j)(v:TI C.L Shun (C.dT<=·) (λk=>k=0\/(C.dT<=k/\k<gs.size)) (up Sn i S') stored' rel' w2.heap.size (t++u))(K:∀m∈u,m.g<gs.size)(z:x=.sem->WgAt C.ty C.L.b w2 0 1->a'.status=.running):
  fK C Anc AncW Fin Shun x (up tg i y) (up Tm i T) (up Sn i S') (up dn i d') (up wn i w2) stored' rel' a' gs' w2 (t++u):=by
 have d:(0:Nat)≠i:=ak;refine⟨q,?_,λj g0 e D=>?_,λj e=>h.H E j ak,λj e=>?_,λj e=>?_,f▸v,h.h.j E,λj e b G=>?_,λm M=>?_,z⟩;rw[cV d,cV d,cV d,cV d];exact J;by_cases c:j=i;subst c;rw[n]at D;cases D;rw[cu,cu,cu,cu,cu];exact l;rw[cV c,cV c,cV c,cV c,cV c];exact h.p j g0 e (r j g0 e c D);rw[F j];by_cases c:j=i;subst c;rw[aH rfl,cu];rw[ay c,cV c];exact h.o j ak;rw[F j,ay ak];exact h.s j ak;rw[cV ak]at G;exact h.B j ak b G;rw[f];exact(cE.1 M).elim (h.A m) (K m)
def fK.ac(h:fK C Anc AncW Fin Shun x tg Tm Sn dn wn stored rel a gs w t)(e:gs'.size=gs.size)(l:gs'[0]?=some a')(m:∀j g0,0<j->gs'[j]?=some g0->gs[j]?=some g0)(f:su C Anc AncW Fin x' T S' d' a' w2)(r:xH C (Sn 0) S' w w2)(v:∀j,Deaf (t++u) j=if j=0 then d' else Deaf t j)(n:TI C.L Shun (C.dT<=·) (λk=>k=0\/(C.dT<=k/\k<gs.size)) (up Sn 0 S') stored' rel' w2.heap.size (t++u))(z:∀i∈u,i.g<gs.size)(q:x'=.sem->WgAt C.ty C.L.b w2 0 1->a'.status=.running):
  fK C Anc AncW Fin Shun x' tg (up Tm 0 T) (up Sn 0 S') (up dn 0 d') (up wn 0 w2) stored' rel' a' gs' w2 (t++u):=by
 have D:0<gs.size:=(ar.1 h.j).1;refine⟨l,?_,λj g0 d E=>?_,λj d=>h.H r j ak,λj d=>?_,λj d=>?_,e▸n,h.h.j r,λj d b y=>?_,λi F=>?_,q⟩;rw[cu,cu,cu,cu];exact f;rw[cV ak,cV ak,cV ak,cV ak];exact h.p j g0 d (m j g0 d E);rw[v j];by_cases c:j=0;subst c;rw[aH rfl,cu];rw[ay c,cV c];exact h.o j ak;rw[v j,ay ak];exact h.s j ak;rw[cV ak]at y;exact h.B j ak b y;rw[e];exact(cE.1 F).elim (h.A i) (z i)
end
section
variable{C:dQ}{Anc AncW Fin:gL}
theorem DL:(λj=>if j=i then S' else Sn j)=up Sn i S':=rfl
def wh:(λp=>stored p\/(λ_:Nat=>False) p)=stored:=by funext p;simp
def fK.al(h:fK C Anc AncW Fin Shun x tg Tm Sn dn wn stored rel a gs w t)(s:mb=true->i=0)(M:i=0\/(C.dT<=i/\i<gs.size))(H:1<=C.dT)(P:C.dT<=i->rel i=none)(I:sr C.E mb (Sn i) w w2 es)(fn:FuncId)(v:String):
  TI C.L Shun (C.dT<=·) (λk=>k=0\/(C.dT<=k/\k<gs.size)) (up Sn i (jF (Sn i) w w2)) stored rel w2.heap.size (t++MemOp.ofEvents i fn v es):=by
 have J:=I.i;have:=h.y.j h.h (u:=MemOp.ofEvents i fn v es) (k:=i) (B':=w2.heap.size) (S':=jF (Sn i) w w2) (nw:=λ_=>False) M (λK n=>by obtain⟨e,_,rfl⟩:=Conc.mem_ofEvents n;rfl) (λK n y d N=>?_) (λ_ q=>q.elim) (λb H=>H.imp id λq=>q.1) (λb H=>.inl H) J (λK n=>?_)
  (λQ p O=>by rw[P Q]at O;cases O) (λK n=>?_) (λh0=>M.elim (λq=>absurd q h0) (λq=>q.1))
 rw[DL,wh]at this;exact this;obtain⟨e,z,rfl⟩:=Conc.mem_ofEvents n;have c:=I.p e z;let ⟨g,A,B⟩:=e
 cases g with
 |cell D=>
  simp only[MemAct.ofEvent,MemAct.touch?,ba]at d;subst d;rcases c with (q|q)|q
  exact .inl q;exact .inr (.inl q.1);exact .inr (.inr (.inl q))
 |obj r=>
  cases A<;>cases B<;>simp only[MemAct.ofEvent,MemAct.touch?,ba,reduceCtorEq]at d<;>(subst d;exact c.imp id λq=>.inl q.1)
 |mark m=>
  rcases c with rfl|⟨f,rfl⟩|⟨_,rfl⟩|⟨_,rfl⟩|⟨F,D,l,rfl|rfl⟩<;>simp only[MemAct.ofEvent,MemAct.touch?,ba,reduceCtorEq]at d
  subst d;exact .inr (.inr (.inr (.inl ⟨l,.inr ⟨rfl,s F⟩⟩)));subst d;exact .inr (.inr (.inr (.inl ⟨l,.inr ⟨rfl,s F⟩⟩)))
 |output=>simp only[MemAct.ofEvent,MemAct.touch?,ba]at d;subst d;cases N
 |goroutines=>simp only[MemAct.ofEvent,MemAct.touch?,ba]at d;subst d;cases N
 obtain⟨e,z,rfl⟩:=Conc.mem_ofEvents n;have c:=I.p e z;have G:∀b,jF (Sn i) w w2 b->b<w2.heap.size:=λb q=>q.elim (λq=>aN (h.h.p i b q) J) λq=>q.2;let ⟨g,A,B⟩:=e
 cases g with
 |cell D=>exact c.elim (G _) λq=>aN (h.h.o _ q.1) J
 |obj r=>cases A<;>cases B<;>exact G _ c
 |mark m=>
  rcases c with rfl|⟨f,rfl⟩|⟨_,rfl⟩|⟨_,rfl⟩|⟨_,D,l,rfl|rfl⟩<;>first|trivial|(show D.block<_;rw[l];exact aN h.h.h J)
 |output=>trivial
 |goroutines=>trivial
 obtain⟨e,z,rfl⟩:=Conc.mem_ofEvents n;have c:=I.p e z;let ⟨g,A,B⟩:=e
 cases g with
 |obj r=>cases A<;>cases B<;>rfl
 |mark m=>rcases c with rfl|⟨f,rfl⟩|⟨_,rfl⟩|⟨_,rfl⟩|⟨_,D,l,rfl|rfl⟩<;>rfl
 |_=>rfl
def sr.e(ap:Ap C.L Sn w.heap.size)(c:C.E.J w)(a:sr C.E mb (Sn i) w w2 es):xH C (Sn i) (jF (Sn i) w w2) w w2:=by
 refine⟨a.i,a.o,a.s,a.j,λb d f _ _ _=>a.h b d f,?_,λb q=>.inl q,λb q=>q⟩;obtain⟨⟨g,k,l⟩,⟨m,s,r,n⟩,p,t,v⟩:=c;exact⟨⟨g,k,by unfold WgAt at *;rw[(a.h _ ap.h (ap.x i))];exact l⟩,⟨m,s,r,by rw[(a.h _ ap.e (ap.w i))];exact n⟩,p,by rw[(a.h _ ap.i (ap.u i))];exact t,v⟩
def yH{fn:FuncId}(a:String)(es:Array Event)(c:Deaf t i=d):∀j,Deaf (t++MemOp.ofEvents i fn a es) j=if j=i then deafBehind d es else Deaf t j:=by
 intro j;by_cases b:j=i;subst b;rw[aH rfl,Deaf_own,c];rw[ay b];exact Deaf_other t (λe=>b e.symm) _ λg f=>by obtain⟨e,_,rfl⟩:=Conc.mem_ofEvents f;rfl
def fK.ab(h:fK C Anc AncW Fin Shun x tg Tm Sn dn wn stored rel a gs w t)(l:fE C Anc)(d:(∃s r,w2.heap[C.L.e]?=some (.chan 0 #[] false s r false))\/∀i,i<gs.size->tg i≠.park):
  ∀j f,0<j->j≠i->((gs.map (woken C.P b b' w2)).setIfInBounds i g')[j]?=some f->gs[j]?=some f:=by
 intro j f o g m;rw[aM (λe=>g e.symm),b9]at m;obtain⟨y,k,rfl⟩:=bS.1 m;have c:=(ar.1 k).1;have n:=h.p j y o k;have e:woken C.P b b' w2 y=y:=by
  rcases d with⟨s,r,hc⟩|d
  exact n.h l (h.e j c) (s:=s) (r:=r) λ_=>hc;exact n.h l (h.e j c) (s:=0) (r:=0) λq=>absurd q (d j c)
 rw[e];exact k
def fK.ap(h:fK C Anc AncW Fin Shun x tg Tm Sn dn wn stored rel a gs w t)(hF:∀{S d g w},Fin S d g w->g.status=.running)(c:∀f,x=.sendP f->w2.heap[C.L.e]?=some (.chan 0 #[] false s r false))(k:0<i):
  ((gs.map (woken C.P b b' w2)).setIfInBounds i g')[0]?=some (woken C.P b b' w2 a)/\su C Anc AncW Fin x (Tm 0) (Sn 0) (dn 0) (woken C.P b b' w2 a) (wn 0):=by
 refine⟨?_,h.u.h hF c⟩;rw[aM ak,b9,h.j];rfl
end
def IR{f g:Nat->Nat}:∀{n:Nat},i<n->(∀j,j≠i->f j=g j)->sumTo n f+g i=sumTo n g+f i
 |n+1,h,a=>by
  rcases bX i n with b|c
  have:=IR b a;simp only[sumTo,a n ak];omega;obtain rfl:i=n:=ak;simp only[sumTo];rw[sumTo_congr λj d=>a j ak];omega
def DI{f:Nat->Nat}:∀{n:Nat},i<n->f i<=sumTo n f
 |n+1,h=>by
  rcases bX i n with a|b
  have:=DI (f:=f) a;simp only[sumTo];omega;obtain rfl:i=n:=ak;simp only[sumTo];omega
def QQ{f:Nat->Nat}:∀{n:Nat},sumTo n f=0->∀i,i<n->f i=0:=λ{n} h i a=>by
 have:=DI (f:=f) a;omega
def QP{f:Nat->Nat}{b:Nat}(a:∀i,f i<=1)(h0:∀i,i<b->f i=0):∀{n:Nat},sumTo n f<=n-b
 |0=>by simp[sumTo]
 |n+1=>by
  have:=QP (f:=f) a h0 (n:=n);have h:=a n;simp only[sumTo];rcases bX n b with q|q
  rw[h0 n q];omega;omega
section
variable{C:dQ}{Anc AncW Fin:gL}
def ib(hc:(tg i).h=y.h):Vc C (up tg i y) n=Vc C tg n:=by
 refine sumTo_congr λj _=>?_;unfold A3;by_cases h:j=i;subst h;rw[cu,hc];rw[cV h]
def Uj(a:i<n)(b:C.dT<=i)(c:(tg i).h=true)(d:y.h=false):Vc C (up tg i y) n+1=Vc C tg n:=by
 have:=IR (f:=A3 C (up tg i y)) (g:=A3 C tg) a (λj e=>by unfold A3;rw[cV e]);have k:A3 C (up tg i y) i=0:=by unfold A3;rw[cu,d];simp
 have l:A3 C tg i=1:=by unfold A3;rw[c];simp[b]
 unfold Vc;omega
def fW(y:WTag)(T:Tr):Nat×Tr:=match y with
 |.quit q=>(0,qv q)
 |.park=>(8,.leaf)
 |.woke=>(7,.leaf)
 |y=>(y.e,T)
def BF(a:0<i):Mh tg x Tm i=fW (tg i) (Tm i):=by
 unfold Mh;rw[ay ak];cases tg i<;>rfl
def qM(d:i<n)(a:0<i)(h:TY (fW y T) (fW (tg i) (Tm i))):XZ TY n (Mh (up tg i y) x (up Tm i T)) (Mh tg x Tm):=by
 refine⟨i,d,by rw[BF a,BF a,cu,cu];exact h,λj c=>?_⟩;rcases fM j with rfl|b
 unfold Mh;rw[aH rfl,aH rfl,cV c];rw[BF b,BF b,cV c,cV c]
def x8(h:Sub T' T):TY (r,T') (r,T):=.right _ h
def jI{a:Nat}(h:a<r):TY (a,T') (r,T):=.left _ _ h
def ui(C:dQ)(Anc AncW Fin:gL)(Shun:Loc->Prop)(μ:Zz)(t:Trace)(r:Stepped×Array MemOp):Prop:=∃b a c,r=(.next b,a)/\Lt c μ/\XV C Anc AncW Fin Shun c b (t++a)
abbrev ga (C:dQ) (x:MTag) (tg:Nat->WTag) (Tm:Nat->Tr) (a:Goroutine) (n:Nat):Zz:=(H7 C x,Vp x (Vc C tg n),(n,Mh tg x Tm),sOf x a)
def zE(K:fE C Anc)(hF:∀{S d g w},Fin S d g w->g.status=.running)(h:fK C Anc AncW Fin Shun x tg Tm Sn dn wn stored rel a gs w t)(l:gm C x tg stored rel gs.size w)(D:gs[i]?=some g)(m:0<i)(v:stepG C.P false g w=.go g' w2 es)(n:C4 C Anc y T S' (deafBehind (dn i) es) g' w2)(M:xH C (Sn i) S' w w2)(z:TI C.L Shun (C.dT<=·) (λk=>k=0\/(C.dT<=k/\k<gs.size)) (up Sn i S') stored' rel' w2.heap.size (t++MemOp.ofEvents i g.frame.fn g.frame.place es))(E:gm C x (up tg i y) stored' rel' gs.size w2)(f:w2.heap[C.L.b]?=w.heap[C.L.b]?\/¬WgAt C.ty C.L.b w2 0 1\/(mayWake C.P g=true/\(g'.status=.running\/g'.status=.finished)))(N:∀a',Lt (ga C x (up tg i y) (up Tm i T) a' gs.size) (ga C x tg Tm a gs.size)):ui C Anc AncW Fin Shun (ga C x tg Tm a gs.size) t (runT C.P (crowd gs w sl) i):=by
 have c:=(ar.1 D).1;have p:(i==0)=false:=fS;let ⟨s,r,j⟩:=E.t
 have O:(∃s r,w2.heap[C.L.e]?=some (.chan 0 #[] false s r false))\/∀i,i<gs.size->tg i≠.park:=by
  cases hcl:lS x with
  |false=>rw[hcl]at j;exact .inl ⟨s,r,j⟩
  |true=>exact .inr (l.J hcl)
 let ⟨Q,R⟩:=h.ap hF (b:=g) (b':=g') (w2:=w2) (s:=s) (r:=r) (λV e=>by subst e;exact j) m (g':=g')
 refine⟨_,_,_,(runT_crowd_go (P:=C.P) (sl:=sl) (i:=i) D (p▸v)),N (woken C.P g g' w2 a),_,_,_,_,_,_,_,_,_,_,_,_,rfl,h.ah (gs':=(gs.map (woken C.P g g' w2)).setIfInBounds i g') c m aY (by rw[aV (dD c)]) Q R (h.ab K O) n M (yH _ es (h.o i c)) z (λW U=>?_) (λG H=>?_),dD E,aY⟩;obtain⟨e,_,rfl⟩:=Conc.mem_ofEvents U;exact c;rcases f with f|f|⟨f,A⟩
 have q:=h.F G (by unfold WgAt at *;rw[<-f];exact H);rw[woken_run q];exact q;exact absurd H f;have I:=h.u;rw[G]at I;let ⟨_,X,B,h0⟩:=I
 have q:=h0.2.1;unfold woken;rw[aH (by rw[f];rcases A with e|e<;>rw[e]<;>rfl)];rcases B with rfl|rfl
 unfold Goroutine.again;rw[q];exact q;unfold Goroutine.again;dsimp only;rw[h0.2.2.1]
def gm.ac(l:gm C x tg stored rel n w)(a:w2.heap[C.L.b]?=w.heap[C.L.b]?)(c:w2.heap[C.L.e]?=w.heap[C.L.e]?)(d:w2.heap[C.L.h]?=w.heap[C.L.h]?):gm C x tg stored rel n w2:=
 ⟨l.h,l.A,l.H,l.I,c▸l.t,by unfold WgAt;rw[a];exact l.b,l.e,l.F,l.u,l.J,l.O,l.B,l.y,l.two,d▸l.o⟩
def jl(f:Nat->α)(i:Nat):up f i (f i)=f:=by
 funext j;by_cases h:j=i;subst h;exact cu;exact cV h
def qd{V a:Nat}{A:Nat}(b:a=V)(c:XZ TY n f' f):Lt (A,Vp x a,(n,f'),s') (A,Vp x V,(n,f),s):=by subst b;exact aao c
def tM(z:fE C Anc)(hF:∀{S d g w},Fin S d g w->g.status=.running)(h:fK C Anc AncW Fin Shun x tg Tm Sn dn wn stored rel a gs w t)(l:gm C x tg stored rel gs.size w)(o:gs[i]?=some g)(k:0<i)(p:C.dT<=i){j:gL}{f:Ba->Tr}(m:Tm i=.node f)(A:fL C.P false C.E j (.node f) (Sn i) (dn i) g (wn i))(B:6<=(tg i).e)(r:∀T,fW (tg i) T=((tg i).e,T))(D:∀T S d g w,fL C.P false C.E j T S d g w->C4 C Anc (tg i) T S d g w):ui C Anc AncW Fin Shun (ga C x tg Tm a gs.size) t (runT C.P (crowd gs w sl) i):=by
 have c:=(ar.1 o).1;have s:=h.e i c;obtain⟨g',w2,es,n,b,F⟩:=A.2 w s;have v:=b.h _ h.h.h (h.h.x i);refine zE (y:=tg i) (T:=f w) (stored':=stored) (rel':=rel) z hF h l o k n (D _ _ _ _ _ F) (b.e h.h s.h) (h.al (by intro q;cases q) (.inr ⟨p,c⟩) l.h (λ_=>(l.e i p c).2 B) b _ _) (by rw[jl];exact l.ac v (b.h _ h.h.e (h.h.w i)) (b.h _ h.h.i (h.h.u i))) (.inl v) λa'=>?_;refine qd (ib rfl) (qM c k ?_);rw[r,r,m];exact x8 ⟨f,w,rfl,rfl⟩
def zG(hA:fE C Anc)(hF:∀{S d g w},Fin S d g w->g.status=.running)(h:fK C Anc AncW Fin Shun x tg Tm Sn dn wn stored rel a gs w t)(l:gm C x tg stored rel gs.size w)(N:gs[i]?=some g)(z:0<i)(s:g.status=.running){q:Nat}(v:tg i=.quit q):ui C Anc AncW Fin Shun (ga C x tg Tm a gs.size) t (runT C.P (crowd gs w sl) i):=by
 have G:=(ar.1 N).1;have K:=h.p i g z N;rw[v]at K;replace K:QuitsD C.P q (dn i) g:=K;cases q with
 |zero=>rw[K.1]at s;cases s
 |succ k=>
  rcases K with⟨hf,_⟩|⟨_,g',es,Q,R,U⟩
  rw[hf]at s;cases s;have ad:up tg i (.quit k)=up tg i (.quit k):=rfl;have aS:∀{P:WTag->Prop},P (.quit (k+1))->(P (.quit (k+1))↔P (.quit k))->P (.quit k):=λa b=>b.1 a;refine zE (y:=.quit k) (T:=.leaf) (S':=Sn i) (stored':=stored) (rel':=rel) hA hF h l N z (R w) U ?_ ?_ ?_ (.inl rfl) λa'=>?_;exact⟨aj _,rfl,rfl,rfl,λ_ _ _ _ _ _=>rfl,(h.e i G).h,λ_ q=>q,λ_ q=>.inl q⟩;rw[jl];exact h.y.Z (g:=i) (λV D=>by obtain⟨e,_,rfl⟩:=Conc.mem_ofEvents D;rfl) (λV D=>by obtain⟨e,L,rfl⟩:=Conc.mem_ofEvents D;exact touch_mute (Q e L)) (λV D=>by obtain⟨e,L,rfl⟩:=Conc.mem_ofEvents D;exact low_mute (Q e L) _) (λV D=>by
   obtain⟨e,L,rfl⟩:=Conc.mem_ofEvents D;have:=Q e L;let ⟨W,wr,sy⟩:=e
   cases W with
   |mark m=>cases m<;>simp_all [Event.mute,MemAct.ofEvent,mP]
   |_=>simp[Event.mute]at this)
  have n:∀j,(up tg i (.quit k) j=tg j/\j≠i)\/(j=i/\up tg i (.quit k) j=.quit k):=λj=>by
   by_cases f:j=i;subst f;exact .inr ⟨rfl,cu⟩;exact .inl ⟨cV f,f⟩
  have c:∀j (y:WTag),(∀q,y≠.quit q)->(up tg i (.quit k) j=y↔tg j=y):=λj y X=>by
   rcases n j with⟨e,_⟩|⟨rfl,e⟩
   rw[e];rw[e,v];exact⟨λq=>absurd q.symm (X _),λq=>absurd q.symm (X _)⟩
  have M:∀j,(up tg i (.quit k) j).j=(tg j).j:=λj=>by
   rcases n j with⟨e,_⟩|⟨rfl,e⟩
   rw[e];rw[e,v];rfl
  have hV:Vc C (up tg i (.quit k)) gs.size=Vc C tg gs.size:=ib (v▸rfl);refine⟨l.h,l.A,l.H,λj f=>?_,l.t,?_,λj E f=>?_,l.F,λhc j E f=>?_,λhc j f=>?_,λr hr j f=>?_,λp hp=>?_,λj p E f e=>l.y j p E f ((c j _ aY).1 e),λj Y p b1 b2 b3 b4 e1 e2=>l.two j Y p b1 b2 b3 b4 ((c j _ aY).1 e1) ((c Y _ aY).1 e2),l.o⟩;rcases n j with⟨e,_⟩|⟨rfl,e⟩
  rw[e];exact l.I j f;exact⟨k,e⟩;let ⟨st,sm,h1,h2⟩:=l.b
  refine⟨st,sm,h1,?_⟩;unfold qr at h2⊢;have kl:∀j,((up tg i (.quit k) j=.d2\/up tg i (.quit k) j=.d3)↔(tg j=.d2\/tg j=.d3))/\(up tg i (.quit k) j=.d4↔tg j=.d4):=λj=>⟨or_congr (c j _ aY) (c j _ aY),c j _ aY⟩;simp only[hV,M,kl];exact h2;rcases n j with⟨e,_⟩|⟨rfl,e⟩
  rw[e];exact l.e j E f;have:=l.e j E f;rw[v]at this;rw[e];exact⟨λ_=>this.1 (by simp[WTag.e]),λq=>by simp[WTag.e]at q⟩;rcases n j with⟨e,_⟩|⟨rfl,e⟩
  rw[e];exact l.u hc j E f;have:=l.u hc j E f;rw[v]at this;simp at this;rcases n j with⟨e,_⟩|⟨rfl,e⟩
  rw[e];exact l.J hc j f;rw[e];simp;rcases n j with⟨e,_⟩|⟨rfl,e⟩
  rw[e];exact l.O r hr j f;rw[e];simp;rcases l.B p hp with q|⟨j,b1,b2,b3⟩
  exact .inl q;exact .inr ⟨j,b1,b2,(c j _ aY).2 b3⟩;refine qd (ib (v▸rfl)) (qM G z ?_);rw[v];exact x8 (Fa k)
end
end Go.Eqv
