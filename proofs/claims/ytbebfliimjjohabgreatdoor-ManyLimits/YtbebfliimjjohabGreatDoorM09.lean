/- Parts of the proof. -/
import Derived.Test.YtbebfliimjjohabGreatDoorM08
import Derived.Conc.CrowdComm
import Derived.Conc.CrowdRun
set_option maxRecDepth 100000
set_option maxHeartbeats 8000000
set_option linter.all false
open Go.Conc
open Go.ConcR (KK wgBlock WgAt stA smA rd wr mk)
open Go.ConcN (sumTo sumTo_congr)
namespace Go.Eqv
variable{es:Array Event}{gs gs':Array Bm}{mb:Bool}{a g g' a' b b':Bm}{Shun:Loc->Prop}{i n r v' n' s s' d d':Nat}{dn:Nat->Nat}{f f':Nat->Nat×Tr}{Sn:Nat->Nat->Prop}{rel rel':Nat->Option Nat}{stored stored' S S':Nat->Prop}{Tm:Nat->Tr}{wn:Nat->A1}{sl:Option (Nat×Nat)}{T T':Tr}{t u:Trace}{α:Type}{w w2 w1 w':A1}
structure ee where
 P:Program
 L:Lay
 ty:TypeId
 ta:TypeId
 nt:Nat
 nw:Nat
 eu:Nat
 BO:Nat->Value
 Ea:Nat->Value
 z:Value
 zs:Value
def ee.E(C:ee):tM:=
 ⟨C.L.F,λw=>(∃d f,WgAt C.ty C.L.b w d f)/\(∃g s r,w.heap[C.L.e]?=some (.chan 0 #[] g s r false))/\∃c,w.heap[C.L.h]?=some (.cells c C.ta)/\c.size=C.nt,
  λm=>∃a:Addr,a.block=C.L.b/\(m=.read a\/m=.write a),True⟩
section
variable(C:ee)
abbrev NJ (S:Nat->Prop) (Stop:Goroutine->World->Prop):=Goes C.P false (dc C.E S) (λw w' es=>w'=w/\es=#[]) Stop
def abV(g:Goroutine)(w:World):Prop:=g.status=.running/\mayWake C.P g=true/\(WgAt C.ty C.L.b w 0 0 ->
 ∃g',stepG C.P false g w=.go g' (w.setCell (smA C.L.b) (.int .u32 1)) (semEvents (smA C.L.b))/\∃q,QuitsD C.P q 1 g')
def ZF(S:Nat->Prop)(g:Goroutine)(w:World):Prop:=g.status=.running/\(WgAt C.ty C.L.b w 1 0 ->
 ∃g',stepG C.P false g w=.go g' (w.setCell (stA C.L.b) (.int .u64 0)) #[wr (stA C.L.b)]/\∃m,NJ C S (abV C) m g' (w.setCell (stA C.L.b) (.int .u64 0)))
def ZE(S:Nat->Prop)(g:Goroutine)(w:World):Prop:=g.status=.running/\(WgAt C.ty C.L.b w 1 0 ->
 ∃g',stepG C.P false g w=.go g' w #[rd (stA C.L.b)]/\∃m,NJ C S (ZF C S) m g' w)
def ZD(S:Nat->Prop)(g:Goroutine)(w:World):Prop:=g.status=.running/\∀v wt:Nat,wt<=1->v<2147483647->WgAt C.ty C.L.b w ((v+1)*KK+wt) 0 ->
 ∃g',stepG C.P false g w=.go g' (w.setCell (stA C.L.b) (.int .u64 (v*KK+wt))) #[rd (stA C.L.b),wr (stA C.L.b)] /\
  ((v=0/\wt=1)->∃m,NJ C S (ZE C S) m g' (w.setCell (stA C.L.b) (.int .u64 (v*KK+wt))))/\(¬(v=0/\wt=1)->∃q,QuitsD C.P q 1 g')
def abW(S:Nat->Prop)(g:Goroutine)(w:World):Prop:=g.status=.running/\∃g',stepG C.P false g w=.go g' w #[mk .disable]/\∃m,NJ C S (ZD C S) m g' w
def vu:gS:=λS d g w=>d=0/\g.status=.running/\∀w1,dc C.E S w w1->∃g',stepG C.P false g w1=.go g' w1 #[mk (.releaseMerge (stA C.L.b))]/\∃m,NJ C S (abW C S) m g' w1
def vC(Anc:gS)(p:Nat):gS:=λS d g w=>d=0/\g.status=.running/\∀w1,dc C.E S w w1 ->
 ∃g',stepG C.P false g w1=.go g' (w1.setCell ⟨C.L.h,p,none⟩ (C.BO p)) #[⟨.cell ⟨C.L.h,p,none⟩,true,false⟩]/\fp C.P false C.E Anc S 0 g' (w1.setCell ⟨C.L.h,p,none⟩ (C.BO p))
structure gl(Anc:gS):Prop where
 d:∀{S d g w},Anc S d g w->d=0
 i:∀{S d g w},Anc S d g w->g.status=.running/\g.offers=none
 j:∀{S d g w},Anc S d g w->∀w1,dc C.E S w w1->Anc S d g w1
 b:∀{S d g w},Anc S d g w->∀w1,dc C.E S w w1->stepG C.P false g w1=.comm g #[rcase C.L.e C.z] true (.recv true) w1 #[]
 h:∀{S d g w},Anc S d g w->∀w1,dc C.E S w w1->∀p,p<C.nt->fp C.P false C.E (vC C Anc p) S 0 (Conc.served g (recvd true (C.Ea p) true)) w1
 e:∀{S d g w},Anc S d g w->∀w1,dc C.E S w w1->fp C.P false C.E (vu C) S 0 (Conc.served g (recvd true C.z false)) w1
variable(Anc AncW Fin:gS)
def Mg:gS:=λS d g w=>d=0/\g.status=.running/\∀w1,dc C.E S w w1->∃g',stepG C.P true g w1=.go g' w1 #[mk (.acquire (stA C.L.b))]/\Fin S 0 g' w1
def ZO:gS:=λS d g w=>d=1/\g.status=.running/\∀w1,dc C.E S w w1->WgAt C.ty C.L.b w1 0 0->∃g',stepG C.P true g w1=.go g' w1 #[rd (stA C.L.b)]/\fp C.P true C.E (Mg C Fin) S 1 g' w1
def VZ:gS:=λS d g w=>d=1/\g.status=.running/\g.offers=none/\∀w1,dc C.E S w w1 ->
 ((∃a,WgAt C.ty C.L.b w1 a 0)->stepG C.P true g w1=.go {g with status:=.blocked} w1 #[]) /\
 (WgAt C.ty C.L.b w1 0 1->∃g',stepG C.P true g w1=.go g' (w1.setCell (smA C.L.b) (.int .u32 0)) (semEvents (smA C.L.b))/\fp C.P true C.E (ZO C Fin) S 1 g' (w1.setCell (smA C.L.b) (.int .u32 0)))
def ZN(vs:Nat):gS:=λS d g w=>d=1/\g.status=.running/\∀w1,dc C.E S w w1->∀v:Nat,v<2147483648->WgAt C.ty C.L.b w1 (v*KK) 0 ->
 (v=vs->∃g',stepG C.P true g w1=.go g' (w1.setCell (stA C.L.b) (.int .u64 (v*KK+1))) #[rd (stA C.L.b),wr (stA C.L.b)]/\fp C.P true C.E (VZ C Fin) S 1 g' (w1.setCell (stA C.L.b) (.int .u64 (v*KK+1)))) /\
 (v≠vs->∃g',stepG C.P true g w1=.go g' w1 #[rd (stA C.L.b)]/\fp C.P true C.E AncW S 1 g' w1)
def Ge:gS:=λS d g w=>d=1/\g.status=.running/\∀w1,dc C.E S w w1->∀v:Nat,v<2147483648->WgAt C.ty C.L.b w1 (v*KK) 0->∃g',stepG C.P true g w1=.go g' w1 #[rd (stA C.L.b)] /\
 (v=0->fp C.P true C.E (Mg C Fin) S 1 g' w1)/\(v≠0->fp C.P true C.E (ZN C AncW Fin v) S 1 g' w1)
def vt:gS:=λS d g w=>d=0/\g.status=.running/\mayWake C.P g=true/\∀w1,dc C.E S w w1->∀s r,w1.heap[C.L.e]?=some (.chan 0 #[] false s r false) ->
 ∃g',stepG C.P true g w1=.go g' (w1.setChan C.L.e 0 #[] true s r false) #[⟨.obj C.L.e,false,true⟩,⟨.obj C.L.e,true,true⟩]/\g'.status=.running/\fp C.P true C.E AncW S 0 g' (w1.setChan C.L.e 0 #[] true s r false)
def us(p:Nat)(Next:gS):gS:=λS d g w=>d=0/\g.status=.running/\g.offers=none/\∀w1,dc C.E S w w1 ->
 stepG C.P true g w1=.comm g #[scase C.L.e (C.Ea p) C.zs] true .send w1 #[]/\fp C.P true C.E Next S 0 (Conc.served g undef) w1
def tV:Nat->gS
 |0=>vt C AncW
 |r+1=>us C (C.nt-(r+1)) (tV r)
def qr(Next:gS):gS:=λS d g w=>d=0/\g.status=.running/\∀w1,dc C.E S w w1->∃g' a c e,stepG C.P true g w1=.spawn g' a w1 #[]/\a.status=.running /\
 (∀b,c b->S b)/\(∀b,e b->S b)/\(∀b,c b->¬e b)/\fp C.P false C.E Anc e 0 a w1/\Next c 0 g' w1
def Cr(Next:gS):gS:=λS d g w=>d=1/\g.status=.running/\∀w1,dc C.E S w w1->∀v:Nat,v<2147483647->WgAt C.ty C.L.b w1 (v*KK) 0 ->
 ∃g',stepG C.P true g w1=.go g' (w1.setCell (stA C.L.b) (.int .u64 ((v+1)*KK))) #[rd (stA C.L.b),wr (stA C.L.b)]/\fp C.P true C.E Next S 1 g' (w1.setCell (stA C.L.b) (.int .u64 ((v+1)*KK)))
def nM:Nat->gS
 |0=>fp C.P true C.E (tV C AncW C.nt)
 |r+1=>fp C.P true C.E (Cr C (qr C Anc (nM r)))
end
def rA:Nat->Tr
 |0=>.leaf
 |n+1=>.node λ_=>rA n
inductive WTag where
 |recv|park|woke|busy (p:Nat)|tell|k1|d1|d2|d3|d4|quit (q:Nat)
def WTag.e:WTag->Nat
 |.busy _=>10|.recv=>9|.park=>8|.woke=>7|.tell=>6|.k1=>5|.d1=>4|.d2=>3|.d3=>2|.d4=>1|.quit _=>0
def WTag.h(x:WTag):Bool:=decide (4<=x.e)
def Ed(C:ee)(Anc:gS)(x:WTag)(T:Tr)(S:Nat->Prop)(d:Nat)(g:Goroutine)(w:World):Prop:=match x with
 |.recv=>gu C.P false C.E Anc T S d g w
 |.park=>d=0/\∃a,g=parked a #[rcase C.L.e C.z] (.recv true)/\Anc S 0 a w
 |.woke=>d=0/\∃a,g = {parked a #[rcase C.L.e C.z] (.recv true) with status:=.running}/\Anc S 0 a w
 |.busy p=>gu C.P false C.E (vC C Anc p) T S d g w
 |.tell=>gu C.P false C.E (vu C) T S d g w
 |.k1=>d=0/\∃m,T=rA m/\NJ C S (abW C S) m g w
 |.d1=>d=1/\∃m,T=rA m/\NJ C S (ZD C S) m g w
 |.d2=>d=1/\∃m,T=rA m/\NJ C S (ZE C S) m g w
 |.d3=>d=1/\∃m,T=rA m/\NJ C S (ZF C S) m g w
 |.d4=>d=1/\∃m,T=rA m/\NJ C S (abV C) m g w
 |.quit q=>QuitsD C.P q d g
inductive MTag where
 |add (r:Nat)|go (r:Nat)|send (r:Nat)|sendP (r:Nat)|close|w1|w2 (v:Nat)|w3|sem|w4|acq|fin
variable{x x':MTag}
def tP(C:ee)(Anc AncW Fin:gS)(x:MTag)(T:Tr)(S:Nat->Prop)(d:Nat)(g:Goroutine)(w:World):Prop:=match x with
 |.add r=>gu C.P true C.E (Cr C (qr C Anc (nM C Anc AncW r))) T S d g w
 |.go r=>gu C.P true C.E (qr C Anc (nM C Anc AncW r)) T S d g w
 |.send r=>gu C.P true C.E (us C (C.nt-(r+1)) (tV C AncW r)) T S d g w
 |.sendP r=>d=0/\∃a,g=parked a #[scase C.L.e (C.Ea (C.nt-(r+1))) C.zs] .send/\us C (C.nt-(r+1)) (tV C AncW r) S 0 a w
 |.close=>gu C.P true C.E (vt C AncW) T S d g w
 |.w1=>gu C.P true C.E (Ge C AncW Fin) T S d g w
 |.w2 v=>gu C.P true C.E (ZN C AncW Fin v) T S d g w
 |.w3=>gu C.P true C.E (VZ C Fin) T S d g w
 |.sem=>d=1/\∃a,(g=a\/g = {a with status:=.blocked})/\VZ C Fin S 1 a w
 |.w4=>gu C.P true C.E (ZO C Fin) T S d g w
 |.acq=>gu C.P true C.E (Mg C Fin) T S d g w
 |.fin=>Fin S d g w
def Sub(a b:Tr):Prop:=∃f w,b=.node f/\a=f w
def aaA:WellFounded Sub:=by
 refine⟨λT=>?_⟩;induction T with
 |leaf=>exact⟨_,λa ⟨f,w,h,_⟩=>by cases h⟩
 |node f b=>exact⟨_,λa ⟨f',w,h,e⟩=>by cases h;subst e;exact b w⟩
def GF(n:Nat):Sub (rA n) (rA (n+1)):=⟨_,default,rfl,rfl⟩
def VK:Nat×Tr->Nat×Tr->Prop:=Prod.Lex (· < ·) Sub
def aap:WellFounded VK:=(Prod.lex ⟨(· < ·),Nat.lt_wfRel.wf⟩ ⟨Sub,aaA⟩).wf
def ZG{α:Type}(r:α->α->Prop)(n:Nat)(f' f:Nat->α):Prop:=∃i,i<n/\r (f' i) (f i)/\∀j,j≠i->f' j=f j
def Mp{r:α->α->Prop}(j:WellFounded r):∀(n:Nat) (f:Nat->α),Acc (ZG r n) f
 |0,f=>⟨_,λf' ⟨i,h,_⟩=>absurd h (jt _)⟩
 |n+1,f=>by
  have a:∀x,∀f:Nat->α,f n=x->Acc (ZG r (n+1)) f:=by
   intro x;induction x using j.induction with
   |_ x c=>
    intro f k;have h:=Mp j n f;induction h with
    |intro f _ d=>
     refine⟨_,λf' ⟨i,m,g,l⟩=>?_⟩;by_cases b:i=n;subst b;rw[k]at g;exact c _ g f' rfl;refine d f' ⟨i,by omega,g,l⟩ ?_;rw[l n (λe=>b e.symm),k]
  exact a _ f rfl
abbrev Mea:=Nat×(Nat×((Nat×(Nat->Nat×Tr))×Nat))
def ZH(a b:Nat×(Nat->Nat×Tr)):Prop:=a.1=b.1/\ZG VK b.1 a.2 b.2
def We:WellFounded ZH:=by
 refine⟨λ⟨n,f⟩=>?_⟩;have h:=Mp aap n f;induction h with
 |intro f _ b=>exact⟨_,λ⟨m,g⟩ ⟨a,c⟩=>by dsimp only at a;subst a;exact b g c⟩
def Lt:Mea->Mea->Prop:=Prod.Lex (· < ·) (Prod.Lex (· < ·) (Prod.Lex ZH (· < ·)))
def acg:WellFounded Lt:=(Prod.lex ⟨(· < ·),Nat.lt_wfRel.wf⟩ (Prod.lex ⟨(· < ·),Nat.lt_wfRel.wf⟩ (Prod.lex ⟨ZH,We⟩ ⟨(· < ·),Nat.lt_wfRel.wf⟩))).wf
def Aa{a a' v:Nat}(h:a'<a):Lt (a',v',(n',f'),s') (a,v,(n,f),s):=.left _ _ h
def WD{a v:Nat}(h:v'<v):Lt (a,v',(n',f'),s') (a,v,(n,f),s):=.right _ (.left _ _ h)
def acf{a v:Nat}(h:ZG VK n f' f):Lt (a,v,(n,f'),s') (a,v,(n,f),s):=.right _ (.right _ (.left _ _ ⟨rfl,h⟩))
def aeb{a v:Nat}(h:s'<s):Lt (a,v,(n,f),s') (a,v,(n,f),s):=.right _ (.right _ (.right _ h))
def aav{P:Bo}{r:α->α->Prop}(f:WellFounded r)(b:α->Machine->Trace->Prop)(Q:Machine->Trace->Prop)(h:∀μ m t,b μ m t->Q m t\/∃m' a c,stepT P m=(.next m',a)/\r c μ/\b c m' (t++a)):
  ∀μ m t,b μ m t->∃n m' e,runNT P n m t=(.next m',e)/\Q m' e:=by
 intro μ;induction μ using f.induction with
 |_ μ g=>
  intro m t i;rcases h μ m t i with j|⟨m',a,c,k,l,d⟩
  exact⟨0,m,t,rfl,j⟩;obtain⟨n,o,p,q,s⟩:=g c l m' (t++a) d;exact⟨n+1,o,p,by rw[runNT_succ_next k];exact q,s⟩
def R0(C:ee):MTag->Nat
 |.add r|.go r=>C.nw-(r+1)
 |_=>C.nw
def Gv(C:ee):MTag->Nat
 |.add _|.go _=>0
 |.send r|.sendP r=>C.nt-(r+1)
 |_=>C.nt
def mV:MTag->Bool
 |.add _|.go _|.send _|.sendP _|.close=>false
 |_=>true
def Ep:MTag->Nat
 |.go _=>1
 |_=>0
def CX(C:ee):MTag->Prop
 |.add r|.go r=>r<C.nw
 |.send r|.sendP r=>r<C.nt
 |.w2 v=>v≠0
 |.fin=>False
 |_=>True
def WTag.j:WTag->Bool
 |.d2|.d3|.d4=>true
 |_=>false
variable{tg:Nat->WTag}{y:WTag}
def BV(C:ee)(tg:Nat->WTag)(i:Nat):Nat:=if decide (C.eu<=i)&&(tg i).h then 1 else 0
def Vc(C:ee)(tg:Nat->WTag)(n:Nat):Nat:=sumTo n (BV C tg)
def rx(C:ee)(x:MTag)(tg:Nat->WTag)(n:Nat)(a b:Int):Prop:=match x with
 |.w3|.sem=>
  (1<=Vc C tg n/\a=Vc C tg n*KK+1/\b=0/\∀i,i<n->(tg i).j=false) \/
  (Vc C tg n=0/\b=0/\∃l,C.eu<=l/\l<n/\(((tg l=.d2\/tg l=.d3)/\a=1)\/(tg l=.d4/\a=0))/\∀i,i<n->i≠l->(tg i).j=false) \/
  (Vc C tg n=0/\a=0/\b=1/\∀i,i<n->(tg i).j=false)
 |.w4|.acq|.fin=>Vc C tg n=0/\a=0/\b=0/\∀i,i<n->(tg i).j=false
 |_=>a=(Vc C tg n+Ep x:Nat)*KK/\b=0/\∀i,i<n->(tg i).j=false
def N6(tg:Nat->WTag)(x:MTag)(Tm:Nat->Tr)(i:Nat):Nat×Tr:=if i=0 then (match x with|.sendP _=>(0,.leaf)|_=>(1,Tm 0)) else match tg i with
 |.quit q=>(0,rA q)
 |.park=>(8,.leaf)
 |.woke=>(7,.leaf)
 |y=>(y.e,Tm i)
def Jw(C:ee):MTag->Nat
 |.add r=>C.nt+32+2*r
 |.go r=>C.nt+31+2*r
 |.send r|.sendP r=>21+r
 |.close=>20
 |.w1|.w2 _=>10
 |.w3=>9
 |.sem=>8
 |.w4=>7
 |.acq=>6
 |.fin=>5
def Xc(x:MTag)(V:Nat):Nat:=match x with
 |.w2 v=>if v=V then 3*V else 3*V+2
 |_=>3*V+1
def sOf(x:MTag)(a:Goroutine):Nat:=match x with
 |.sem=>if a.status=.running then 1 else 0
 |_=>0
structure gr(C:ee)(Anc AncW Fin:gS)(Shun:Loc->Prop)(x:MTag)(tg:Nat->WTag)(Tm:Nat->Tr)(Sn:Nat->Nat->Prop)(dn:Nat->Nat)(wn:Nat->World)(stored:Nat->Prop)(rel:Nat->Option Nat)(a:Goroutine)(gs:Array Goroutine)(w:World)(t:Trace):Prop where
 j:gs[0]?=some a
 u:tP C Anc AncW Fin x (Tm 0) (Sn 0) (dn 0) a (wn 0)
 p:∀i g,0<i->gs[i]?=some g->Ed C Anc (tg i) (Tm i) (Sn i) (dn i) g (wn i)
 e:∀i,i<gs.size->dc C.E (Sn i) (wn i) w
 o:∀i,i<gs.size->Deaf t i=dn i
 s:∀i,gs.size<=i->Deaf t i=0
 y:TI C.L Shun (C.eu<=·) (λk=>k=0\/(C.eu<=k/\k<gs.size)) Sn stored rel w.heap.size t
 h:Ap C.L Sn w.heap.size
 B:∀i,gs.size<=i->∀b,¬Sn i b
 A:∀op∈t,op.g<gs.size
 F:x=.sem->WgAt C.ty C.L.b w 0 1->a.status=.running
structure gM(C:ee)(x:MTag)(tg:Nat->WTag)(stored:Nat->Prop)(rel:Nat->Option Nat)(n:Nat)(w:World):Prop where
 h:1<=C.eu
 A:n=C.eu+R0 C x
 H:CX C x
 I:∀i,i<C.eu->∃q,tg i=.quit q
 t:∃s r,w.heap[C.L.e]?=some (.chan 0 #[] (mV x) s r false)
 b:∃st sm,WgAt C.ty C.L.b w st sm/\rx C x tg n st sm
 e:∀i,C.eu<=i->i<n->((tg i).e<=5->∃p,rel i=some p)/\(6<=(tg i).e->rel i=none)
 F:∀i,n<=i->rel i=none
 u:mV x=false->∀i,C.eu<=i->i<n->tg i=.recv\/tg i=.park\/∃p,tg i=.busy p
 J:mV x=true->∀i,i<n->tg i≠.park
 O:∀r,x=.sendP r->∀i,i<n->tg i≠.park
 B:∀p,p<Gv C x->stored p\/∃i,C.eu<=i/\i<n/\tg i=.busy p
 y:∀i p,C.eu<=i->i<n->tg i=.busy p->p<Gv C x/\¬stored p
 two:∀i j p,C.eu<=i->i<n->C.eu<=j->j<n->tg i=.busy p->tg j=.busy p->i=j
 o:∃cs,w.heap[C.L.h]?=some (.cells cs C.ta)/\cs.size=C.nt/\∀p,stored p->p<Gv C x/\cs[p]?=some (C.BO p)
def ZC(C:ee)(Anc AncW Fin:gS)(Shun:Loc->Prop)(μ:Mea)(m:Machine)(t:Trace):Prop:=
 ∃x tg Tm Sn dn wn stored rel a gs w sl,m=crowd gs w sl/\gr C Anc AncW Fin Shun x tg Tm Sn dn wn stored rel a gs w t/\gM C x tg stored rel gs.size w/\μ=(Jw C x,Xc x (Vc C tg gs.size),(gs.size,N6 tg x Tm),sOf x a)
section
variable{C:ee}{Anc AncW Fin:gS}
def Ed.e(n:gl C Anc)(h:Ed C Anc y T S d g w)(j:dc C.E S w w1):(y=.park/\g.status=.blocked)\/(y≠.park/\(g.status=.running\/∃q,y=.quit q/\(g.status=.running\/g.status=.finished))):=by
 have go:∀{a:gS},(∀{S d g w},a S d g w->g.status=.running)->gu C.P false C.E a T S d g w->g.status=.running:=λc k=>by
  cases T with
  |leaf=>exact c k
  |node f=>exact k.1
 have b:∀{a:Bm->A1->Prop} {m:Nat},(∀{g w},a g w->g.status=.running)->NJ C S a m g w->g.status=.running:=λc l=>by
  rename_i m;cases m with
  |zero=>exact c (l w1 j)
  |succ m=>exact l.elim (λq=>c (q w1 j)) λq=>q.1
 cases y with
 |recv=>exact .inr ⟨by simp,.inl (go (λh=>(n.i h).1) h)⟩
 |park=>obtain⟨_,o,rfl,_⟩:=h;exact .inl ⟨rfl,rfl⟩
 |woke=>obtain⟨_,o,rfl,_⟩:=h;exact .inr ⟨by simp,.inl rfl⟩
 |busy p=>exact .inr ⟨by simp,.inl (go (λh=>h.2.1) h)⟩
 |tell=>exact .inr ⟨by simp,.inl (go (λh=>h.2.1) h)⟩
 |k1=>let ⟨_,m,_,h⟩:=h;exact .inr ⟨by simp,.inl (b (λh=>h.1) h)⟩
 |d1=>let ⟨_,m,_,h⟩:=h;exact .inr ⟨by simp,.inl (b (λh=>h.1) h)⟩
 |d2=>let ⟨_,m,_,h⟩:=h;exact .inr ⟨by simp,.inl (b (λh=>h.1) h)⟩
 |d3=>let ⟨_,m,_,h⟩:=h;exact .inr ⟨by simp,.inl (b (λh=>h.1) h)⟩
 |d4=>let ⟨_,m,_,h⟩:=h;exact .inr ⟨by simp,.inl (b (λh=>h.1) h)⟩
 |quit q=>exact .inr ⟨by simp,.inr ⟨q,rfl,QuitsD.status h⟩⟩
def Ed.h(c:gl C Anc)(h:Ed C Anc y T S d g w)(f:dc C.E S w w1)(i:y=.park->w'.heap[C.L.e]?=some (.chan 0 #[] false s r false)):Conc.woken C.P b b' w' g=g:=by
 rcases h.e c f with⟨rfl,_⟩|⟨_,a|⟨q,_,a⟩⟩
 obtain⟨_,j,rfl,_⟩:=h;exact woken_recv_open b b' (i rfl);exact woken_run a;unfold Conc.woken;split;exact again_running _ a;rfl
def tP.h(l:∀{S d g w},Fin S d g w->g.status=.running)(h:tP C Anc AncW Fin x T S d g w)(m:∀n,x=.sendP n->w'.heap[C.L.e]?=some (.chan 0 #[] false s r false)):
  tP C Anc AncW Fin x T S d (Conc.woken C.P b b' w' g) w:=by
 have go:∀{a:gS},(∀{S d g w},a S d g w->g.status=.running)->gu C.P true C.E a T S d g w->gu C.P true C.E a T S d (Conc.woken C.P b b' w' g) w:=λo i=>by
  have:g.status=.running:=by
   cases T with
   |leaf=>exact o i
   |node f=>exact i.1
  rw[woken_run this];exact i
 cases x with
 |add r=>exact go (λh=>h.2.1) h
 |go r=>exact go (λh=>h.2.1) h
 |send r=>exact go (λh=>h.2.1) h
 |sendP r=>
  obtain⟨hd,c,rfl,h0⟩:=h;rw[woken_send_open b b' (m r rfl)];exact⟨hd,c,rfl,h0⟩
 |close=>exact go (λh=>h.2.1) h
 |w1=>exact go (λh=>h.2.1) h
 |w2 v=>exact go (λh=>h.2.1) h
 |w3=>exact go (λh=>h.2.1) h
 |sem=>
  let ⟨hd,c,p,h0⟩:=h
  refine⟨hd,c,?_,h0⟩;rcases p with rfl|rfl
  exact .inl (woken_run h0.2.1);unfold Conc.woken;split;left;have j:=h0.2.1;have k:=h0.2.2.1;let ⟨q,t,u,y,z⟩:=c
  dsimp only at j k;subst j k;rfl;exact .inr rfl
 |w4=>exact go (λh=>h.2.1) h
 |acq=>exact go (λh=>h.2.1) h
 |fin=>
  have:=l h;show Fin S d (Conc.woken C.P b b' w' g) w;rw[woken_run this];exact h
def up{α:Type}(f:Nat->α)(i:Nat)(x:α):Nat->α:=λa=>if a=i then x else f a
def cI{f:Nat->α}{x:α}:up f i x i=x:=az rfl
def dj{f:Nat->α}{a:Nat}{x:α}(h:a≠i):up f i x a=f a:=ax h
def gr.at(h:gr C Anc AncW Fin Shun x tg Tm Sn dn wn stored rel a gs w t)(d:Nat):gr C Anc AncW Fin Shun x tg Tm Sn dn wn stored rel a gs (w.at d) t:=
 ⟨h.j,h.u,h.p,λi b=>have r:=h.e i b;⟨r.i,r.p,r.o,r.s,r.t,r.j,r.h⟩,h.o,h.s,h.y,h.h,h.B,h.A,h.F⟩
def gM.at(h:gM C x tg stored rel n w)(d:Nat):gM C x tg stored rel n (w.at d):=
 ⟨h.h,h.A,h.H,h.I,h.t,h.b,h.e,h.F,h.u,h.J,h.O,h.B,h.y,h.two,h.o⟩
structure yC(C:ee)(S S':Nat->Prop)(w w2:World):Prop where
 p:w.heap.size<=w2.heap.size
 t:w2.tape=w.tape
 x:w2.os=w.os
 o:w2.output=w.output
 i:∀b,b<w.heap.size->¬S b->b≠C.L.b->b≠C.L.e->b≠C.L.h->w2.heap[b]?=w.heap[b]?
 s:C.E.J w2
 y:∀b,S b->S' b
 u:∀b,S' b->S b\/(w.heap.size<=b/\b<w2.heap.size)
def Ap.j(ap:Ap C.L Sn w.heap.size)(l:yC C (Sn i) S' w w2):Ap C.L (up Sn i S') w2.heap.size:=by
 have d:=l.p;have c:∀k b,up Sn i S' k b->Sn k b\/(k=i/\w.heap.size<=b/\b<w2.heap.size):=λk b a=>by
  by_cases f:k=i;subst f;rw[cI]at a;exact(l.u b a).imp id λq=>⟨rfl,q⟩;rw[dj f]at a;exact .inl a
 refine⟨λk b a=>?_,λk b a m=>?_,λk a=>?_,λk a=>?_,λk a=>?_,λj k b n f=>?_,ap.I,ap.H,ap.C,ap.t,ap.y,ap.A,λb a=>aO (ap.o b a) d,aO ap.h d,aO ap.e d,aO ap.i d⟩;rcases c k b a with q|q
 exact aO (ap.p k b q) d;exact q.2.2;rcases c k b a with q|q
 exact ap.s k b q m;have:=ap.o b m;omega;rcases c k _ a with q|q
 exact ap.x k q;have:=ap.h;omega;rcases c k _ a with q|q
 exact ap.w k q;have:=ap.e;omega;rcases c k _ a with q|q
 exact ap.u k q;have:=ap.i;omega;rcases c j b n with q|q<;>rcases c k b f with g|g
 exact ap.two j k b q g;have:=ap.p j b q;omega;have:=ap.p k b g;omega;exact q.1.trans g.1.symm
def gr.H(h:gr C Anc AncW Fin Shun x tg Tm Sn dn wn stored rel a gs w t)(f:yC C (Sn i) S' w w2):∀j,j<gs.size->dc C.E (up Sn i S' j) (up wn i w2 j) w2:=by
 intro j g;by_cases d:j=i;subst d;rw[cI,cI];exact dc.H _ f.s;rw[dj d,dj d];have r:=h.e j g;have ap:=h.h;refine⟨λb c=>?_,λb c=>?_,aP r.o f.p,f.t.trans r.s,f.x.trans r.t,f.o.trans r.j,f.s⟩;rw[f.i b (ap.p j b c) (λq=>d (ap.two _ _ b c q)) (λe=>by subst e;exact ap.x j c) (λe=>by subst e;exact ap.w j c) (λe=>by subst e;exact ap.u j c)];exact r.i b c;rw[f.i b (ap.o b c) (λq=>ap.s i b q c) (λe=>by subst e;exact ap.I c) (λe=>by subst e;exact ap.H c) (λe=>by subst e;exact ap.C c)];exact r.p b c
def gr.ah(h:gr C Anc AncW Fin Shun x tg Tm Sn dn wn stored rel a gs w t)(M:i<gs.size)(G:0<i)(f:gs'.size=gs.size)(n:gs'[i]?=some g')(q:gs'[0]?=some a')(I:tP C Anc AncW Fin x (Tm 0) (Sn 0) (dn 0) a' (wn 0))(r:∀j g0,0<j->j≠i->gs'[j]?=some g0->gs[j]?=some g0)(l:Ed C Anc y T S' d' g' w2)(E:yC C (Sn i) S' w w2)(hd:∀j,Deaf (t++u) j=if j=i then d' else Deaf t j)(v:TI C.L Shun (C.eu<=·) (λk=>k=0\/(C.eu<=k/\k<gs.size)) (up Sn i S') stored' rel' w2.heap.size (t++u))(J:∀m∈u,m.g<gs.size)(z:x=.sem->WgAt C.ty C.L.b w2 0 1->a'.status=.running):
  gr C Anc AncW Fin Shun x (up tg i y) (up Tm i T) (up Sn i S') (up dn i d') (up wn i w2) stored' rel' a' gs' w2 (t++u):=by
 have d:(0:Nat)≠i:=by omega
 refine⟨q,?_,λj g0 e D=>?_,λj e=>h.H E j (by omega),λj e=>?_,λj e=>?_,by rw[f];exact v,h.h.j E,λj e b F=>?_,λm K=>?_,z⟩;rw[dj d,dj d,dj d,dj d];exact I;by_cases c:j=i;subst c;rw[n]at D;cases D;rw[cI,cI,cI,cI,cI];exact l;rw[dj c,dj c,dj c,dj c,dj c];exact h.p j g0 e (r j g0 e c D);rw[hd j];by_cases c:j=i;subst c;rw[az rfl,cI];rw[ax c,dj c];exact h.o j (by omega);rw[hd j,ax (by omega)];exact h.s j (by omega);rw[dj (by omega)]at F;exact h.B j (by omega) b F;rw[f];exact(cN.1 K).elim (h.A m) (J m)
def gr.ac(h:gr C Anc AncW Fin Shun x tg Tm Sn dn wn stored rel a gs w t)(e:gs'.size=gs.size)(l:gs'[0]?=some a')(m:∀j g0,0<j->gs'[j]?=some g0->gs[j]?=some g0)(f:tP C Anc AncW Fin x' T S' d' a' w2)(r:yC C (Sn 0) S' w w2)(hd:∀j,Deaf (t++u) j=if j=0 then d' else Deaf t j)(n:TI C.L Shun (C.eu<=·) (λk=>k=0\/(C.eu<=k/\k<gs.size)) (up Sn 0 S') stored' rel' w2.heap.size (t++u))(y:∀i∈u,i.g<gs.size)(q:x'=.sem->WgAt C.ty C.L.b w2 0 1->a'.status=.running):
  gr C Anc AncW Fin Shun x' tg (up Tm 0 T) (up Sn 0 S') (up dn 0 d') (up wn 0 w2) stored' rel' a' gs' w2 (t++u):=by
 have z:0<gs.size:=(am.1 h.j).1;refine⟨l,?_,λj g0 d D=>?_,λj d=>h.H r j (by omega),λj d=>?_,λj d=>?_,by rw[e];exact n,h.h.j r,λj d b v=>?_,λi E=>?_,q⟩;rw[cI,cI,cI,cI];exact f;rw[dj (by omega),dj (by omega),dj (by omega),dj (by omega)];exact h.p j g0 d (m j g0 d D);rw[hd j];by_cases c:j=0;subst c;rw[az rfl,cI];rw[ax c,dj c];exact h.o j (by omega);rw[hd j,ax (by omega)];exact h.s j (by omega);rw[dj (by omega)]at v;exact h.B j (by omega) b v;rw[e];exact(cN.1 E).elim (h.A i) (y i)
end
section
variable{C:ee}{Anc AncW Fin:gS}
theorem EU:(λj=>if j=i then S' else Sn j)=up Sn i S':=rfl
def xl:(λp=>stored p\/(λ_:Nat=>False) p)=stored:=by funext p;simp
def gr.al(h:gr C Anc AncW Fin Shun x tg Tm Sn dn wn stored rel a gs w t)(s:mb=true->i=0)(M:i=0\/(C.eu<=i/\i<gs.size))(H:1<=C.eu)(P:C.eu<=i->rel i=none)(I:tN C.E mb (Sn i) w w2 es)(fn:FuncId)(v:String):
  TI C.L Shun (C.eu<=·) (λk=>k=0\/(C.eu<=k/\k<gs.size)) (up Sn i (j9 (Sn i) w w2)) stored rel w2.heap.size (t++MemOp.ofEvents i fn v es):=by
 have J:=I.i;have:=h.y.j h.h (u:=MemOp.ofEvents i fn v es) (k:=i) (B':=w2.heap.size) (S':=j9 (Sn i) w w2) (nw:=λ_=>False) M (λK n=>by obtain⟨e,_,rfl⟩:=Conc.mem_ofEvents n;rfl) (λK n y d N=>?_) (λ_ q=>q.elim) (λb H=>H.imp id λq=>q.1) (λb H=>.inl H) J (λK n=>?_)
  (λQ p O=>by rw[P Q]at O;cases O) (λK n=>?_) (λh0=>M.elim (λq=>absurd q h0) (λq=>q.1))
 rw[EU,xl]at this;exact this;obtain⟨e,z,rfl⟩:=Conc.mem_ofEvents n;have c:=I.p e z;let ⟨g,A,B⟩:=e
 cases g with
 |cell D=>
  simp only[MemAct.ofEvent,MemAct.touch?,aW]at d;subst d;rcases c with (q|q)|q
  exact .inl q;exact .inr (.inl q.1);exact .inr (.inr (.inl q))
 |obj r=>
  cases A<;>cases B<;>simp only[MemAct.ofEvent,MemAct.touch?,aW,reduceCtorEq]at d<;>(subst d;exact c.imp id λq=>.inl q.1)
 |mark m=>
  rcases c with rfl|⟨f,rfl⟩|⟨_,rfl⟩|⟨_,rfl⟩|⟨F,D,l,rfl|rfl⟩<;>simp only[MemAct.ofEvent,MemAct.touch?,aW,reduceCtorEq]at d
  subst d;exact .inr (.inr (.inr (.inl ⟨l,.inr ⟨rfl,s F⟩⟩)));subst d;exact .inr (.inr (.inr (.inl ⟨l,.inr ⟨rfl,s F⟩⟩)))
 |output=>simp only[MemAct.ofEvent,MemAct.touch?,aW]at d;subst d;cases N
 |goroutines=>simp only[MemAct.ofEvent,MemAct.touch?,aW]at d;subst d;cases N
 obtain⟨e,z,rfl⟩:=Conc.mem_ofEvents n;have c:=I.p e z;have G:∀b,j9 (Sn i) w w2 b->b<w2.heap.size:=λb q=>q.elim (λq=>aO (h.h.p i b q) J) λq=>q.2;let ⟨g,A,B⟩:=e
 cases g with
 |cell D=>exact c.elim (G _) λq=>aO (h.h.o _ q.1) J
 |obj r=>cases A<;>cases B<;>exact G _ c
 |mark m=>
  rcases c with rfl|⟨f,rfl⟩|⟨_,rfl⟩|⟨_,rfl⟩|⟨_,D,l,rfl|rfl⟩<;>first|trivial|(show D.block<_;rw[l];exact aO h.h.h J)
 |output=>trivial
 |goroutines=>trivial
 obtain⟨e,z,rfl⟩:=Conc.mem_ofEvents n;have c:=I.p e z;let ⟨g,A,B⟩:=e
 cases g with
 |obj r=>cases A<;>cases B<;>rfl
 |mark m=>rcases c with rfl|⟨f,rfl⟩|⟨_,rfl⟩|⟨_,rfl⟩|⟨_,D,l,rfl|rfl⟩<;>rfl
 |_=>rfl
def tN.e(ap:Ap C.L Sn w.heap.size)(c:C.E.J w)(a:tN C.E mb (Sn i) w w2 es):yC C (Sn i) (j9 (Sn i) w w2) w w2:=by
 refine⟨a.i,a.o,a.s,a.j,λb d f _ _ _=>a.h b d f,?_,λb q=>.inl q,λb q=>q⟩;obtain⟨⟨g,k,l⟩,⟨m,s,r,n⟩,p,t,v⟩:=c;exact⟨⟨g,k,by unfold WgAt at *;rw[(a.h _ ap.h (ap.x i))];exact l⟩,⟨m,s,r,by rw[(a.h _ ap.e (ap.w i))];exact n⟩,p,by rw[(a.h _ ap.i (ap.u i))];exact t,v⟩
def zI{fn:FuncId}(a:String)(es:Array Event)(hd:Deaf t i=d):∀j,Deaf (t++MemOp.ofEvents i fn a es) j=if j=i then deafBehind d es else Deaf t j:=by
 intro j;by_cases b:j=i;subst b;rw[az rfl,Deaf_own,hd];rw[ax b];exact Deaf_other t (λe=>b e.symm) _ λf c=>by obtain⟨e,_,rfl⟩:=Conc.mem_ofEvents c;rfl
def gr.ab(h:gr C Anc AncW Fin Shun x tg Tm Sn dn wn stored rel a gs w t)(l:gl C Anc)(d:(∃s r,w2.heap[C.L.e]?=some (.chan 0 #[] false s r false))\/∀i,i<gs.size->tg i≠.park):
  ∀j f,0<j->j≠i->((gs.map (woken C.P b b' w2)).setIfInBounds i g')[j]?=some f->gs[j]?=some f:=by
 intro j f o g m;rw[aN (λe=>g e.symm),cD]at m;obtain⟨y,k,rfl⟩:=bV.1 m;have c:=(am.1 k).1;have n:=h.p j y o k;have e:woken C.P b b' w2 y=y:=by
  rcases d with⟨s,r,hc⟩|d
  exact n.h l (h.e j c) (s:=s) (r:=r) λ_=>hc;exact n.h l (h.e j c) (s:=0) (r:=0) λq=>absurd q (d j c)
 rw[e];exact k
def gr.ap(h:gr C Anc AncW Fin Shun x tg Tm Sn dn wn stored rel a gs w t)(c:∀{S d g w},Fin S d g w->g.status=.running)(f:∀k,x=.sendP k->w2.heap[C.L.e]?=some (.chan 0 #[] false s r false))(l:0<i):
  ((gs.map (woken C.P b b' w2)).setIfInBounds i g')[0]?=some (woken C.P b b' w2 a)/\tP C Anc AncW Fin x (Tm 0) (Sn 0) (dn 0) (woken C.P b b' w2 a) (wn 0):=by
 refine⟨?_,h.u.h c f⟩;rw[aN (by omega),cD,h.j];rfl
end
def Ka{f g:Nat->Nat}:∀{n:Nat},i<n->(∀j,j≠i->f j=g j)->sumTo n f+g i=sumTo n g+f i
 |n+1,h,a=>by
  rcases cz i n with b|c
  have:=Ka b a;simp only[sumTo,a n (by omega)];omega;obtain rfl:i=n:=by omega
  simp only[sumTo];rw[sumTo_congr λj d=>a j (by omega)];omega
def ER{f:Nat->Nat}:∀{n:Nat},i<n->f i<=sumTo n f
 |n+1,h=>by
  rcases cz i n with a|b
  have:=ER (f:=f) a;simp only[sumTo];omega;obtain rfl:i=n:=by omega
  simp only[sumTo];omega
def SQ{f:Nat->Nat}:∀{n:Nat},sumTo n f=0->∀i,i<n->f i=0:=λ{n} h i a=>by
 have:=ER (f:=f) a;omega
def SP{f:Nat->Nat}{b:Nat}(a:∀i,f i<=1)(h0:∀i,i<b->f i=0):∀{n:Nat},sumTo n f<=n-b
 |0=>by simp[sumTo]
 |n+1=>by
  have:=SP (f:=f) a h0 (n:=n);have h:=a n;simp only[sumTo];rcases cz n b with q|q
  rw[h0 n q];omega;omega
section
variable{C:ee}{Anc AncW Fin:gS}
def iJ(hc:(tg i).h=y.h):Vc C (up tg i y) n=Vc C tg n:=by
 refine sumTo_congr λj _=>?_;unfold BV;by_cases h:j=i;subst h;rw[cI,hc];rw[dj h]
def VY(a:i<n)(b:C.eu<=i)(c:(tg i).h=true)(d:y.h=false):Vc C (up tg i y) n+1=Vc C tg n:=by
 have:=Ka (f:=BV C (up tg i y)) (g:=BV C tg) a (λj e=>by unfold BV;rw[dj e]);have k:BV C (up tg i y) i=0:=by unfold BV;rw[cI,d];simp
 have l:BV C tg i=1:=by unfold BV;rw[c];simp[b]
 unfold Vc;omega
def fW(y:WTag)(T:Tr):Nat×Tr:=match y with
 |.quit q=>(0,rA q)
 |.park=>(8,.leaf)
 |.woke=>(7,.leaf)
 |y=>(y.e,T)
def CF(a:0<i):N6 tg x Tm i=fW (tg i) (Tm i):=by
 unfold N6;rw[ax (by omega)];cases tg i<;>rfl
def rN(d:i<n)(a:0<i)(h:VK (fW y T) (fW (tg i) (Tm i))):ZG VK n (N6 (up tg i y) x (up Tm i T)) (N6 tg x Tm):=by
 refine⟨i,d,by rw[CF a,CF a,cI,cI];exact h,λj c=>?_⟩;rcases fK j with rfl|b
 unfold N6;rw[az rfl,az rfl,dj c];rw[CF b,CF b,dj c,dj c]
def yX(h:Sub T' T):VK (r,T') (r,T):=.right _ h
def kg{a:Nat}(h:a<r):VK (a,T') (r,T):=.left _ _ h
def vf(C:ee)(Anc AncW Fin:gS)(Shun:Loc->Prop)(μ:Mea)(t:Trace)(r:Stepped×Array MemOp):Prop:=∃b a c,r=(.next b,a)/\Lt c μ/\ZC C Anc AncW Fin Shun c b (t++a)
abbrev gG (C:ee) (x:MTag) (tg:Nat->WTag) (Tm:Nat->Tr) (a:Goroutine) (n:Nat):Mea:=(Jw C x,Xc x (Vc C tg n),(n,N6 tg x Tm),sOf x a)
def AN(K:gl C Anc)(M:∀{S d g w},Fin S d g w->g.status=.running)(h:gr C Anc AncW Fin Shun x tg Tm Sn dn wn stored rel a gs w t)(l:gM C x tg stored rel gs.size w)(D:gs[i]?=some g)(m:0<i)(v:stepG C.P false g w=.go g' w2 es)(n:Ed C Anc y T S' (deafBehind (dn i) es) g' w2)(N:yC C (Sn i) S' w w2)(z:TI C.L Shun (C.eu<=·) (λk=>k=0\/(C.eu<=k/\k<gs.size)) (up Sn i S') stored' rel' w2.heap.size (t++MemOp.ofEvents i g.frame.fn g.frame.place es))(E:gM C x (up tg i y) stored' rel' gs.size w2)(f:w2.heap[C.L.b]?=w.heap[C.L.b]?\/¬WgAt C.ty C.L.b w2 0 1\/(mayWake C.P g=true/\(g'.status=.running\/g'.status=.finished)))(O:∀a',Lt (gG C x (up tg i y) (up Tm i T) a' gs.size) (gG C x tg Tm a gs.size)):vf C Anc AncW Fin Shun (gG C x tg Tm a gs.size) t (runT C.P (crowd gs w sl) i):=by
 have c:=(am.1 D).1;have p:(i==0)=false:=by simp;omega
 let ⟨s,r,j⟩:=E.t
 have Q:(∃s r,w2.heap[C.L.e]?=some (.chan 0 #[] false s r false))\/∀i,i<gs.size->tg i≠.park:=by
  cases hcl:mV x with
  |false=>rw[hcl]at j;exact .inl ⟨s,r,j⟩
  |true=>exact .inr (l.J hcl)
 let ⟨R,U⟩:=h.ap M (b:=g) (b':=g') (w2:=w2) (s:=s) (r:=r) (λW e=>by subst e;exact j) m (g':=g')
 refine⟨_,_,_,(runT_crowd_go (P:=C.P) (sl:=sl) (i:=i) D (by rw[p];exact v)),O (woken C.P g g' w2 a),_,_,_,_,_,_,_,_,_,_,_,_,rfl,h.ah (gs':=(gs.map (woken C.P g g' w2)).setIfInBounds i g') c m (by simp) (by rw[bi (by simpa using c)]) R U (h.ab K Q) n N (zI _ es (h.o i c)) z (λX V=>?_) (λG H=>?_),by simpa using E,by simp⟩;obtain⟨e,_,rfl⟩:=Conc.mem_ofEvents V;exact c;rcases f with f|f|⟨f,A⟩
 have q:=h.F G (by unfold WgAt at *;rw[<-f];exact H);rw[woken_run q];exact q;exact absurd H f;have I:=h.u;rw[G]at I;let ⟨_,Y,B,h0⟩:=I
 have q:=h0.2.1;unfold woken;rw[az (by rw[f];rcases A with e|e<;>rw[e]<;>rfl)];rcases B with rfl|rfl
 unfold Goroutine.again;rw[q];exact q;unfold Goroutine.again;dsimp only;rw[h0.2.2.1]
def gM.ac(l:gM C x tg stored rel n w)(a:w2.heap[C.L.b]?=w.heap[C.L.b]?)(c:w2.heap[C.L.e]?=w.heap[C.L.e]?)(d:w2.heap[C.L.h]?=w.heap[C.L.h]?):gM C x tg stored rel n w2:=
 ⟨l.h,l.A,l.H,l.I,by rw[c];exact l.t,by unfold WgAt;rw[a];exact l.b,l.e,l.F,l.u,l.J,l.O,l.B,l.y,l.two,by rw[d];exact l.o⟩
def jN(f:Nat->α)(i:Nat):up f i (f i)=f:=by
 funext j;by_cases h:j=i;subst h;exact cI;exact dj h
def rj{V a:Nat}{A:Nat}(b:a=V)(c:ZG VK n f' f):Lt (A,Xc x a,(n,f'),s') (A,Xc x V,(n,f),s):=by subst b;exact acf c
def uD(v:gl C Anc)(z:∀{S d g w},Fin S d g w->g.status=.running)(h:gr C Anc AncW Fin Shun x tg Tm Sn dn wn stored rel a gs w t)(l:gM C x tg stored rel gs.size w)(n:gs[i]?=some g)(j:0<i)(o:C.eu<=i){Stop:gS}{f:A1->Tr}(k:Tm i=.node f)(A:gu C.P false C.E Stop (.node f) (Sn i) (dn i) g (wn i))(B:6<=(tg i).e)(p:∀T,fW (tg i) T=((tg i).e,T))(D:∀T S d g w,gu C.P false C.E Stop T S d g w->Ed C Anc (tg i) T S d g w):vf C Anc AncW Fin Shun (gG C x tg Tm a gs.size) t (runT C.P (crowd gs w sl) i):=by
 have c:=(am.1 n).1;have r:=h.e i c;obtain⟨g',w2,es,m,b,F⟩:=A.2 w r;have s:=b.h _ h.h.h (h.h.x i);refine AN (y:=tg i) (T:=f w) (stored':=stored) (rel':=rel) v z h l n j m (D _ _ _ _ _ F) (b.e h.h r.h) (h.al (by intro q;cases q) (.inr ⟨o,c⟩) l.h (λ_=>(l.e i o c).2 B) b _ _) (by rw[jN];exact l.ac s (b.h _ h.h.e (h.h.w i)) (b.h _ h.h.i (h.h.u i))) (.inl s) λa'=>?_;refine rj (iJ rfl) (rN c j ?_);rw[p,p,k];exact yX ⟨f,w,rfl,rfl⟩
def AP(hA:gl C Anc)(hF:∀{S d g w},Fin S d g w->g.status=.running)(h:gr C Anc AncW Fin Shun x tg Tm Sn dn wn stored rel a gs w t)(l:gM C x tg stored rel gs.size w)(N:gs[i]?=some g)(z:0<i)(s:g.status=.running){q:Nat}(v:tg i=.quit q):vf C Anc AncW Fin Shun (gG C x tg Tm a gs.size) t (runT C.P (crowd gs w sl) i):=by
 have G:=(am.1 N).1;have K:=h.p i g z N;rw[v]at K;replace K:QuitsD C.P q (dn i) g:=K;cases q with
 |zero=>rw[K.1]at s;cases s
 |succ k=>
  rcases K with⟨hf,_⟩|⟨_,g',es,Q,R,U⟩
  rw[hf]at s;cases s;have ad:up tg i (.quit k)=up tg i (.quit k):=rfl;have aI:∀{P:WTag->Prop},P (.quit (k+1))->(P (.quit (k+1))↔P (.quit k))->P (.quit k):=λa b=>b.1 a;refine AN (y:=.quit k) (T:=.leaf) (S':=Sn i) (stored':=stored) (rel':=rel) hA hF h l N z (R w) U ?_ ?_ ?_ (.inl rfl) λa'=>?_;exact⟨aa _,rfl,rfl,rfl,λ_ _ _ _ _ _=>rfl,(h.e i G).h,λ_ q=>q,λ_ q=>.inl q⟩;rw[jN];exact h.y.Z (g:=i) (λV D=>by obtain⟨e,_,rfl⟩:=Conc.mem_ofEvents D;rfl) (λV D=>by obtain⟨e,L,rfl⟩:=Conc.mem_ofEvents D;exact touch_mute (Q e L)) (λV D=>by obtain⟨e,L,rfl⟩:=Conc.mem_ofEvents D;exact low_mute (Q e L) _) (λV D=>by
   obtain⟨e,L,rfl⟩:=Conc.mem_ofEvents D;have:=Q e L;let ⟨W,wr,sy⟩:=e
   cases W with
   |mark m=>cases m<;>simp_all [Event.mute,MemAct.ofEvent,nQ]
   |_=>simp[Event.mute]at this)
  have n:∀j,(up tg i (.quit k) j=tg j/\j≠i)\/(j=i/\up tg i (.quit k) j=.quit k):=λj=>by
   by_cases f:j=i;subst f;exact .inr ⟨rfl,cI⟩;exact .inl ⟨dj f,f⟩
  have c:∀j (y:WTag),(∀q,y≠.quit q)->(up tg i (.quit k) j=y↔tg j=y):=λj y hy=>by
   rcases n j with⟨e,_⟩|⟨rfl,e⟩
   rw[e];rw[e,v];exact⟨λq=>absurd q.symm (hy _),λq=>absurd q.symm (hy _)⟩
  have M:∀j,(up tg i (.quit k) j).j=(tg j).j:=λj=>by
   rcases n j with⟨e,_⟩|⟨rfl,e⟩
   rw[e];rw[e,v];rfl
  have hV:Vc C (up tg i (.quit k)) gs.size=Vc C tg gs.size:=iJ (by rw[v];rfl);refine⟨l.h,l.A,l.H,λj f=>?_,l.t,?_,λj E f=>?_,l.F,λhc j E f=>?_,λhc j f=>?_,λr hr j f=>?_,λp hp=>?_,λj p E f e=>l.y j p E f ((c j _ (by simp)).1 e),λj j' p X Y b3 b4 e1 e2=>l.two j j' p X Y b3 b4 ((c j _ (by simp)).1 e1) ((c j' _ (by simp)).1 e2),l.o⟩;rcases n j with⟨e,_⟩|⟨rfl,e⟩
  rw[e];exact l.I j f;exact⟨k,e⟩;let ⟨st,sm,h1,h2⟩:=l.b
  refine⟨st,sm,h1,?_⟩;unfold rx at h2⊢;have kl:∀j,((up tg i (.quit k) j=.d2\/up tg i (.quit k) j=.d3)↔(tg j=.d2\/tg j=.d3))/\(up tg i (.quit k) j=.d4↔tg j=.d4):=λj=>⟨or_congr (c j _ (by simp)) (c j _ (by simp)),c j _ (by simp)⟩;simp only[hV,M,kl];exact h2;rcases n j with⟨e,_⟩|⟨rfl,e⟩
  rw[e];exact l.e j E f;have:=l.e j E f;rw[v]at this;rw[e];exact⟨λ_=>this.1 (by simp[WTag.e]),λq=>by simp[WTag.e]at q⟩;rcases n j with⟨e,_⟩|⟨rfl,e⟩
  rw[e];exact l.u hc j E f;have:=l.u hc j E f;rw[v]at this;simp at this;rcases n j with⟨e,_⟩|⟨rfl,e⟩
  rw[e];exact l.J hc j f;rw[e];simp;rcases n j with⟨e,_⟩|⟨rfl,e⟩
  rw[e];exact l.O r hr j f;rw[e];simp;rcases l.B p hp with q|⟨j,X,Y,b3⟩
  exact .inl q;exact .inr ⟨j,X,Y,(c j _ (by simp)).2 b3⟩;refine rj (iJ (by rw[v];rfl)) (rN G z ?_);rw[v];exact yX (GF k)
end
end Go.Eqv
