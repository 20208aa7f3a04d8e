/- Parts of the proof. -/
import Derived.Test.YtbebfliimjjohabGreatDoorM05
set_option maxRecDepth 100000
set_option maxHeartbeats 8000000
set_option linter.all false
namespace Go.Eqv
variable{a:Addr}{es es':Array Event}{mb:Bool}{fr:Frame}{fn:FuncId}{x x':GStep}{g g1:E4}{base cs:List Frame}{k:List Item}{n m:Nat}{X:Nat->Bool}{A:Nat->Option Nat}{o:Oper}{dst:Option Nat}{U ρ:Pm}{P:Ft}{α:Type}{t:DU}{w w1 w':Ba}{κ:iW}(C:fD P U){s:Sem α}{r:Result α}
def abZ(κ:iW)(n:Nat)(e:Event):Prop:=Mk κ n e\/∃a,e.loc=.cell a/\e.write=false/\κ.G a.block=true
structure nl(κ:iW)(X:Nat->Bool)(w w1:World)(es:Array Event):Prop where
 i:Sh κ X w1
 h:w.heap.size<=w1.heap.size
 j:w.drawn<=w1.drawn
 g:∀b,κ.G b=true->w1.heap[b]?=w.heap[b]?
 o:∀e∈es,BQ X e=true->abZ κ w1.heap.size e
def UK(κ:iW)(n:Nat):Next->Prop
 |.value v=>gQ κ n v
 |.enter f c=>κ.b f=true/\gA κ n c
 |.round l f g a b=>fU κ n l/\κ.b f=true/\gA κ n g/\κ.e a=true/\κ.e b=true
 |.defer d=>uC κ n d
 |.skip=>True
 |.recover=>True
 |_=>False
def Ui.e(h:Ui κ X w w1 es)(hs:w.heap.size<=w1.heap.size)(a:w.drawn<=w1.drawn):nl κ X w w1 es:=⟨h.i,hs,a,h.g,λe b c=>.inl (h.h e b c)⟩
def nl.refl(h:Sh κ X w):nl κ X w w #[]:=⟨h,aj _,aj _,λ_ _=>rfl,λe a=>absurd a aY⟩
def Qo(h:kq κ n U ρ){a:Next}(e:dc U a=dc ρ a):UK κ n a:=by
 cases a with
 |value v=>exact xk h v (Next.value.inj e)
 |enter f c=>
  simp only[dc,Next.enter.injEq]at e;exact⟨yO (fn:=.func f) h (by simp only[nN];rw[e.1]),lV h _ e.2⟩
 |round l f g a b=>
  simp only[dc,Next.round.injEq]at e;exact⟨kz h e.1,yO (fn:=.func f) h (by simp only[nN];rw[e.2.1]),lV h _ e.2.2.1,KD h e.2.2.2.1,KD h e.2.2.2.2⟩
 |defer d=>exact EP h (Next.defer.inj e)
 |skip=>trivial
 |recover=>trivial
 |_=>exact(λq=>h.2.2.1 (Next.sleep.inj q)) e
def tn.h(R:jE P κ X A)(d:Sh κ X w)(h:tn κ X w.heap.size U):fD P U/\qK P U:=by
 have c:=d.e _ R.PM;have C:fD P U:=R.PJ U h.i (h.e _ c) (λf b a=>by rw[h.j f b (Nat.lt_trans a c.1)];exact a) (λb a=>by
  have:=h.o b (Nat.lt_trans a c.1);rw[this]at a;exact a)
 exact⟨C,R.ext U h.i (λb a _=>h.e b (d.e b a)) C⟩
def nu.e(R:jE P κ X A)(h:nu P κ X U):fD P U/\qK P U:=by
 have C:fD P U:=R.PJ U h.h (h.i _ (aj _)) (λ_ b a=>by rw[h.i b (vH a)];exact a) (λb a=>by
  have:=U.EH (h.i _ (vH a));rw[this]at a;exact a)
 exact⟨C,R.ext U h.h (λb _ a=>h.i b (vH a)) C⟩
def BH(a:Of κ U){fn:Fn}(h:qP κ n fn):My U fn=true:=by
 cases fn with
 |func f=>show U.yy f=true;rw[a.1];exact h
 |via t p f b=>show U.yy f=true;rw[a.1];exact h
 |method m=>show U.wS m=true;rw[a.2.1];exact h
 |methodOf t m=>show U.wS m=true;rw[a.2.1];exact h
 |yield l=>rfl
def KO(R:jE P κ X A)(k:Sh κ X w){e:Operand->Dv}(l:Iv P κ o.op=true)(d:∀x∈o.op.operands,gQ κ w.heap.size (e x))(h:tn κ X w.heap.size U):bU P U (dc U) (execOp e o) (execOp e o):=by
 obtain⟨C,E⟩:=h.h R k;refine ER C E o e e (KL h.i l) (λx m=>(rl ⟨h.i,h.e⟩ _ (d x m)).symm) (λc f fn a b g j n=>?_) (λx fn a b g j=>?_);have:=d f (by rw[g];simp[Op.operands,Call.operands,j]);rw[n]at this;exact BH h.i this.1;have:=d x (by rw[g];simp[Op.operands]);rw[j]at this;exact BH h.i this.1
def iX(h:s.runT P w #[]=(r,es)):w.heap.size<=(Va r).heap.size:=by
 have:=(pq P s w #[]).1;rw[h]at this;exact this
def gZ(h:s.runT P w #[]=(r,es)):w.drawn<=(Va r).drawn:=by
 have:=(pq P s w #[]).2;rw[h]at this;exact this
def Iw(R:jE P κ X A)(b:Sh κ X w){e:Operand->Dv}(d:Iv P κ o.op=true)(f:∀x∈o.op.operands,gQ κ w.heap.size (e x)):
  (∀a w1 es,(execOp e o).runT P w #[]=(.ok a w1,es)->nl κ X w w1 es/\UK κ w1.heap.size a)/\(∀v w1 es,(execOp e o).runT P w #[]=(.halt (.panic v) w1,es)->nl κ X w w1 es/\gQ κ w1.heap.size v):=by
 constructor;intro a w1 es run;let ⟨l,U,ρ,c,q⟩:=pk (pa:=λU=>dc U) b (λU h=>KO R b d f h) run
 exact⟨l.e (iX run) (gZ run),Qo c q⟩;intro v w1 es run;let ⟨l,q⟩:=mS (pa:=λU=>dc U) b (λU h=>KO R b d f h) run
 exact⟨l.e (iX run) (gZ run),q⟩
def Yr(b:Sh κ X w)(d:κ.G a.block=true):(∃v,(Go.load a).runT P w #[]=(.ok v w,#[⟨.cell a,false,false⟩])/\gQ κ w.heap.size v)\/qs ((Go.load a).runT P w #[]):=by
 let ⟨c,t,z,hc⟩:=b.g _ d
 show (∃v,(Sem.load .plain a .pure).runT P w #[]=_/\_)\/qs ((Sem.load .plain a .pure).runT P w #[]);simp only[Sem.runT];cases q:w.cell? a with
 |some v=>
  refine .inl ⟨v,rfl,?_⟩;unfold World.cell? at q;rw[hc]at q;simp only at q;split at q;cases q;have e:X a.block=false:=by
   cases qx:X a.block with
   |false=>rfl
   |true=>rw[(b.x _ qx).1]at d;cases d
  exact jq.1 (b.h _ _ e hc) v (dK q)
 |none=>
  obtain⟨x,f,h⟩:=KF (P:=P) (m:=Mode.plain==Mode.atomic) (λu t q=>by rw[hc]at q;cases q);rw[f];rcases h with⟨u,rfl⟩|⟨u,rfl⟩
  exact .inr aB;exact .inr aB
def Mq(h:one P t=true):(isAgg t).runT P w es=(.ok false w,es):=by
 unfold one at h;unfold isAgg underlying;show ((Sem.program λp=>match p.underlying t with|some d=>pure d|none=>_).bind _).runT P w es=_;simp only[Sem.bind,Sem.runT];cases q:P.underlying t with
 |none=>rw[q]at h;cases h
 |some d=>
  rw[q]at h;cases d<;>first|rfl|cases h
def Xh(κ:iW)(n:Nat)(a dst:Option Nat):Next->Prop
 |.value v=>∀d,dst=some d->yM κ n a d v
 |x=>UK κ n x
def UK.v{a:Option Nat}{x:Next}(h:UK κ n x):Xh κ n a dst x:=by
 cases x<;>first|exact h|exactλ_ _=>.inl h
def Qh(j:Sh κ X w)(k:one P t=true)(l:κ.G a.block=true){e:Operand->Dv}{x:Operand}(f:o.op=.load t x)(m:e x=.pointer (some a)):
  (∃v,(execOp e o).runT P w #[]=(.ok (.value v) w,#[⟨.cell a,false,false⟩])/\gQ κ w.heap.size v)\/qs ((execOp e o).runT P w #[]):=by
 let ⟨dst,s,g,i,c,d⟩:=o
 dsimp only at f;subst f;have:execOp e ⟨dst,.load t x,g,i,c,d⟩=(((isAgg t).bind λb=>if b=true then (do pure (.agg (<-loadCells a (<-sizeOf t)))) else Go.load a).bind λv=>pure (.value v)):=by
  unfold execOp;dsimp only;rw[m];rfl
 rw[this,ft,ft,Mq k];simp;rcases Yr (P:=P) j l with⟨v,n,p⟩|h
 rw[n];exact .inl ⟨v,rfl,p⟩;refine .inr ?_;revert h;generalize (Go.load a).runT P w #[]=y;let ⟨r,es⟩:=y
 intro h;cases r with
 |ok a w=>exact h.elim
 |halt q w=>cases q<;>first|exact h.elim|trivial
def nl.read(h:Sh κ X w)(b:κ.G a.block=true):nl κ X w w #[⟨.cell a,false,false⟩]:=⟨h,aj _,aj _,λ_ _=>rfl,λe c _=>by
 have:e=⟨.cell a,false,false⟩:=dD c;subst this;exact .inr ⟨a,rfl,rfl,b⟩⟩
def zJ(t:DU):(∃d,P.underlying t=some d/\∀w es,(underlying t).runT P w es=(.ok d w,es))\/∀w es,qs ((underlying t).runT P w es):=by
 cases q:P.underlying t with
 |none=>
  refine .inr λw es=>?_;unfold underlying;show qs ((Sem.program λp=>match p.underlying t with|some d=>pure d|none=>_).runT P w es);simp only[Sem.runT,q];trivial
 |some d=>
  refine .inl ⟨d,rfl,λw es=>?_⟩;unfold underlying;show ((Sem.program λp=>match p.underlying t with|some d=>pure d|none=>_).runT P w es)=_;simp only[Sem.runT,q];rfl
def uI{β:Type}{f:α->Sem β}(h:qs (s.runT P w es)):qs ((s.bind f).runT P w es):=by
 rw[ft];revert h;generalize s.runT P w es=y;let ⟨r,es⟩:=y
 intro h;cases r with
 |ok a w=>exact h.elim
 |halt b w=>cases b<;>first|exact h.elim|trivial
def IF(t:DU):(∃d,∀w es,(Go.sizeOf t).runT P w es=(.ok d w,es))\/∀w es,qs ((Go.sizeOf t).runT P w es):=by
 unfold Go.sizeOf typeInfo;cases q:P.info? t with
 |none=>
  refine .inr λw es=>?_;apply uI;show qs ((Sem.program λp=>match p.info? t with|some i=>pure i|none=>_).runT P w es);simp only[Sem.runT,q];trivial
 |some d=>
  refine .inl ⟨d.size,λw es=>?_⟩;show (((Sem.program λp=>match p.info? t with|some i=>pure i|none=>_).bind _).runT P w es)=_;rw[ft];simp only[Sem.runT,q];rfl
def UQ(t:DU)(a:Addr)(e:Dv)(w:Ba):(∃k,(Instr.indexAt t (.pointer (some a)) e).runT P w #[]=(.ok (.pointer (some (a.add k))) w,#[]))\/qs ((Instr.indexAt t (.pointer (some a)) e).runT P w #[])\/∃k i l c,(Instr.indexAt t (.pointer (some a)) e).runT P w #[]=(boundsPanic k i l c:Sem Dv).runT P w #[]:=by
 unfold Instr.indexAt;cases e with
 |int k i=>
  rcases zJ (P:=P) t with⟨d,m,h⟩|h
  .show (∃k,((underlying t).bind _).runT P w #[]=_)\/qs (((underlying t).bind _).runT P w #[])\/∃k i l c,((underlying t).bind _).runT P w #[]=_;rw[ft,h];cases d<;>first|exact .inr (.inl aB)|skip
   rename_i g f;show (∃k,((underlying t).bind _).runT P w #[]=_)\/qs (((underlying t).bind _).runT P w #[])\/∃k i l c,((underlying t).bind _).runT P w #[]=_;rw[ft,h];dsimp only;by_cases q:0<=i/\i<(g:Int);rw[aH q];rcases IF (P:=P) f with⟨z,j⟩|j
   refine .inl ⟨i.toNat*z,?_⟩;show ((Go.sizeOf f).bind _).runT P w #[]=_;rw[ft,j];rfl;exact .inr (.inl (uI (j w #[])));rw[ay q];split;exact .inr (.inl aB);exact .inr (.inr ⟨_,_,_,_,rfl⟩)
  exact .inr (.inl (show qs (((underlying t).bind _).runT P w #[]) from uI (h w #[])))
 |pointer b=>cases b<;>exact .inr (.inl aB)
 |_=>exact .inr (.inl aB)
def EG(P:Program)(κ:iW)(X:Nat->Bool)(w:World)(a dst:Option Nat)(s:Sem Next):Prop:=
 (∀x w1 es,s.runT P w #[]=(.ok x w1,es)->nl κ X w w1 es/\Xh κ w1.heap.size a dst x)/\∀v w1 es,s.runT P w #[]=(.halt (.panic v) w1,es)->nl κ X w w1 es/\gQ κ w1.heap.size v
def Yx(R:jE P κ X A)(r:Sh κ X w)(Q:gp P κ X A w.heap.size fr)(F:pc P κ X (aF A fr) o=true):EG P κ X w (aF A fr) o.dst (execOp fr.eval o):=by
 have z:Iv P κ o.op=true->(∀x∈o.op.operands,gQ κ w.heap.size (fr.eval x))->EG P κ X w (aF A fr) o.dst (execOp fr.eval o):=λu B=>
  ⟨λx w1 es run=>⟨((Iw R r u B).1 x w1 es run).1,((Iw R r u B).1 x w1 es run).2.v⟩,(Iw R r u B).2⟩
 have S:∀t x a,o.op=.load t x->one P t=true->fr.eval x=.pointer (some a)->κ.G a.block=true->EG P κ X w (aF A fr) o.dst (execOp fr.eval o):=by
  intro t x a b Y L D;rcases Qh (P:=P) r Y D b L with⟨v,u,B⟩|h
  constructor;intro y w1 es run;rw[u]at run;cases run;exact⟨nl.read r D,λd _=>.inl B⟩;intro y w1 es run;rw[u]at run;cases run;constructor;intro y w1 es run;rw[run]at h;exact h.elim;intro y w1 es run;rw[run]at h;exact h.elim
 unfold pc at F;rw[aR,oP,aR]at F;replace F:=F.2;rcases F with m|⟨u,B⟩
 .have H:=zD m;unfold pv at m;split at m;rename_i t g b;rw[aR]at m;exact S t _ (aA g 0) b m.2 rfl m.1;rename_i t x b;rw[aR]at m;have s:fr.eval (.tmp x)=fr.tmps.getD x undef:=rfl;rw[bD]at s;cases q:fr.tmps[x]? with
  |none=>
   refine z H λy I=>?_;rw[b]at I;have:y=.tmp x:=by simpa[Op.operands] using I
   subst this;rw[s,q];exact lh
  |some v=>
   rcases Q.j x v q with h|⟨_,p,rfl,D⟩
   refine z H λy I=>?_;rw[b]at I;have:y=.tmp x:=by simpa[Op.operands] using I
   subst this;rw[s,q];exact h;exact S t _ p b m.2 (by rw[s,q];rfl) D
  .rename_i t g i b;rw[aR,aR]at m;let ⟨⟨D,hi⟩,T⟩:=m
   have J:∀d,o.dst=some d->aF A fr=some d:=λd q=>by
    rw[q]at T;simpa using T
   have n:execOp fr.eval o=(Instr.indexAt t (.pointer (some (aA g 0))) (fr.eval i)).bind λv=>pure (.value v):=by
    let ⟨dst,op,V,Z,M,N⟩:=o
    dsimp only at b;subst b;rfl
   rcases UQ (P:=P) t (aA g 0) (fr.eval i) w with⟨k,h⟩|h|⟨k,x,l,c,h⟩
   .have K:(execOp fr.eval o).runT P w #[]=(.ok (.value (.pointer (some (Addr.add (aA g 0) k)))) w,#[]):=by rw[n,ft,h];rfl
    constructor
    .intro y w1 es run;rw[K]at run;cases run;exact⟨nl.refl r,λd q=>.inr ⟨J d q,_,rfl,by rw[show (Addr.add (aA g 0) k).block=g from by unfold Addr.add;repeat' split<;>rfl];exact D⟩⟩
    intro y w1 es run;rw[K]at run;cases run
   have:=uI (f:=λv=>pure (Next.value v)) h;rw[<-n]at this;constructor;intro y w1 es run;rw[run]at this;exact this.elim;intro y w1 es run;rw[run]at this;exact this.elim;have K:(execOp fr.eval o).runT P w #[]=((boundsPanic k x l c:Sem Dv).bind λv=>pure (.value v)).runT P w #[]:=by rw[n,ft,ft,h]
   have W:∀U,tn κ X w.heap.size U->bU P U (dc U) ((boundsPanic k x l c:Sem Dv).bind λv=>pure (.value v)) ((boundsPanic k x l c:Sem Dv).bind λv=>pure (.value v)):=λU hN=>by
    let ⟨C,E⟩:=hN.h R r
    exact bU.e (pa:=pV U) (iY C k x l c) λv=>bU.h rfl
   constructor;intro y w1 es run;rw[K]at run;let ⟨l,U,ρ,O,q⟩:=pk r W run
   exact⟨l.e (iX run) (gZ run),(Qo O q).v⟩;intro y w1 es run;rw[K]at run;let ⟨l,q⟩:=mS r W run
   exact⟨l.e (iX run) (gZ run),q⟩
  cases m
 refine z u λx L=>?_;exact uA R r Q (iy.1 B x L)
def U3(R:jE P κ X A)(T:nu P κ X U)(r:gp P κ X A w.heap.size fr)(s:Sh κ X w)(k:pc P κ X (aF A fr) o=true):bU P U (dc U) (execOp fr.eval o) (execOp (i9 U fr).eval o):=by
 obtain⟨C,E⟩:=T.e R;have u:∀x,Mz P κ X (aF A fr) x=true->okY P κ x:=λx h=>by
  cases x with
  |tmp t=>trivial
  |const v=>exact h
  |global g=>simp only[Mz,aR,f9]at h;exact h.2
  |func f=>exact h
 unfold pc at k;rw[aR,oP,aR]at k;replace k:=k.2;have p:Iv P κ o.op=true:=by
  rcases k with h|h
  exact zD h;exact h.1
 refine ER C E o _ _ (KL T.h p) (λx l=>vN T ?_) (λc f fn a b m q z=>?_) (λx fn a b m q=>?_);rcases k with d|⟨_,n⟩
 unfold pv at d;split at d;rename_i t g j;rw[aR]at d;rw[j]at l;have:x=.global g:=by simpa[Op.operands] using l
 subst this;exact R.g g d.1;rename_i t y j;rw[j]at l;have:x=.tmp y:=by simpa[Op.operands] using l
 subst this;trivial;rename_i t g i j;rw[aR,aR]at d;rw[j]at l;have:x=.global g\/x=i:=by simpa[Op.operands] using l
 rcases this with rfl|rfl
 exact R.g g d.1.1;exact u _ d.1.2;cases d;exact u x (iy.1 n x l);rcases k with d|⟨_,n⟩
 unfold pv at d;rw[m]at d;cases d;have:=uA R s r (iy.1 n f (by rw[m];simp[Op.operands,Call.operands,q]));rw[z]at this;exact BH T.h this.1;rcases k with d|⟨_,n⟩
 unfold pv at d;rw[m]at d;cases d;have:=uA R s r (iy.1 n x (by rw[m];simp[Op.operands]));rw[q]at this;exact BH T.h this.1
def kD(P:Program):Bool->List Event->List Event
 |_,[]=>[]
 |q,e::l=>match e.loc with
  |.mark (.extern f)=>kD P ((P.funcs[f]?).any (·.norace)) l
  |_=>if q&&!e.sync then kD P q l else e::kD P q l
def BI{F:Bool×Array Event->Event->Bool×Array Event}(g:∀q c f a b,F (q,c) ⟨.mark (.extern f),a,b⟩=((P.funcs[f]?).any (·.norace),c))(i:∀q c e,(∀f,e.loc≠.mark (.extern f))->F (q,c) e=(q,if (q&&!e.sync)=true then c else c.push e)):∀(l:List Event) (q:Bool) (c:Array Event),(l.foldl F (q,c)).2=c++(kD P q l).toArray
 | [],q,c=>by simp[kD]
 |e::l,q,c=>by
  have d:=BI g i l;rw[lM];unfold kD;split;rename_i f h;obtain⟨j,a,b⟩:=e;dsimp only at h;subst h;rw[g];exact d _ _;rename_i h;rw[i q c e λf k=>h f k];split;exact d _ _;rw[d];simp
def zB(P:Ft)(fn:FuncId)(es:Array Event):seen P fn es=(kD P ((P.funcs[fn]?).any (·.norace)) es.toList).toArray:=by
 unfold seen;show (Array.foldl (β:=Bool×Array Event) _ _ es).2=_;rw[<-lO];refine(BI (P:=P) (λq c f a b=>rfl) (λq c e g=>?_) _ _ _).trans aY;obtain⟨d,a,b⟩:=e;cases d with
 |mark m=>cases m<;>first|rfl|exact absurd rfl (g _)
 |_=>rfl
def rU(P:Ft):∀(l:List Event) (q:Bool) e,e∈kD P q l->e∈l
 | [],q,e,h=>by cases h
 |x::l,q,e,h=>by
  unfold kD at h;split at h;simp[rU P l _ e h];split at h;simp[rU P l _ e h];rcases bG.1 h with rfl|h
  simp;simp[rU P l _ e h]
def zC{e:Event}(h:e∈seen P fn es):e∈es:=by
 rw[zB]at h;exact Array.mem_def.2 (rU P _ _ e (dD h))
def B7(P:Ft)(U:Pm):∀(l:List Event) (q:Bool),kD P q (l.map (sL U))=(kD P q l).map (sL U)
 | [],q=>rfl
 |⟨c,a,b⟩::l,q=>by
  have d:=B7 P U l;cases c with
  |mark m=>
   cases m<;>simp only[List.map,kD,sL,lU,uK]<;>first|exact d _|(split<;>simp[d,sL,lU,uK])
  |_=>simp only[List.map,kD,sL,lU];split<;>simp[d,sL,lU]
def pr(P:Ft){k:Event->Bool}(g:∀f a b,k ⟨.mark (.extern f),a,b⟩=true):∀(l:List Event) (q:Bool),kD P q (l.filter k)=(kD P q l).filter k
 | [],q=>rfl
 |e::l,q=>by
  have c:=pr P g l;rw[Hw];by_cases d:k e=true;rw[aH d];unfold kD;split;exact c _;split;exact c _;rw[Hw,aH d,c]
  .rw[ay d];conv=>rhs;unfold kD
   split;rename_i f h;obtain⟨i,a,b⟩:=e;dsimp only at h;subst h;exact absurd (g _ _ _) d;split;exact c _;rw[Hw,ay d,c]
def yx.j(h:yx U es es'):yx U (Go.seen P fn es) (Go.seen P fn es'):=by
 refine⟨?_,λa e c=>h.b a e (zC c)⟩;replace h:=h.h;rw[zB,zB];have d:es'.toList.filter (xa U)=(es.toList.filter (tG U)).map (sL U):=by
  have:=cr Array.toList h;simpa using this
 have:(kD P ((P.funcs[fn]?).any (·.norace)) es'.toList).filter (xa U)=((kD P ((P.funcs[fn]?).any (·.norace)) es.toList).filter (tG U)).map (sL U):=by
  rw[<-pr P (λ_ _ _=>rfl),<-pr P (λ_ _ _=>rfl),d,B7]
 simpa using cr List.toArray this
def x9(U:Pm)(base:List Frame)(g:Goroutine):Goroutine:={g with frame:=i9 U g.frame,callers:=g.callers.map (i9 U)++base}
structure qu(P:Program)(κ:iW)(X:Nat->Bool)(A:Nat->Option Nat)(n:Nat)(g:Goroutine):Prop where
 e:gp P κ X A n g.frame
 i:∀fr∈g.callers,gp P κ X A n fr
 o:A0 g.frame g.callers
 b:g.status=.running
 j:g.dying=none
 h:g.offers=none
def nY(g:Goroutine):Prop:=g.status=.running/\g.dying=none
def LQ(g:Goroutine):Prop:=(g.status=.running/\∃d,g.dying=some d/\d.calling=false/\d.todo=[])\/((g.status=.blocked\/g.status=.waiting)/\g.offers=none)
def LQ.h(h:LQ g)(a:g.status=.running)(b:g.dying=none):False:=by
 rcases h with⟨_,d,h,_⟩|⟨h|h,_⟩
 rw[b]at h;cases h;rw[a]at h;cases h;rw[a]at h;cases h
def oT(P:Program)(κ:iW)(X:Nat->Bool)(A:Nat->Option Nat)(U:Pm)(base:List Frame)(w w':World):GStep->GStep->Prop
 |.go g1 w1 es,x=>(nY g1\/LQ g1)/\(g1.status=.running->g1.dying=none->(w.heap.size<=w1.heap.size/\w.drawn<=w1.drawn)/\(C5 U w w' w1->qu P κ X A w1.heap.size g1/\nl κ X w w1 es/\∃a es',x=.go (x9 U base g1) a es'/\yx U es es'/\ko U w w' w1 a))
 |.ended _ _ _,_=>True
 |_,_=>False
def yx.nil:yx U #[] #[]:=⟨aY,λ_ e a=>absurd a aY⟩
def oT.e(d:Sh κ X w)(f:tu U w w'){a:E4}(c:qu P κ X A w.heap.size g1)(e:a=x9 U base g1):oT P κ X A U base w w' (.go g1 w #[]) (.go a w' #[]):=by
 subst e;exact⟨.inl ⟨c.b,c.j⟩,λ_ _=>⟨⟨aj _,aj _⟩,λ_=>⟨c,nl.refl d,w',#[],rfl,yx.nil,ko.e f⟩⟩⟩
def Mk.e(c:n<=m){e:Event}(h:Mk κ n e):Mk κ m e:=by
 let ⟨l,a,b⟩:=e
 cases l with
 |cell a=>exact fU.e h c
 |obj r=>exact fU.e h c
 |mark k=>exact h
 |_=>trivial
def iP(c:nl κ X w w1 es)(d:qu P κ X A w1.heap.size g1)(k:C5 U w w' w1->∃a es',x=GStep.after (seen P fn es') (.go (x9 U base g1) a #[])/\yx U es es'/\ko U w w' w1 a):
  oT P κ X A U base w w' (GStep.after (seen P fn es) (.go g1 w1 #[])) x:=by
 refine⟨.inl ⟨d.b,d.j⟩,λ_ _=>⟨⟨c.h,c.j⟩,λl=>?_⟩⟩;obtain⟨a,es',rfl,f,m⟩:=k l;refine⟨d,⟨c.i,c.h,c.j,c.g,λe f n=>c.o e (zC (dD f)) n⟩,a,seen P fn es',by simp[GStep.after],dD f.j,m⟩
def oT.h{c:Ba}(a:nl κ X w w1 es)(C:C5 U w w' w1->yx U es es'/\ko U w w' w1 c)(h:oT P κ X A U base w1 c x x'):oT P κ X A U base w w' (GStep.after (seen P fn es) x) (GStep.after (seen P fn es') x'):=by
 cases x with
 |go K w2 D=>
  refine⟨h.1,λE F=>?_⟩;let ⟨d,G⟩:=h.2 E F
  refine⟨⟨aO a.h d.1,aO a.j d.2⟩,λn=>?_⟩;have k:C5 U w w' w1:=⟨λb b1 b2=>n.e b b1 (aN b2 d.1),aO d.2 n.h⟩;let ⟨f,u⟩:=C k
  have p:C5 U w1 c w2:=⟨λb b1 b2=>by
   have L:=n.e b (aO a.h b1) b2;have M:=u.j;have N:=a.h;omega,n.h⟩
  obtain⟨I,r,s,l,rfl,m,t⟩:=G p;refine⟨I,⟨r.i,aO a.h d.1,aO a.j d.2,λb v=>(r.g b v).trans (a.g b v),λe f y=>?_⟩,s,seen P fn es'++l,rfl,?_,u.H k t⟩;rcases cE.1 f with f|f
  rcases a.o e (zC f) y with q|q
  exact .inl (Mk.e d.1 q);exact .inr q;exact r.o e f y
  .have z:=(f.j (P:=P) (fn:=fn));refine⟨?_,λB e J=>(cE.1 J).elim (z.b B e) (m.b B e)⟩;rw[Array.filter_append,Array.filter_append,nj,z.h,m.h];all_goals simp
 |ended o w es=>trivial
 |_=>exact h.elim
def tj:GStep->Prop
 |.go g _ _=>LQ g
 |.ended _ _ _=>True
 |_=>False
def nv(h:g.status=.blocked\/g.status=.waiting)(a:g.offers=none):tj (.go g w es):=.inr ⟨h,a⟩
def tC(hs:g.status=.running){d:Dying}(h:g.dying=some d)(hc:d.calling=false)(a:d.todo=[]):tj (.go g w es):=.inl ⟨hs,d,h,hc,a⟩
def lF{o:Outcome}:tj (.ended o w es):=aB
def tj.h{y:GStep}(h:tj x):oT P κ X A U base w w' x y:=by
 cases x with
 |go g w1 es=>
  exact⟨.inr h,λa b=>(LQ.h h a b).elim⟩
 |ended o w es=>trivial
 |_=>exact h.elim
def tj.e(h:tj x):tj (GStep.after es x):=by
 cases x<;>exact h
def qu.mk'(a:n<=m)(b:gp P κ X A m fr)(d:∀c∈cs,gp P κ X A n c)(f:Eqv.A0 fr cs):qu P κ X A m ⟨fr,cs,.running,none,none⟩:=
 ⟨b,λc hc=>(d c hc).e a,f,rfl,rfl,rfl⟩
def Ie(R:jE P κ X A){g:Nat}:tj (early P fr cs none g w):=by
 unfold early;simp only[R.Xc,R.aac];trivial
def yL(fr:Frame)(cs:List Frame)(m:String)(w:Ba):tj (endFatal P fr cs none m w):=by
 unfold endFatal;extract_lets;repeat' split
 all_goals first|trivial|exact tC rfl rfl rfl rfl
def uM:∀{fr:Frame} {cs:List Frame},gp P κ X A n fr->(∀c∈cs,gp P κ X A n c)->Eqv.A0 fr cs->fr.kind≠.wrapped ->
  tryRecover (i9 U fr) (cs.map (i9 U)++base)=(tryRecover fr cs).map λx=>(pV U x.1,x.2.map (i9 U)++base):=by
 intro fr cs t hc o p;let ⟨fn,k,l,f,m,b,u⟩:=fr
 cases b with
 |deferred=>
  cases cs with
  |nil=>exact absurd (show CallKind.deferred=.normal from o) cn
  |cons c cs=>
   let ⟨q,h,i,d,a,j,s⟩:=c
   cases a with
   |panicking ch=>
    cases ch with
    |nil=>rfl
    |cons e ch=>
     let ⟨v,r,g⟩:=e
     cases r<;>cases g<;>rfl
   |_=>rfl
 |wrapped=>exact absurd rfl p
 |_=>cases cs<;>first|rfl|(cases base<;>rfl)
def xd(hc:∀c∈cs,gp P κ X A n c)(F:Eqv.A0 fr cs)(G:fr.kind≠.wrapped){v:Dv}{f:List Frame}(h:tryRecover fr cs=some (v,f)):
  gQ κ n v/\(∀c∈f,gp P κ X A n c)/\Eqv.A0 fr f:=by
 let ⟨fn,C,D,t,E,q,H⟩:=fr
 cases q with
 |deferred=>
  cases cs with
  |nil=>cases h
  |cons c cs=>
   have a:=hc c aY;have w:∀c∈cs,gp P κ X A n c:=λc h=>hc c (by simp[h]);let ⟨x,i,k,d,l,m,y⟩:=c
   cases l with
   |panicking ch=>
    cases ch with
    |nil=>cases h
    |cons e ch=>
     let ⟨u,r,g⟩:=e
     cases r<;>cases g<;>cases h;have z:=a.s;refine⟨z ⟨v,false,false⟩ aY,λc hc=>?_,?_⟩;rotate_left;show Eqv.A0 _ cs;refine Eqv.A0.e ?_ (show Eqv.A0 ⟨x,i,k,d,.panicking (⟨v,false,false⟩::ch),m,y⟩ cs from F);rfl;rcases bG.1 hc with rfl|hc
     refine⟨a.u,a.j,a.p,a.b,λe B=>?_,a.o,a.h⟩;rcases bG.1 B with rfl|B
     exact z ⟨v,false,false⟩ aY;exact z e (by simp[B]);exact w c hc
   |_=>cases h
 |wrapped=>exact absurd rfl G
 |_=>cases cs<;>cases h
def qY:List Item->Prop
 |.call .. :: _=>False
 |.extern .. :: _=>False
 |_=>True
def gp.H(h:gp P κ X A n fr):qY fr.todo:=by
 cases q:fr.todo with
 |nil=>trivial
 |cons i k=>
  have:=h.p i (by rw[q];simp);cases i<;>first|trivial|exact this.elim
def qY.e(h:qY k):qY (k.map (ja U)):=by
 cases k with
 |nil=>trivial
 |cons i k=>cases i<;>first|trivial|exact h.elim
def Mc(h:gp P κ X A n fr):(fr.kind==CallKind.early)=false:=by
 rcases h.o with q|q<;>rw[q]<;>rfl
def uQ(h:gp P κ X A n fr):fr.kind≠.wrapped:=by
 rcases h.o with q|q<;>rw[q]<;>decide
def nZ(R:jE P κ X A)(T:nu P κ X U)(hw:Sh κ X w)(hR:tu U w w')(E:gp P κ X A w.heap.size fr)(hc:∀c∈cs,gp P κ X A w.heap.size c)(G:Eqv.A0 fr cs){s s':Sem Next}(hE:bU P U (dc U) s s')(I:EG P κ X w (aF A fr) dst s)(hd:∀o d,fr.oper?=some o->o.dst=some d->dst=some d):
  oT P κ X A U base w w' (stepG.apply P true fr cs none s w) (stepG.apply P true (i9 U fr) (cs.map (i9 U)++base) none s' w'):=by
 have S:=hE w w' #[] #[] hR yx.nil;have f1:=I.1;have f2:=I.2;have V:=E.H;have L:qY (i9 U fr).todo:=V.e;have M:=Mc E;have W:((i9 U fr).kind==CallKind.early)=false:=M;have Y:=T.j;have Z:=pq P s w #[];unfold stepG.apply;extract_lets a1 a2 a3 a4 a5 a6 a7 a8;have k1:a2=.normal:=by
  simp only[a2];split;rename_i q;rw[q]at V;exact V.elim;rfl
 have k2:a7=.normal:=by
  simp only[a7];split;rename_i q;rw[q]at L;exact L.elim;rfl
 clear_value a2 a7;subst k1 k2;simp only[dG,M,W,dZ,nX];generalize s.runT P w #[]=y at *;generalize s'.runT P w' #[]=y' at *;let ⟨r,es⟩:=y
 let ⟨r',es'⟩:=y'
 cases r with
 |ok x w1=>
  let ⟨i,k⟩:=f1 x w1 es rfl
  have B:C5 U w w' w1->∃g,r'=.ok (dc U x) g/\yx U es es'/\ko U w w' w1 g:=λn=>by
   rcases S n with⟨N,_⟩|⟨g,ad,q,t,z⟩
   rw[Y]at N;cases N;cases q;exact⟨g,rfl,t,z⟩
  cases x with
  |value v=>
   refine iP (g1:=⟨fr.finish v,cs,.running,none,none⟩) i (qu.mk' i.h (jV (E.e i.h) λo d O Q=>k d (hd o d O Q)) hc (G.e (jf fr v).symm)) λn=>?_;obtain⟨g,rfl,t,z⟩:=B n;exact⟨g,es',by simp only[dc,jg];rfl,t,z⟩
  |skip=>
   refine iP (g1:=⟨fr.finish undef,cs,.running,none,none⟩) i (qu.mk' i.h (jV (E.e i.h) λo d O Q=>.inl lh) hc (G.e (jf fr undef).symm)) λn=>?_;obtain⟨g,rfl,t,z⟩:=B n;exact⟨g,es',by rw[<-yc (U:=U)];simp only[dc,jg];rfl,t,z⟩
  |enter f J=>
   replace k:κ.b f=true/\gA κ w1.heap.size J:=k;refine iP (g1:=⟨Frame.enter P f J .normal,fr::cs,.running,none,none⟩) i (qu.mk' i.h (oa R k.1 k.2 (.inl rfl)) (λc h=>by rcases bG.1 h with rfl|h;exact E;exact hc c h) G) λn=>?_;obtain⟨g,rfl,t,z⟩:=B n;exact⟨g,es',by simp only[dc,kA (show U.yy f=true by rw[T.h.1];exact k.1),yJ];rfl,t,z⟩
  |round l f K a b=>
   replace k:fU κ w1.heap.size l/\κ.b f=true/\gA κ w1.heap.size K/\κ.e a=true/\κ.e b=true:=k;refine iP (g1:=⟨Frame.round l f K a b .normal,fr::cs,.running,none,none⟩) i (qu.mk' i.h (B5 R k.2.1 k.2.2.1 k.1 k.2.2.2.1 k.2.2.2.2 (.inl rfl)) (λc h=>by rcases bG.1 h with rfl|h;exact E;exact hc c h) G) λn=>?_;obtain⟨g,rfl,t,z⟩:=B n;have ca:pC U a=a:=by simp only[pC,T.h.2.2,k.2.2.2.1,dG]
   have cb:pC U b=b:=by simp only[pC,T.h.2.2,k.2.2.2.2,dG]
   exact⟨g,es',by simp only[dc,kA (show U.yy f=true by rw[T.h.1];exact k.2.1),ca,cb,zy];rfl,t,z⟩
  |defer d=>
   replace k:uC κ w1.heap.size d:=k;have C:=E.e i.h;have aS:gp P κ X A w1.heap.size {fr with defers:=d::fr.defers}:=⟨C.u,C.j,C.p,λd' h=>by rcases bG.1 h with rfl|h;exact k;exact C.b d' h,C.s,C.o,C.h⟩;refine iP (g1:=⟨Frame.finish {fr with defers:=d::fr.defers} undef,cs,.running,none,none⟩) i (qu.mk' i.h (jV aS λo d O Q=>.inl lh) hc (Eqv.A0.e (show fr.kind=_ from(jf {fr with defers:=d::fr.defers} undef).symm) G)) λn=>?_;obtain⟨g,rfl,t,z⟩:=B n;refine⟨g,es',?_,t,z⟩;have:=jg (U:=U) {fr with defers:=d::fr.defers} undef;rw[yc]at this;simp only[dc,x9];rw[<-this];rfl
  |recover=>
   have D:=uM (U:=U) (base:=base) (E.e i.h) (λc h=>(hc c h).e i.h) G (uQ E);have F:(i9 U fr).roundOf=fr.roundOf.map U.f:=rfl;cases hro:fr.roundOf<;>(
    rw[hro]at F;simp only[R.Ky,dG];cases q:tryRecover fr cs with
    |none=>
     rw[q]at D;refine iP (g1:=⟨fr.finish .nilIface,cs,.running,none,none⟩) i (qu.mk' i.h (jV (E.e i.h) λo d O Q=>.inl UL) hc (G.e (jf fr _).symm)) λn=>?_;obtain⟨g,rfl,t,z⟩:=B n;refine⟨g,es',?_,t,z⟩;simp only[dc,F,R.Ky,dG,D,Option.map];rw[show (i9 U fr).finish .nilIface=i9 U (fr.finish .nilIface) from jg fr .nilIface];rfl
    |some y=>
     let ⟨v,a0⟩:=y
     rw[q]at D;let ⟨r1,r2,r3⟩:=xd hc G (uQ E) q
     refine iP (g1:=⟨fr.finish v,a0,.running,none,none⟩) i (qu.mk' i.h (jV (E.e i.h) λo d O Q=>.inl (gQ.e i.h r1)) r2 (r3.e (jf fr _).symm)) λn=>?_;obtain⟨g,rfl,t,z⟩:=B n;refine⟨g,es',?_,t,z⟩;simp only[dc,F,R.Ky,dG,D,Option.map];rw[jg fr v];rfl)
  |_=>exact k.elim
 |halt hh w1=>
  cases hh with
  |panic v=>
   let ⟨i,k⟩:=f2 v w1 es rfl
   refine iP (g1:=⟨fr.raise [{v,recovered:=false}],cs,.running,none,none⟩) i (qu.mk' i.h (rS (E.e i.h) λe t=>by rw[bA.1 t];exact k) hc (G.e (pm fr).symm)) λn=>?_;rcases S n with⟨N,_⟩|⟨g,ad,q,t,z⟩
   rw[Y]at N;cases N;cases q;refine⟨g,es',?_,t,z⟩;have:=po (U:=U) fr [{v,recovered:=false}];simp only[x9];rw[<-this];rfl
  |goexit=>
   refine⟨.inl ⟨rfl,rfl⟩,λ_ _=>⟨Z,λn=>?_⟩⟩;have:=(S n).1;rw[Y]at this;cases this
  |blocked=>
   refine tj.h (tj.e ?_);exact nv (.inl rfl) rfl
  |waiting=>
   refine tj.h (tj.e ?_);exact nv (.inr rfl) rfl
  |exit c=>
   refine tj.h (tj.e ?_);exact lF
  |fatal m=>
   refine tj.h (tj.e ?_);exact yL ..
  |throw m=>
   refine tj.h (tj.e ?_);exact tC rfl rfl rfl rfl
  |unsupported u=>
   refine tj.h (tj.e ?_);cases u<;>first|exact lF|exact Ie R
  |stuck m=>
   refine tj.h (tj.e ?_);exact lF
def Xm{c:Code}(h:U.TZ c=true):pC U c=c:=by simp only[pC,h,dG]
def Qu{o:Option Code}(h:∀c,o=some c->U1 c=true):o.map (pJ U)=o:=by
 cases o with
 |none=>rfl
 |some c=>simp only[Option.map,pJ,h c rfl,dG]
def yI(l:Nat)(j:Option Code)(h:∀c,j=some c->U1 c=true):bU P U (pV U) (Instr.endRound l j) (Instr.endRound (U.f l) j):=by
 unfold Instr.endRound;refine og l λr a=>?_;refine bU.e (bU.ac a rfl ?_) λ_=>bU.h rfl;simp only[dR,oz,Qu h]
include C in
def uy(l:Nat):bU P U id (Instr.beginRound l) (Instr.beginRound (U.f l)):=by
 unfold Instr.beginRound;refine og l λr a=>?_;refine bU.e (bU.ac a rfl rfl) λ_=>?_;simp only[oz];cases r.state<;>first|exact bU.h rfl|exact bW C _
def BC(l:Nat):bU P U (Option.map (pJ U)) (Instr.endLoop l) (Instr.endLoop (U.f l)):=by
 unfold Instr.endLoop;refine og l λr b=>?_;have a:bU P U (Option.map (pJ U)) (do setObj l (.loop {r with state:=.exhausted});pure r.pending) (do setObj (U.f l) (.loop {oz U r with state:=.exhausted});pure (oz U r).pending):=bU.e (pa:=id) (bU.ac b rfl rfl) λ_=>bU.h rfl;by_cases q:(r.state == .busy)=true;rw[aH q,aH (show ((oz U r).state == .busy)=true from q)];exact bU.ai _;rw[ay q,ay (show ¬((oz U r).state == .busy)=true from q)];exact a
def rh(b:Nat):bU P U (List.map (kQ U)) (Instr.takeDeferred b) (Instr.takeDeferred (U.f b)):=by
 unfold Instr.takeDeferred;refine bU.Z rfl (λo a=>?_) (λ_ _ _ _=>aB);cases o<;>first|exact(λ_ _ _ _ _ _=>aB)|skip
 rename_i cs;cases cs with
 |none=>exact bU.j
 |some c=>exact bU.e (bU.ac a rfl rfl) λ_=>bU.h rfl
def zl(U:Pm)(x:Nat×List Deferred):Nat×List Deferred:=(U.f x.1,x.2.map (kQ U))
def wW(fn:FuncId)(tmps:Array Dv)(params:Array Tmp)(a b:Code)(around:Option Nat)(hf:U.yy fn=true)(ha:U.TZ a=true)(hb:U.TZ b=true):
  bU P U (zl U) (Instr.enterLoop fn tmps params a b around) (Instr.enterLoop fn (dx U tmps) params a b (around.map U.f)):=by
 have key:∀(d:Nat) (m:List Deferred),bU P U (zl U) (do pure (<-newObj (.loop {state:=.ready,pending:=none,fn,tmps,params,assign:=a,body:=b,defers:=d}),m)) (do pure (<-newObj (.loop {state:=.ready,pending:=none,fn,tmps:=dx U tmps,params,assign:=a,body:=b,defers:=U.f d}),m.map (kQ U))):=λd m=>
  bU.e (bU.ab (by simp only[dR,oz,kA hf,Xm ha,Xm hb];rfl)) λr=>bU.h rfl
 unfold Instr.enterLoop;cases around with
 |some l=>exact og l λr hX=>key r.defers []
 |none=>exact bU.e (bU.ab rfl) λr=>key r [{target:=.collected r,args:=#[]}]
include C in
def yV(E:qK P U){t:Target}(args:Array Dv)(h:∀fn c,t=.fn fn c->My U fn=true)(a:∀b x y z,t≠.builtin b x y z)(d:∀c,t≠.coroexit c):bU P U (dc U) (invoke t args) (invoke (gO U t) (dx U args)):=by
 cases t with
 |fn fn c=>exact tF C E fn c args (h fn c rfl)
 |nil=>
  show bU P U (dc U) (runtimePanic .nilDeref) (runtimePanic .nilDeref);exact bW C _
 |builtin b x y z=>exact absurd rfl (a b x y z)
 |coroexit c=>exact absurd rfl (d c)
 |collected r=>exact(λ_ _ _ _ _ _=>aB)
def X4(P:Program)(κ:iW)(X:Nat->Bool)(A:Nat->Option Nat)(U:Pm)(base:List Frame)(n:Nat)(k:World->GStep)(a:World->GStep):Prop:=
 (∀w,tj (k w))\/∃g1,qu P κ X A n g1/\(∀w,k w=.go g1 w #[])/\∀w',a w'=.go (x9 U base g1) w' #[]
def Mb(l:List PanicEntry):(l.map (xN U)).dropWhile (!·.goexit)=(l.dropWhile (!·.goexit)).map (xN U):=by
 induction l with
 |nil=>rfl
 |cons e l a=>
  let ⟨v,r,g⟩:=e
  cases g with
  |false=>simpa[List.dropWhile,xN] using a
  |true=>simp[List.dropWhile,xN]
def xe(R:jE P κ X A)(E:gp P κ X A n fr)(hc:∀c∈cs,gp P κ X A n c)(t:Eqv.A0 fr cs){v:Dv}(F:gQ κ n v):
  X4 P κ X A U base n (doReturn P true fr cs none v) (doReturn P mb (i9 U fr) (cs.map (i9 U)++base) none (pV U v)):=by
 cases cs with
 |nil=>
  refine .inl λw=>?_;unfold doReturn;simp only;have f:fr.kind=.normal:=t;rw[f];simp only[nL,dZ,nX,R.aab fr.fn E.u];trivial
 |cons c cs=>
  have d:=hc c aY;have x:∀c∈cs,gp P κ X A n c:=λc h=>hc c (by simp[h]);replace t:Eqv.A0 c cs:=t;rcases E.o with f|f
  refine .inr ⟨⟨c.finish v,cs,.running,none,none⟩,qu.mk' (aj _) (jV d λ_ _ _ _=>.inl F) x (t.e (jf c v).symm),λw=>?_,λw'=>?_⟩;unfold doReturn;simp only[f];unfold doReturn;simp only[List.map,dh,show (i9 U fr).kind=.normal from f,jg];rfl;have fin:∀m:FrameMode,UJ κ n m->qu P κ X A n ⟨{c with mode:=m},cs,.running,none,none⟩:=λm k=>
   qu.mk' (aj _) ⟨d.u,d.j,d.p,d.b,k,d.o,d.h⟩ x (Eqv.A0.e (a:=c) (b:={c with mode:=m}) rfl t)
  obtain⟨G,z,B,y,i,C,H⟩:=c;have k:=d.s;unfold doReturn;simp only[f,List.map,dh,show (i9 U fr).kind=.deferred from f];cases i with
  |panicking ch=>
   cases ch with
   |nil=>exact .inr ⟨_,fin _ k,λw=>rfl,λw'=>rfl⟩
   |cons e ch=>
    obtain⟨u,r,g⟩:=e;cases r with
    |false=>exact .inr ⟨_,fin _ k,λw=>rfl,λw'=>rfl⟩
    |true=>
     have l:=Mb (U:=U) ch;cases q:ch.dropWhile (!·.goexit) with
     |nil=>
      rw[q]at l;refine .inr ⟨_,fin .returning aB,λw=>?_,λw'=>?_⟩;simp only[q];simp only[i9,jZ,List.map,xN];simp only[List.map]at l;rw[l];rfl
     |cons I D=>
      rw[q]at l;refine .inr ⟨_,fin (.panicking (I::D)) (λe J=>k e (cJ _ ((List.dropWhile_sublist _).subset (q▸J)))),λw=>?_,λw'=>?_⟩;simp only[q];simp only[i9,jZ,List.map,xN];simp only[List.map]at l;rw[l];rfl
  |_=>exact .inr ⟨_,fin _ k,λw=>rfl,λw'=>rfl⟩
def uN{pa:Pm->α->α}{s':Sem α}(T:nu P κ X U)(B:Sh κ X w)(G:tu U w w')(H:bU P U (pa U) s s')(C:∀ρ,tn κ X w.heap.size ρ->bU P ρ (pa ρ) s s){g:Result α}(c:s.runT P w #[]=(r,es))(k:s'.runT P w' #[]=(g,es'))(I:∀a w1,r=.ok a w1->w.heap.size<=w1.heap.size->Sh κ X w1->(∃ρ σ,kq κ w1.heap.size ρ σ/\pa ρ a=pa σ a)->tj x\/∃g1,qu P κ X A w1.heap.size g1/\x=.go g1 w1 #[]/\∀b,g=.ok (pa U a) b->x'=.go (x9 U base g1) b #[])(J:∀v w1,r=.halt (.panic v) w1->w.heap.size<=w1.heap.size->gQ κ w1.heap.size v->tj x\/∃g1,qu P κ X A w1.heap.size g1/\x=.go g1 w1 #[]/\∀b,g=.halt (.panic (pV U v)) b->x'=.go (x9 U base g1) b #[])(K:∀h w1,(∀v,h≠.panic v)->r=.halt h w1->tj x):
  oT P κ X A U base w w' (GStep.after (seen P fn es) x) (GStep.after (seen P fn es') x'):=by
 have m:=H w w' #[] #[] G yx.nil;have D:=T.j;rw[c,k]at m;cases r with
 |ok a w1=>
  let ⟨l,ρ,σ,n,q⟩:=pk B C c
  have d:=l.e (iX c) (gZ c);rcases I a w1 rfl d.h d.i ⟨ρ,σ,n,q⟩ with h|⟨g1,o,rfl,p⟩
  exact tj.h (tj.e h);refine iP d o λt=>?_;rcases m t with⟨f,_⟩|⟨b,u,q,y,z⟩
  rw[D]at f;cases f;cases q;exact⟨b,es',by rw[p b rfl],y,z⟩
 |halt E w1=>
  by_cases F:∃v,E=.panic v;obtain⟨v,rfl⟩:=F;let ⟨l,L⟩:=mS B C c
  have d:=l.e (iX c) (gZ c);rcases J v w1 rfl d.h L with h|⟨g1,o,rfl,p⟩
  exact tj.h (tj.e h);refine iP d o λt=>?_;rcases m t with⟨f,_⟩|⟨b,u,q,y,z⟩
  rw[D]at f;cases f;cases q;exact⟨b,es',by rw[p b rfl],y,z⟩;exact tj.h (tj.e (K E w1 (λv q=>F ⟨v,q⟩) rfl))
def QT(h:gp P κ X A n fr)(a:∀i∈k,Ih P κ X n (aF A fr) i):gp P κ X A n {fr with todo:=k}:=⟨h.u,h.j,a,h.b,h.s,h.o,h.h⟩
def Ul(h:gp P κ X A n fr)(a:aF A fr=none):gA κ n fr.tmps:=jq.2 λv b=>by
 obtain⟨i,c,rfl⟩:=wR.1 b;rcases h.j i _ (aW c) with q|⟨q,_⟩
 exact q;rw[a]at q;cases q
def DO(b:Array Oper)(a:Array Dv)(j:Nat):yielded b (dx U a) j=yielded b a j:=by
 unfold yielded;cases q:(b[j]?).bind (·.dst) with
 |none=>rfl
 |some d=>
  simp only[H0,kx];cases a[d]? with
  |none=>rfl
  |some v=>cases v<;>rfl
def Fx(b:Array Oper)(a:Array Dv)(i:Nat):((b[i]?).map (Region.wanted · (yielded b (dx U a)))).getD false=((b[i]?).map (Region.wanted · (yielded b a))).getD false:=by
 rw[show yielded b (dx U a)=yielded b a from funext λj=>DO b a j]
def oW(R:jE P κ X A)(T:nu P κ X U)(p:Sh κ X w)(s:tu U w w')(t:gp P κ X A w.heap.size fr)(hc:∀c∈cs,gp P κ X A w.heap.size c)(u:Eqv.A0 fr cs){l:Nat}(y:fU κ w.heap.size l){j:Option Code}(i:∀c,j=some c->U1 c=true){r k:Result Dv}(z:(Instr.endRound l j).runT P w #[]=(r,es))(b:(Instr.endRound (U.f l) j).runT P w' #[]=(k,es'))(m:∀v w1,r=.ok v w1->x=doReturn P true fr cs none v w1)(d:∀v w1,k=.ok v w1->x'=doReturn P mb (i9 U fr) (cs.map (i9 U)++base) none v w1)(n:∀h w1,r=.halt h w1->tj x):
  oT P κ X A U base w w' (GStep.after (seen P fn es) x) (GStep.after (seen P fn es') x'):=by
 refine uN T p s (yI l j i) (λρ B=>?_) z b (λv w1 e o _ C=>?_) (λv w1 e _ _=>.inl (n _ w1 e)) (λh w1 _ e=>n h w1 e);have:=yI (P:=P) (U:=ρ) l j i;rw[B.e l y]at this;exact this;obtain⟨ρ,σ,g,q⟩:=C;rcases xe (U:=U) (base:=base) R (t.e o) (λc h=>(hc c h).e o) u (xk g v q) with h|⟨g1,D,k1,E⟩
 exact .inl (by rw[m v w1 e];exact h w1);exact .inr ⟨g1,D,by rw[m v w1 e];exact k1 w1,λa F=>by rw[d _ a F];exact E a⟩
def qV(c:Sh κ X w){a:Option Nat}{s:Sem Next}(h:∀ρ,tn κ X w.heap.size ρ->bU P ρ (dc ρ) s s):EG P κ X w a dst s:=by
 constructor;intro x w1 es run;let ⟨l,U,ρ,b,q⟩:=pk c h run
 exact⟨l.e (iX run) (gZ run),(Qo b q).v⟩;intro v w1 es run;let ⟨l,q⟩:=mS c h run
 exact⟨l.e (iX run) (gZ run),q⟩
def Iq(f:Dv)(args:Array Dv):(∃m,Deferred.ofValue f args=stuck m)\/(f=.nilFunc/\∃d,Deferred.ofValue f args=pure d/\d.target=.nil)\/∃fn a b d c,f=.func fn a b/\Deferred.ofValue f args=pure d/\d.target=.fn fn c:=by
 cases f<;>first|exact .inl ⟨_,rfl⟩|exact .inr (.inl ⟨rfl,_,rfl,rfl⟩)|exact .inr (.inr ⟨_,_,_,_,_,rfl,rfl,rfl⟩)
def Yc(C:fD P U)(E:qK P U){f:Dv}{args:Array Dv}(h:∀fn a b,f=.func fn a b->My U fn=true):
  bU P U (dc U) (Deferred.ofValue f args >>= λd=>invoke d.target d.args) (Deferred.ofValue (pV U f) (dx U args) >>= λd=>invoke d.target d.args):=by
 rcases Iq f args with⟨m,q⟩|⟨rfl,d,q,i⟩|⟨fn,a,b,d,c,rfl,q,i⟩
 rw[q];exact bU.ae;exact bU.ap (Q:=λd=>d.target=.nil) (vV _ _) (by rw[q];exact uv.j i) λd g=>yV C E _ (λfn c e=>by rw[g]at e;cases e) (λ_ _ _ _ e=>by rw[g]at e;cases e) (λ_ e=>by rw[g]at e;cases e);exact bU.ap (Q:=λd=>∃c,d.target=.fn fn c) (vV _ _) (by rw[q];exact uv.j ⟨c,i⟩) λd ⟨c,g⟩=>yV C E _ (λk l e=>by rw[g]at e;cases e;exact h fn a b rfl) (λ_ _ _ _ e=>by rw[g]at e;cases e) (λ_ e=>by rw[g]at e;cases e)
end Go.Eqv
