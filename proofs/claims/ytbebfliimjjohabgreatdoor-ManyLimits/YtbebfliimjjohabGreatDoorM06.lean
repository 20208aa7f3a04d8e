/- Parts of the proof. -/
import Derived.Test.YtbebfliimjjohabGreatDoorM05
set_option maxRecDepth 100000
set_option maxHeartbeats 8000000
set_option linter.all false
namespace Go.Eqv
variable{a:Addr}{es es':Array Event}{mb:Bool}{fr:Frame}{fn:FuncId}{x x':GStep}{g g1:Bm}{base cs:List Frame}{k:List Item}{n m:Nat}{X:Nat->Bool}{A:Nat->Option Nat}{o:Oper}{dst:Option Nat}{U ρ:Pm}{P:Bo}{α:Type}{t:Bi}{w w1 w':A1}{κ:ju}(C:gi P U){s:Sem α}{r:Result α}
def ad7(κ:ju)(n:Nat)(e:Event):Prop:=N8 κ n e\/∃a,e.loc=.cell a/\e.write=false/\κ.G a.block=true
structure oJ(κ:ju)(X:Nat->Bool)(w w1:World)(es:Array Event):Prop where
 i:Sh κ X w1
 h:w.heap.size<=w1.heap.size
 j:w.drawn<=w1.drawn
 g:∀b,κ.G b=true->w1.heap[b]?=w.heap[b]?
 o:∀e∈es,CS X e=true->ad7 κ w1.heap.size e
def Wo(κ:ju)(n:Nat):Next->Prop
 |.value v=>ix κ n v
 |.enter f c=>κ.b f=true/\gX κ n c
 |.round l f g a b=>gC κ n l/\κ.b f=true/\gX κ n g/\κ.e a=true/\κ.e b=true
 |.defer d=>vI κ n d
 |.skip=>True
 |.recover=>True
 |_=>False
def VX.e(h:VX κ X w w1 es)(hs:w.heap.size<=w1.heap.size)(hd:w.drawn<=w1.drawn):oJ κ X w w1 es:=⟨h.i,hs,hd,h.g,λe a b=>.inl (h.h e a b)⟩
def oJ.refl(h:Sh κ X w):oJ κ X w w #[]:=⟨h,aa _,aa _,λ_ _=>rfl,λe a=>absurd a (by simp)⟩
def Sf(h:lm κ n U ρ){a:Next}(e:cV U a=cV ρ a):Wo κ n a:=by
 cases a with
 |value v=>exact ye h v (Next.value.inj e)
 |enter f c=>
  simp only[cV,Next.enter.injEq]at e;exact⟨zQ (fn:=.func f) h (by simp only[oZ];rw[e.1]),mY h _ e.2⟩
 |round l f g a b=>
  simp only[cV,Next.round.injEq]at e;exact⟨lu h e.1,zQ (fn:=.func f) h (by simp only[oZ];rw[e.2.1]),mY h _ e.2.2.1,Mn h e.2.2.2.1,Mn h e.2.2.2.2⟩
 |defer d=>exact Gj h (Next.defer.inj e)
 |skip=>trivial
 |recover=>trivial
 |_=>exact(λq=>h.2.2.1 (Next.sleep.inj q)) e
def uq.h(R:j8 P κ X A)(d:Sh κ X w)(h:uq κ X w.heap.size U):gi P U/\rL P U:=by
 have c:=d.e _ R.Ry;have C:gi P U:=R.Rv U h.i (h.e _ c) (λf b a=>by rw[h.j f b (Nat.lt_trans a c.1)];exact a) (λb a=>by
  have:=h.o b (Nat.lt_trans a c.1);rw[this]at a;exact a)
 exact⟨C,R.ext U h.i (λb a _=>h.e b (d.e b a)) C⟩
def oK.e(R:j8 P κ X A)(h:oK P κ X U):gi P U/\rL P U:=by
 have C:gi P U:=R.Rv U h.h (h.i _ (aa _)) (λ_ b a=>by rw[h.i b (wS a)];exact a) (λb a=>by
  have:=U.Gc (h.i _ (wS a));rw[this]at a;exact a)
 exact⟨C,R.ext U h.h (λb _ a=>h.i b (wS a)) C⟩
def CH(a:Of κ U){fn:Fn}(h:rQ κ n fn):Ou U fn=true:=by
 cases fn with
 |func f=>show U.zx f=true;rw[a.1];exact h
 |via t p f b=>show U.zx f=true;rw[a.1];exact h
 |method m=>show U.xT m=true;rw[a.2.1];exact h
 |methodOf t m=>show U.xT m=true;rw[a.2.1];exact h
 |yield l=>rfl
def MD(R:j8 P κ X A)(k:Sh κ X w){e:Operand->Bg}(l:JO P κ o.op=true)(d:∀x∈o.op.operands,ix κ w.heap.size (e x))(h:uq κ X w.heap.size U):bZ P U (cV U) (execOp e o) (execOp e o):=by
 obtain⟨C,E⟩:=h.h R k;refine Gl C E o e e (Mz h.i l) (λx m=>(su ⟨h.i,h.e⟩ _ (d x m)).symm) (λc f fn a b g j n=>?_) (λx fn a b g j=>?_);have:=d f (by rw[g];simp[Op.operands,Call.operands,j]);rw[n]at this;exact CH h.i this.1;have:=d x (by rw[g];simp[Op.operands]);rw[j]at this;exact CH h.i this.1
def jy(h:s.runT P w #[]=(r,es)):w.heap.size<=(WS r).heap.size:=by
 have:=nK P s w #[];rw[h]at this;exact this
def iH(h:s.runT P w #[]=(r,es)):w.drawn<=(WS r).drawn:=by
 have:=qF P s w #[];rw[h]at this;exact this
def JP(R:j8 P κ X A)(b:Sh κ X w){e:Operand->Bg}(d:JO P κ o.op=true)(f:∀x∈o.op.operands,ix κ w.heap.size (e x)):
  (∀a w1 es,(execOp e o).runT P w #[]=(.ok a w1,es)->oJ κ X w w1 es/\Wo κ w1.heap.size a)/\(∀v w1 es,(execOp e o).runT P w #[]=(.halt (.panic v) w1,es)->oJ κ X w w1 es/\ix κ w1.heap.size v):=by
 constructor;intro a w1 es run;let ⟨l,U,ρ,c,q⟩:=qC (pa:=λU=>cV U) b (λU h=>MD R b d f h) run
 exact⟨l.e (jy run) (iH run),Sf c q⟩;intro v w1 es run;let ⟨l,q⟩:=nU (pa:=λU=>cV U) b (λU h=>MD R b d f h) run
 exact⟨l.e (jy run) (iH run),q⟩
def aag(b:Sh κ X w)(d:κ.G a.block=true):(∃v,(Go.load a).runT P w #[]=(.ok v w,#[⟨.cell a,false,false⟩])/\ix κ w.heap.size v)\/ry ((Go.load a).runT P w #[]):=by
 let ⟨c,t,z,hc⟩:=b.g _ d
 show (∃v,(Sem.load .plain a .pure).runT P w #[]=_/\_)\/ry ((Sem.load .plain a .pure).runT P w #[]);simp only[Sem.runT];cases q:w.cell? a with
 |some v=>
  refine .inl ⟨v,rfl,?_⟩;unfold World.cell? at q;rw[hc]at q;simp only at q;split at q;cases q;have e:X a.block=false:=by
   cases qx:X a.block with
   |false=>rfl
   |true=>rw[(b.x _ qx).1]at d;cases d
  exact jT.1 (b.h _ _ e hc) v (dU q)
 |none=>
  obtain⟨x,f,h⟩:=Ms (P:=P) (m:=Mode.plain==Mode.atomic) (λu t q=>by rw[hc]at q;cases q);rw[f];rcases h with⟨u,rfl⟩|⟨u,rfl⟩
  exact .inr aE;exact .inr aE
def Og(h:one P t=true):(isAgg t).runT P w es=(.ok false w,es):=by
 unfold one at h;unfold isAgg underlying;show ((Sem.program λp=>match p.underlying t with|some d=>pure d|none=>_).bind _).runT P w es=_;simp only[Sem.bind,Sem.runT];cases q:P.underlying t with
 |none=>rw[q]at h;cases h
 |some d=>
  rw[q]at h;cases d<;>first|rfl|cases h
def YW(κ:ju)(n:Nat)(a dst:Option Nat):Next->Prop
 |.value v=>∀d,dst=some d->zO κ n a d v
 |x=>Wo κ n x
def Wo.v{a:Option Nat}{x:Next}(h:Wo κ n x):YW κ n a dst x:=by
 cases x<;>first|exact h|exactλ_ _=>.inl h
def R7(j:Sh κ X w)(k:one P t=true)(l:κ.G a.block=true){e:Operand->Bg}{x:Operand}(f:o.op=.load t x)(m:e x=.pointer (some a)):
  (∃v,(execOp e o).runT P w #[]=(.ok (.value v) w,#[⟨.cell a,false,false⟩])/\ix κ w.heap.size v)\/ry ((execOp e o).runT P w #[]):=by
 let ⟨dst,s,g,i,c,d⟩:=o
 dsimp only at f;subst f;have:execOp e ⟨dst,.load t x,g,i,c,d⟩=(((isAgg t).bind λb=>if b=true then (do pure (.agg (<-loadCells a (<-sizeOf t)))) else Go.load a).bind λv=>pure (.value v)):=by
  unfold execOp;dsimp only;rw[m];rfl
 rw[this,fU,fU,Og k];simp;rcases aag (P:=P) j l with⟨v,n,p⟩|h
 rw[n];exact .inl ⟨v,rfl,p⟩;refine .inr ?_;revert h;generalize (Go.load a).runT P w #[]=y;let ⟨r,es⟩:=y
 intro h;cases r with
 |ok a w=>exact h.elim
 |halt q w=>cases q<;>first|exact h.elim|trivial
def oJ.read(h:Sh κ X w)(b:κ.G a.block=true):oJ κ X w w #[⟨.cell a,false,false⟩]:=⟨h,aa _,aa _,λ_ _=>rfl,λe c _=>by
 have:e=⟨.cell a,false,false⟩:=by simpa using c
 subst this;exact .inr ⟨a,rfl,rfl,b⟩⟩
def AS(t:Bi):(∃d,P.underlying t=some d/\∀w es,(underlying t).runT P w es=(.ok d w,es))\/∀w es,ry ((underlying t).runT P w es):=by
 cases q:P.underlying t with
 |none=>
  refine .inr λw es=>?_;unfold underlying;show ry ((Sem.program λp=>match p.underlying t with|some d=>pure d|none=>_).runT P w es);simp only[Sem.runT,q];trivial
 |some d=>
  refine .inl ⟨d,rfl,λw es=>?_⟩;unfold underlying;show ((Sem.program λp=>match p.underlying t with|some d=>pure d|none=>_).runT P w es)=_;simp only[Sem.runT,q];rfl
def vO{β:Type}{f:α->Sem β}(h:ry (s.runT P w es)):ry ((s.bind f).runT P w es):=by
 rw[fU];revert h;generalize s.runT P w es=y;let ⟨r,es⟩:=y
 intro h;cases r with
 |ok a w=>exact h.elim
 |halt b w=>cases b<;>first|exact h.elim|trivial
def JY(t:Bi):(∃d,∀w es,(Go.sizeOf t).runT P w es=(.ok d w,es))\/∀w es,ry ((Go.sizeOf t).runT P w es):=by
 unfold Go.sizeOf typeInfo;cases q:P.info? t with
 |none=>
  refine .inr λw es=>?_;apply vO;show ry ((Sem.program λp=>match p.info? t with|some i=>pure i|none=>_).runT P w es);simp only[Sem.runT,q];trivial
 |some d=>
  refine .inl ⟨d.size,λw es=>?_⟩;show (((Sem.program λp=>match p.info? t with|some i=>pure i|none=>_).bind _).runT P w es)=_;rw[fU];simp only[Sem.runT,q];rfl
def Wv(t:Bi)(a:Addr)(e:Bg)(w:A1):(∃k,(Instr.indexAt t (.pointer (some a)) e).runT P w #[]=(.ok (.pointer (some (a.add k))) w,#[]))\/ry ((Instr.indexAt t (.pointer (some a)) e).runT P w #[])\/∃k i l c,(Instr.indexAt t (.pointer (some a)) e).runT P w #[]=(boundsPanic k i l c:Sem Bg).runT P w #[]:=by
 unfold Instr.indexAt;cases e with
 |int k i=>
  rcases AS (P:=P) t with⟨d,hd,h⟩|h
  .show (∃k,((underlying t).bind _).runT P w #[]=_)\/ry (((underlying t).bind _).runT P w #[])\/∃k i l c,((underlying t).bind _).runT P w #[]=_;rw[fU,h];cases d<;>first|exact .inr (.inl aE)|skip
   rename_i g f;show (∃k,((underlying t).bind _).runT P w #[]=_)\/ry (((underlying t).bind _).runT P w #[])\/∃k i l c,((underlying t).bind _).runT P w #[]=_;rw[fU,h];dsimp only;by_cases q:0<=i/\i<(g:Int);rw[az q];rcases JY (P:=P) f with⟨z,j⟩|j
   refine .inl ⟨i.toNat*z,?_⟩;show ((Go.sizeOf f).bind _).runT P w #[]=_;rw[fU,j];rfl;exact .inr (.inl (vO (j w #[])));rw[ax q];split;exact .inr (.inl aE);exact .inr (.inr ⟨_,_,_,_,rfl⟩)
  exact .inr (.inl (show ry (((underlying t).bind _).runT P w #[]) from vO (h w #[])))
 |pointer b=>cases b<;>exact .inr (.inl aE)
 |_=>exact .inr (.inl aE)
def Gb(P:Program)(κ:ju)(X:Nat->Bool)(w:World)(a dst:Option Nat)(s:Sem Next):Prop:=
 (∀x w1 es,s.runT P w #[]=(.ok x w1,es)->oJ κ X w w1 es/\YW κ w1.heap.size a dst x)/\∀v w1 es,s.runT P w #[]=(.halt (.panic v) w1,es)->oJ κ X w w1 es/\ix κ w1.heap.size v
def aar(R:j8 P κ X A)(r:Sh κ X w)(Q:gN P κ X A w.heap.size fr)(F:qB P κ X (aF A fr) o=true):Gb P κ X w (aF A fr) o.dst (execOp fr.eval o):=by
 have z:JO P κ o.op=true->(∀x∈o.op.operands,ix κ w.heap.size (fr.eval x))->Gb P κ X w (aF A fr) o.dst (execOp fr.eval o):=λu B=>
  ⟨λx w1 es run=>⟨((JP R r u B).1 x w1 es run).1,((JP R r u B).1 x w1 es run).2.v⟩,(JP R r u B).2⟩
 have S:∀t x a,o.op=.load t x->one P t=true->fr.eval x=.pointer (some a)->κ.G a.block=true->Gb P κ X w (aF A fr) o.dst (execOp fr.eval o):=by
  intro t x a b W L D;rcases R7 (P:=P) r W D b L with⟨v,u,B⟩|h
  constructor;intro y w1 es run;rw[u]at run;cases run;exact⟨oJ.read r D,λd _=>.inl B⟩;intro y w1 es run;rw[u]at run;cases run;constructor;intro y w1 es run;rw[run]at h;exact h.elim;intro y w1 es run;rw[run]at h;exact h.elim
 unfold qB at F;rw[bh,mw,bh]at F;replace F:=F.2;rcases F with m|⟨u,B⟩
 .have H:=AM m;unfold qI at m;split at m;rename_i t g b;rw[bh]at m;exact S t _ (aA g 0) b m.2 rfl m.1;rename_i t x b;rw[bh]at m;have s:fr.eval (.tmp x)=fr.tmps.getD x undef:=rfl;rw[bL]at s;cases q:fr.tmps[x]? with
  |none=>
   refine z H λy I=>?_;rw[b]at I;have:y=.tmp x:=by simpa[Op.operands] using I
   subst this;rw[s,q];exact lW
  |some v=>
   rcases Q.j x v q with h|⟨_,p,rfl,D⟩
   refine z H λy I=>?_;rw[b]at I;have:y=.tmp x:=by simpa[Op.operands] using I
   subst this;rw[s,q];exact h;exact S t _ p b m.2 (by rw[s,q];rfl) D
  .rename_i t g i b;rw[bh,bh]at m;let ⟨⟨D,hi⟩,hd⟩:=m
   have J:∀d,o.dst=some d->aF A fr=some d:=λd q=>by
    rw[q]at hd;simpa using hd
   have n:execOp fr.eval o=(Instr.indexAt t (.pointer (some (aA g 0))) (fr.eval i)).bind λv=>pure (.value v):=by
    let ⟨dst,op,T,Y,M,N⟩:=o
    dsimp only at b;subst b;rfl
   rcases Wv (P:=P) t (aA g 0) (fr.eval i) w with⟨k,h⟩|h|⟨k,x,l,c,h⟩
   .have K:(execOp fr.eval o).runT P w #[]=(.ok (.value (.pointer (some (Addr.add (aA g 0) k)))) w,#[]):=by rw[n,fU,h];rfl
    constructor
    .intro y w1 es run;rw[K]at run;cases run;exact⟨oJ.refl r,λd q=>.inr ⟨J d q,_,rfl,by rw[show (Addr.add (aA g 0) k).block=g from by unfold Addr.add;repeat' split<;>rfl];exact D⟩⟩
    intro y w1 es run;rw[K]at run;cases run
   have:=vO (f:=λv=>pure (Next.value v)) h;rw[<-n]at this;constructor;intro y w1 es run;rw[run]at this;exact this.elim;intro y w1 es run;rw[run]at this;exact this.elim;have K:(execOp fr.eval o).runT P w #[]=((boundsPanic k x l c:Sem Bg).bind λv=>pure (.value v)).runT P w #[]:=by rw[n,fU,fU,h]
   have V:∀U,uq κ X w.heap.size U->bZ P U (cV U) ((boundsPanic k x l c:Sem Bg).bind λv=>pure (.value v)) ((boundsPanic k x l c:Sem Bg).bind λv=>pure (.value v)):=λU Z=>by
    let ⟨C,E⟩:=Z.h R r
    exact bZ.e (pa:=pV U) (jA C k x l c) λv=>bZ.h rfl
   constructor;intro y w1 es run;rw[K]at run;let ⟨l,U,ρ,O,q⟩:=qC r V run
   exact⟨l.e (jy run) (iH run),(Sf O q).v⟩;intro y w1 es run;rw[K]at run;let ⟨l,q⟩:=nU r V run
   exact⟨l.e (jy run) (iH run),q⟩
  cases m
 refine z u λx L=>?_;exact vG R r Q (i9.1 B x L)
def WM(R:j8 P κ X A)(T:oK P κ X U)(r:gN P κ X A w.heap.size fr)(s:Sh κ X w)(k:qB P κ X (aF A fr) o=true):bZ P U (cV U) (execOp fr.eval o) (execOp (iW U fr).eval o):=by
 obtain⟨C,E⟩:=T.e R;have u:∀x,Ov P κ X (aF A fr) x=true->okY P κ x:=λx h=>by
  cases x with
  |tmp t=>trivial
  |const v=>exact h
  |global g=>simp only[Ov,bh,fv]at h;exact h.2
  |func f=>exact h
 unfold qB at k;rw[bh,mw,bh]at k;replace k:=k.2;have p:JO P κ o.op=true:=by
  rcases k with h|h
  exact AM h;exact h.1
 refine Gl C E o _ _ (Mz T.h p) (λx l=>wY T ?_) (λc f fn a b m q z=>?_) (λx fn a b m q=>?_);rcases k with d|⟨_,n⟩
 unfold qI at d;split at d;rename_i t g j;rw[bh]at d;rw[j]at l;have:x=.global g:=by simpa[Op.operands] using l
 subst this;exact R.g g d.1;rename_i t y j;rw[j]at l;have:x=.tmp y:=by simpa[Op.operands] using l
 subst this;trivial;rename_i t g i j;rw[bh,bh]at d;rw[j]at l;have:x=.global g\/x=i:=by simpa[Op.operands] using l
 rcases this with rfl|rfl
 exact R.g g d.1.1;exact u _ d.1.2;cases d;exact u x (i9.1 n x l);rcases k with d|⟨_,n⟩
 unfold qI at d;rw[m]at d;cases d;have:=vG R s r (i9.1 n f (by rw[m];simp[Op.operands,Call.operands,q]));rw[z]at this;exact CH T.h this.1;rcases k with d|⟨_,n⟩
 unfold qI at d;rw[m]at d;cases d;have:=vG R s r (i9.1 n x (by rw[m];simp[Op.operands]));rw[q]at this;exact CH T.h this.1
def lz(P:Program):Bool->List Event->List Event
 |_,[]=>[]
 |q,e::l=>match e.loc with
  |.mark (.extern f)=>lz P ((P.funcs[f]?).any (·.norace)) l
  |_=>if q&&!e.sync then lz P q l else e::lz P q l
def CI{F:Bool×Array Event->Event->Bool×Array Event}(g:∀q c f a b,F (q,c) ⟨.mark (.extern f),a,b⟩=((P.funcs[f]?).any (·.norace),c))(i:∀q c e,(∀f,e.loc≠.mark (.extern f))->F (q,c) e=(q,if (q&&!e.sync)=true then c else c.push e)):∀(l:List Event) (q:Bool) (c:Array Event),(l.foldl F (q,c)).2=c++(lz P q l).toArray
 | [],q,c=>by simp[lz]
 |e::l,q,c=>by
  have d:=CI g i l;rw[gQ];unfold lz;split;rename_i f h;obtain⟨j,a,b⟩:=e;dsimp only at h;subst h;rw[g];exact d _ _;rename_i h;rw[i q c e λf k=>h f k];split;exact d _ _;rw[d];simp
def AK(P:Bo)(fn:FuncId)(es:Array Event):seen P fn es=(lz P ((P.funcs[fn]?).any (·.norace)) es.toList).toArray:=by
 unfold seen;show (Array.foldl (β:=Bool×Array Event) _ _ es).2=_;rw[<-mO];refine(CI (P:=P) (λq c f a b=>rfl) (λq c e g=>?_) _ _ _).trans (by simp);obtain⟨d,a,b⟩:=e;cases d with
 |mark m=>cases m<;>first|rfl|exact absurd rfl (g _)
 |_=>rfl
def tl(P:Bo):∀(l:List Event) (q:Bool) e,e∈lz P q l->e∈l
 | [],q,e,h=>by cases h
 |x::l,q,e,h=>by
  unfold lz at h;split at h;simp[tl P l _ e h];split at h;simp[tl P l _ e h];rcases bN.1 h with rfl|h
  simp;simp[tl P l _ e h]
def AL{e:Event}(h:e∈seen P fn es):e∈es:=by
 rw[AK]at h;exact Array.mem_def.2 (tl P _ _ e (by simpa using h))
def C6(P:Bo)(U:Pm):∀(l:List Event) (q:Bool),lz P q (l.map (ua U))=(lz P q l).map (ua U)
 | [],q=>rfl
 |⟨c,a,b⟩::l,q=>by
  have d:=C6 P U l;cases c with
  |mark m=>
   cases m<;>simp only[List.map,lz,ua,mX,vR]<;>first|exact d _|(split<;>simp[d,ua,mX,vR])
  |_=>simp only[List.map,lz,ua,mX];split<;>simp[d,ua,mX]
def qG(P:Bo){k:Event->Bool}(g:∀f a b,k ⟨.mark (.extern f),a,b⟩=true):∀(l:List Event) (q:Bool),lz P q (l.filter k)=(lz P q l).filter k
 | [],q=>rfl
 |e::l,q=>by
  have c:=qG P g l;rw[i6];by_cases d:k e=true;rw[az d];unfold lz;split;exact c _;split;exact c _;rw[i6,az d,c]
  .rw[ax d];conv=>rhs;unfold lz
   split;rename_i f h;obtain⟨i,a,b⟩:=e;dsimp only at h;subst h;exact absurd (g _ _ _) d;split;exact c _;rw[i6,ax d,c]
def zu.H(h:zu U es es'):zu U (Go.seen P fn es) (Go.seen P fn es'):=by
 refine⟨?_,λa e c=>h.b a e (AL c)⟩;replace h:=h.h;rw[AK,AK];have d:es'.toList.filter (xZ U)=(es.toList.filter (ux U)).map (ua U):=by
  have:=bY Array.toList h;simpa using this
 have:(lz P ((P.funcs[fn]?).any (·.norace)) es'.toList).filter (xZ U)=((lz P ((P.funcs[fn]?).any (·.norace)) es.toList).filter (ux U)).map (ua U):=by
  rw[<-qG P (λ_ _ _=>rfl),<-qG P (λ_ _ _=>rfl),d,C6]
 simpa using bY List.toArray this
def yY(U:Pm)(base:List Frame)(g:Goroutine):Goroutine:={g with frame:=iW U g.frame,callers:=g.callers.map (iW U)++base}
structure rz(P:Program)(κ:ju)(X:Nat->Bool)(A:Nat->Option Nat)(n:Nat)(g:Goroutine):Prop where
 e:gN P κ X A n g.frame
 i:∀fr∈g.callers,gN P κ X A n fr
 o:BU g.frame g.callers
 b:g.status=.running
 j:g.dying=none
 h:g.offers=none
def pz(g:Goroutine):Prop:=g.status=.running/\g.dying=none
def NH(g:Goroutine):Prop:=(g.status=.running/\∃d,g.dying=some d/\d.calling=false/\d.todo=[])\/((g.status=.blocked\/g.status=.waiting)/\g.offers=none)
def NH.h(h:NH g)(a:g.status=.running)(b:g.dying=none):False:=by
 rcases h with⟨_,d,h,_⟩|⟨h|h,_⟩
 rw[b]at h;cases h;rw[a]at h;cases h;rw[a]at h;cases h
def qq(P:Program)(κ:ju)(X:Nat->Bool)(A:Nat->Option Nat)(U:Pm)(base:List Frame)(w w':World):GStep->GStep->Prop
 |.go g1 w1 es,x=>(pz g1\/NH g1)/\(g1.status=.running->g1.dying=none->(w.heap.size<=w1.heap.size/\w.drawn<=w1.drawn)/\(Ee U w w' w1->rz P κ X A w1.heap.size g1/\oJ κ X w w1 es/\∃a es',x=.go (yY U base g1) a es'/\zu U es es'/\ll U w w' w1 a))
 |.ended _ _ _,_=>True
 |_,_=>False
def zu.nil:zu U #[] #[]:=⟨by simp,λ_ e a=>absurd a (by simp)⟩
def qq.e(d:Sh κ X w)(f:ur U w w'){a:Bm}(c:rz P κ X A w.heap.size g1)(e:a=yY U base g1):qq P κ X A U base w w' (.go g1 w #[]) (.go a w' #[]):=by
 subst e;exact⟨.inl ⟨c.b,c.j⟩,λ_ _=>⟨⟨aa _,aa _⟩,λ_=>⟨c,oJ.refl d,w',#[],rfl,zu.nil,ll.e f⟩⟩⟩
def N8.e(c:n<=m){e:Event}(h:N8 κ n e):N8 κ m e:=by
 let ⟨l,a,b⟩:=e
 cases l with
 |cell a=>exact gC.e h c
 |obj r=>exact gC.e h c
 |mark k=>exact h
 |_=>trivial
def gH(c:oJ κ X w w1 es)(d:rz P κ X A w1.heap.size g1)(k:Ee U w w' w1->∃a es',x=GStep.after (seen P fn es') (.go (yY U base g1) a #[])/\zu U es es'/\ll U w w' w1 a):
  qq P κ X A U base w w' (GStep.after (seen P fn es) (.go g1 w1 #[])) x:=by
 refine⟨.inl ⟨d.b,d.j⟩,λ_ _=>⟨⟨c.h,c.j⟩,λl=>?_⟩⟩;obtain⟨a,es',rfl,f,m⟩:=k l;refine⟨d,⟨c.i,c.h,c.j,c.g,λe f n=>c.o e (AL (by simpa using f)) n⟩,a,seen P fn es',by simp[GStep.after],by simpa using f.H,m⟩
def qq.h{c:A1}(a:oJ κ X w w1 es)(E:Ee U w w' w1->zu U es es'/\ll U w w' w1 c)(h:qq P κ X A U base w1 c x x'):qq P κ X A U base w w' (GStep.after (seen P fn es) x) (GStep.after (seen P fn es') x'):=by
 cases x with
 |go M w2 F=>
  refine⟨h.1,λG I=>?_⟩;let ⟨d,J⟩:=h.2 G I
  refine⟨⟨aP a.h d.1,aP a.j d.2⟩,λn=>?_⟩;have k:Ee U w w' w1:=⟨λb p r=>n.e b p (aO r d.1),aP d.2 n.h⟩;let ⟨f,y⟩:=E k
  have s:Ee U w1 c w2:=⟨λb p r=>by
   have N:=n.e b (aP a.h p) r;have O:=y.j;have Q:=a.h;omega,n.h⟩
  obtain⟨K,t,u,l,rfl,m,v⟩:=J s;refine⟨K,⟨t.i,aP a.h d.1,aP a.j d.2,λb z=>(t.g b z).trans (a.g b z),λe f B=>?_⟩,u,seen P fn es'++l,rfl,?_,y.H k v⟩;rcases cN.1 f with f|f
  rcases a.o e (AL f) B with q|q
  exact .inl (N8.e d.1 q);exact .inr q;exact t.o e f B
  .have C:=(f.H (P:=P) (fn:=fn));refine⟨?_,λD e L=>(cN.1 L).elim (C.b D e) (m.b D e)⟩;rw[Array.filter_append,Array.filter_append,oH,C.h,m.h];all_goals simp
 |ended o w es=>trivial
 |_=>exact h.elim
def uo:GStep->Prop
 |.go g _ _=>NH g
 |.ended _ _ _=>True
 |_=>False
def oL(h:g.status=.blocked\/g.status=.waiting)(a:g.offers=none):uo (.go g w es):=.inr ⟨h,a⟩
def uu(hs:g.status=.running){d:Dying}(h:g.dying=some d)(hc:d.calling=false)(a:d.todo=[]):uo (.go g w es):=.inl ⟨hs,d,h,hc,a⟩
def my{o:Outcome}:uo (.ended o w es):=aE
def uo.h{y:GStep}(h:uo x):qq P κ X A U base w w' x y:=by
 cases x with
 |go g w1 es=>
  exact⟨.inr h,λa b=>(NH.h h a b).elim⟩
 |ended o w es=>trivial
 |_=>exact h.elim
def uo.e(h:uo x):uo (GStep.after es x):=by
 cases x<;>exact h
def rz.mk'(a:n<=m)(b:gN P κ X A m fr)(d:∀c∈cs,gN P κ X A n c)(f:Eqv.BU fr cs):rz P κ X A m ⟨fr,cs,.running,none,none⟩:=
 ⟨b,λc hc=>(d c hc).e a,f,rfl,rfl,rfl⟩
def JB(R:j8 P κ X A){g:Nat}:uo (early P fr cs none g w):=by
 unfold early;simp only[R.YQ,R.ab2];trivial
def zN(fr:Frame)(cs:List Frame)(m:String)(w:A1):uo (endFatal P fr cs none m w):=by
 unfold endFatal;extract_lets;repeat' split
 all_goals first|trivial|exact uu rfl rfl rfl rfl
def vT:∀{fr:Frame} {cs:List Frame},gN P κ X A n fr->(∀c∈cs,gN P κ X A n c)->Eqv.BU fr cs->fr.kind≠.wrapped ->
  tryRecover (iW U fr) (cs.map (iW U)++base)=(tryRecover fr cs).map λx=>(pV U x.1,x.2.map (iW U)++base):=by
 intro fr cs t hc o p;let ⟨fn,k,l,f,m,b,u⟩:=fr
 cases b with
 |deferred=>
  cases cs with
  |nil=>exact absurd (show CallKind.deferred=.normal from o) (by decide)
  |cons c cs=>
   let ⟨q,h,i,d,a,j,s⟩:=c
   cases a with
   |panicking ch=>
    cases ch with
    |nil=>rfl
    |cons e ch=>
     let ⟨v,r,g⟩:=e
     cases r<;>cases g<;>rfl
   |_=>rfl
 |wrapped=>exact absurd rfl p
 |_=>cases cs<;>first|rfl|(cases base<;>rfl)
def rZ(hc:∀c∈cs,gN P κ X A n c)(F:Eqv.BU fr cs)(G:fr.kind≠.wrapped){v:Bg}{f:List Frame}(h:tryRecover fr cs=some (v,f)):
  ix κ n v/\(∀c∈f,gN P κ X A n c)/\Eqv.BU fr f:=by
 let ⟨fn,C,D,t,E,q,H⟩:=fr
 cases q with
 |deferred=>
  cases cs with
  |nil=>cases h
  |cons c cs=>
   have a:=hc c (by simp);have w:∀c∈cs,gN P κ X A n c:=λc h=>hc c (by simp[h]);let ⟨x,i,k,d,l,m,y⟩:=c
   cases l with
   |panicking ch=>
    cases ch with
    |nil=>cases h
    |cons e ch=>
     let ⟨u,r,g⟩:=e
     cases r<;>cases g<;>cases h;have z:=a.s;refine⟨z ⟨v,false,false⟩ (by simp),λc hc=>?_,?_⟩;rotate_left;show Eqv.BU _ cs;refine Eqv.BU.e ?_ (show Eqv.BU ⟨x,i,k,d,.panicking (⟨v,false,false⟩::ch),m,y⟩ cs from F);rfl;rcases bN.1 hc with rfl|hc
     refine⟨a.u,a.j,a.p,a.b,λe B=>?_,a.o,a.h⟩;rcases bN.1 B with rfl|B
     exact z ⟨v,false,false⟩ (by simp);exact z e (by simp[B]);exact w c hc
   |_=>cases h
 |wrapped=>exact absurd rfl G
 |_=>cases cs<;>cases h
def rY:List Item->Prop
 |.call .. :: _=>False
 |.extern .. :: _=>False
 |_=>True
def gN.H(h:gN P κ X A n fr):rY fr.todo:=by
 cases q:fr.todo with
 |nil=>trivial
 |cons i k=>
  have:=h.p i (by rw[q];simp);cases i<;>first|trivial|exact this.elim
def rY.e(h:rY k):rY (k.map (jG U)):=by
 cases k with
 |nil=>trivial
 |cons i k=>cases i<;>first|trivial|exact h.elim
def N1(h:gN P κ X A n fr):(fr.kind==CallKind.early)=false:=by
 rcases h.o with q|q<;>rw[q]<;>rfl
def sD(h:gN P κ X A n fr):fr.kind≠.wrapped:=by
 rcases h.o with q|q<;>rw[q]<;>decide
def pA(R:j8 P κ X A)(T:oK P κ X U)(hw:Sh κ X w)(hR:ur U w w')(E:gN P κ X A w.heap.size fr)(hc:∀c∈cs,gN P κ X A w.heap.size c)(G:Eqv.BU fr cs){s s':Sem Next}(hE:bZ P U (cV U) s s')(I:Gb P κ X w (aF A fr) dst s)(hd:∀o d,fr.oper?=some o->o.dst=some d->dst=some d):
  qq P κ X A U base w w' (stepG.apply P true fr cs none s w) (stepG.apply P true (iW U fr) (cs.map (iW U)++base) none s' w'):=by
 have V:=hE w w' #[] #[] hR zu.nil;have f1:=I.1;have f2:=I.2;have W:=E.H;have O:rY (iW U fr).todo:=W.e;have Q:=N1 E;have Y:((iW U fr).kind==CallKind.early)=false:=Q;have Z:=T.j;have ad:=And.intro (nK P s w #[]) (qF P s w #[]);unfold stepG.apply;extract_lets a1 a2 a3 a4 a5 a6 a7 a8;have k1:a2=.normal:=by
  simp only[a2];split;rename_i q;rw[q]at W;exact W.elim;rfl
 have k2:a7=.normal:=by
  simp only[a7];split;rename_i q;rw[q]at O;exact O.elim;rfl
 clear_value a2 a7;subst k1 k2;simp only[dC,Q,Y,eL,mj];generalize s.runT P w #[]=y at *;generalize s'.runT P w' #[]=y' at *;let ⟨r,es⟩:=y
 let ⟨r',es'⟩:=y'
 cases r with
 |ok x w1=>
  let ⟨i,z⟩:=f1 x w1 es rfl
  have C:Ee U w w' w1->∃g,r'=.ok (cV U x) g/\zu U es es'/\ll U w w' w1 g:=λn=>by
   rcases V n with⟨S,_⟩|⟨g,aI,q,t,B⟩
   rw[Z]at S;cases S;cases q;exact⟨g,rfl,t,B⟩
  cases x with
  |value v=>
   refine gH (g1:=⟨fr.finish v,cs,.running,none,none⟩) i (rz.mk' i.h (jn (E.e i.h) λo d L M=>z d (hd o d L M)) hc (G.e (iK fr v).symm)) λn=>?_;obtain⟨g,rfl,t,B⟩:=C n;exact⟨g,es',by simp only[cV,iL];rfl,t,B⟩
  |skip=>
   refine gH (g1:=⟨fr.finish undef,cs,.running,none,none⟩) i (rz.mk' i.h (jn (E.e i.h) λo d L M=>.inl lW) hc (G.e (iK fr undef).symm)) λn=>?_;obtain⟨g,rfl,t,B⟩:=C n;exact⟨g,es',by rw[<-zb (U:=U)];simp only[cV,iL];rfl,t,B⟩
  |enter f J=>
   replace z:κ.b f=true/\gX κ w1.heap.size J:=z;refine gH (g1:=⟨Frame.enter P f J .normal,fr::cs,.running,none,none⟩) i (rz.mk' i.h (pB R z.1 z.2 (.inl rfl)) (λc h=>by rcases bN.1 h with rfl|h;exact E;exact hc c h) G) λn=>?_;obtain⟨g,rfl,t,B⟩:=C n;exact⟨g,es',by simp only[cV,lx (show U.zx f=true by rw[T.h.1];exact z.1),zK];rfl,t,B⟩
  |round l f K a b=>
   replace z:gC κ w1.heap.size l/\κ.b f=true/\gX κ w1.heap.size K/\κ.e a=true/\κ.e b=true:=z;refine gH (g1:=⟨Frame.round l f K a b .normal,fr::cs,.running,none,none⟩) i (rz.mk' i.h (C4 R z.2.1 z.2.2.1 z.1 z.2.2.2.1 z.2.2.2.2 (.inl rfl)) (λc h=>by rcases bN.1 h with rfl|h;exact E;exact hc c h) G) λn=>?_;obtain⟨g,rfl,t,B⟩:=C n;have ca:pC U a=a:=by simp only[pC,T.h.2.2,z.2.2.2.1,dC]
   have cb:pC U b=b:=by simp only[pC,T.h.2.2,z.2.2.2.2,dC]
   exact⟨g,es',by simp only[cV,lx (show U.zx f=true by rw[T.h.1];exact z.2.1),ca,cb,AH];rfl,t,B⟩
  |defer d=>
   replace z:vI κ w1.heap.size d:=z;have F:=E.e i.h;have aS:gN P κ X A w1.heap.size {fr with defers:=d::fr.defers}:=⟨F.u,F.j,F.p,λd' h=>by rcases bN.1 h with rfl|h;exact z;exact F.b d' h,F.s,F.o,F.h⟩;refine gH (g1:=⟨Frame.finish {fr with defers:=d::fr.defers} undef,cs,.running,none,none⟩) i (rz.mk' i.h (jn aS λo d L M=>.inl lW) hc (Eqv.BU.e (show fr.kind=_ from(iK {fr with defers:=d::fr.defers} undef).symm) G)) λn=>?_;obtain⟨g,rfl,t,B⟩:=C n;refine⟨g,es',?_,t,B⟩;have:=iL (U:=U) {fr with defers:=d::fr.defers} undef;rw[zb]at this;simp only[cV,yY];rw[<-this];rfl
  |recover=>
   have k:=vT (U:=U) (base:=base) (E.e i.h) (λc h=>(hc c h).e i.h) G (sD E);cases hro:fr.roundOf with
   |none=>
    have D:(iW U fr).roundOf=none:=by simp[iW,hro]
    simp only;cases q:tryRecover fr cs with
    |none=>
     rw[q]at k;refine gH (g1:=⟨fr.finish .nilIface,cs,.running,none,none⟩) i (rz.mk' i.h (jn (E.e i.h) λo d L M=>.inl Mu) hc (G.e (iK fr _).symm)) λn=>?_;obtain⟨g,rfl,t,B⟩:=C n;refine⟨g,es',?_,t,B⟩;simp only[cV,D,R.Ct,dC,k,Option.map];rw[show (iW U fr).finish .nilIface=iW U (fr.finish .nilIface) from iL fr .nilIface];rfl
    |some y=>
     let ⟨v,N⟩:=y
     rw[q]at k;let ⟨r1,r2,r3⟩:=rZ hc G (sD E) q
     refine gH (g1:=⟨fr.finish v,N,.running,none,none⟩) i (rz.mk' i.h (jn (E.e i.h) λo d L M=>.inl (ix.e i.h r1)) r2 (r3.e (iK fr _).symm)) λn=>?_;obtain⟨g,rfl,t,B⟩:=C n;refine⟨g,es',?_,t,B⟩;simp only[cV,D,R.Ct,dC,k,Option.map];rw[iL fr v];rfl
   |some l=>
    have D:(iW U fr).roundOf=some (U.f l):=by simp[iW,hro]
    simp only[R.Ct,dC];cases q:tryRecover fr cs with
    |none=>
     rw[q]at k;refine gH (g1:=⟨fr.finish .nilIface,cs,.running,none,none⟩) i (rz.mk' i.h (jn (E.e i.h) λo d L M=>.inl Mu) hc (G.e (iK fr _).symm)) λn=>?_;obtain⟨g,rfl,t,B⟩:=C n;refine⟨g,es',?_,t,B⟩;simp only[cV,D,R.Ct,dC,k,Option.map];rw[show (iW U fr).finish .nilIface=iW U (fr.finish .nilIface) from iL fr .nilIface];rfl
    |some y=>
     let ⟨v,N⟩:=y
     rw[q]at k;let ⟨r1,r2,r3⟩:=rZ hc G (sD E) q
     refine gH (g1:=⟨fr.finish v,N,.running,none,none⟩) i (rz.mk' i.h (jn (E.e i.h) λo d L M=>.inl (ix.e i.h r1)) r2 (r3.e (iK fr _).symm)) λn=>?_;obtain⟨g,rfl,t,B⟩:=C n;refine⟨g,es',?_,t,B⟩;simp only[cV,D,R.Ct,dC,k,Option.map];rw[iL fr v];rfl
  |_=>exact z.elim
 |halt hh w1=>
  cases hh with
  |panic v=>
   let ⟨i,z⟩:=f2 v w1 es rfl
   refine gH (g1:=⟨fr.raise [{v,recovered:=false}],cs,.running,none,none⟩) i (rz.mk' i.h (tf (E.e i.h) λe t=>by rw[aL.1 t];exact z) hc (G.e (qD fr).symm)) λn=>?_;rcases V n with⟨S,_⟩|⟨g,aI,q,t,B⟩
   rw[Z]at S;cases S;cases q;refine⟨g,es',?_,t,B⟩;have:=qE (U:=U) fr [{v,recovered:=false}];simp only[yY];rw[<-this];rfl
  |goexit=>
   refine⟨.inl ⟨rfl,rfl⟩,λ_ _=>⟨ad,λn=>?_⟩⟩;have:=(V n).1;rw[Z]at this;cases this
  |blocked=>
   refine uo.h (uo.e ?_);exact oL (.inl rfl) rfl
  |waiting=>
   refine uo.h (uo.e ?_);exact oL (.inr rfl) rfl
  |exit c=>
   refine uo.h (uo.e ?_);exact my
  |fatal m=>
   refine uo.h (uo.e ?_);exact zN ..
  |throw m=>
   refine uo.h (uo.e ?_);exact uu rfl rfl rfl rfl
  |unsupported u=>
   refine uo.h (uo.e ?_);cases u<;>first|exact my|exact JB R
  |stuck m=>
   refine uo.h (uo.e ?_);exact my
def Y2{c:Code}(h:U.VL c=true):pC U c=c:=by simp only[pC,h,dC]
def Sm{o:Option Code}(h:∀c,o=some c->WK c=true):o.map (pJ U)=o:=by
 cases o with
 |none=>rfl
 |some c=>simp only[Option.map,pJ,h c rfl,dC]
def zJ(l:Nat)(j:Option Code)(h:∀c,j=some c->WK c=true):bZ P U (pV U) (Instr.endRound l j) (Instr.endRound (U.f l) j):=by
 unfold Instr.endRound;refine pF l λr a=>?_;refine bZ.e (bZ.ac a rfl ?_) λ_=>bZ.h rfl;simp only[ei,pP,Sm h]
include C in
def vE(l:Nat):bZ P U id (Instr.beginRound l) (Instr.beginRound (U.f l)):=by
 unfold Instr.beginRound;refine pF l λr a=>?_;refine bZ.e (bZ.ac a rfl rfl) λ_=>?_;simp only[pP];cases r.state<;>first|exact bZ.h rfl|exact cr C _
def CC(l:Nat):bZ P U (Option.map (pJ U)) (Instr.endLoop l) (Instr.endLoop (U.f l)):=by
 unfold Instr.endLoop;refine pF l λr b=>?_;have a:bZ P U (Option.map (pJ U)) (do setObj l (.loop {r with state:=.exhausted});pure r.pending) (do setObj (U.f l) (.loop {pP U r with state:=.exhausted});pure (pP U r).pending):=bZ.e (pa:=id) (bZ.ac b rfl rfl) λ_=>bZ.h rfl;by_cases q:(r.state == .busy)=true;rw[az q,az (show ((pP U r).state == .busy)=true from q)];exact bZ.ai _;rw[ax q,ax (show ¬((pP U r).state == .busy)=true from q)];exact a
def si(b:Nat):bZ P U (List.map (lN U)) (Instr.takeDeferred b) (Instr.takeDeferred (U.f b)):=by
 unfold Instr.takeDeferred;refine bZ.Z rfl (λo a=>?_) (λ_ _ _ _=>aE);cases o<;>first|exact(λ_ _ _ _ _ _=>aE)|skip
 rename_i cs;cases cs with
 |none=>exact bZ.j
 |some c=>exact bZ.e (bZ.ac a rfl rfl) λ_=>bZ.h rfl
def Ar(U:Pm)(x:Nat×List Deferred):Nat×List Deferred:=(U.f x.1,x.2.map (lN U))
theorem xW(fn:FuncId)(tmps:Array Value)(params:Array Tmp)(a b:Code)(around:Option Nat)(hf:U.zx fn=true)(ha:U.VL a=true)(hb:U.VL b=true):
  bZ P U (Ar U) (Instr.enterLoop fn tmps params a b around) (Instr.enterLoop fn (dI U tmps) params a b (around.map U.f)):=by
 have key:∀(d:Nat) (m:List Deferred),bZ P U (Ar U) (do pure (<-newObj (.loop {state:=.ready,pending:=none,fn,tmps,params,assign:=a,body:=b,defers:=d}),m)) (do pure (<-newObj (.loop {state:=.ready,pending:=none,fn,tmps:=dI U tmps,params,assign:=a,body:=b,defers:=U.f d}),m.map (lN U))):=λd m=>
  bZ.e (bZ.ab (by simp only[ei,pP,lx hf,Y2 ha,Y2 hb];rfl)) λr=>bZ.h rfl
 unfold Instr.enterLoop
 cases around with
 |some l=>exact pF l λr hX=>key r.defers []
 |none=>exact bZ.e (bZ.ab rfl) λr=>key r [{target:=.collected r,args:=#[]}]
include C in
def zX(E:rL P U){t:Target}(args:Array Bg)(h:∀fn c,t=.fn fn c->Ou U fn=true)(a:∀b x y z,t≠.builtin b x y z)(d:∀c,t≠.coroexit c):bZ P U (cV U) (invoke t args) (invoke (ir U t) (dI U args)):=by
 cases t with
 |fn fn c=>exact uw C E fn c args (h fn c rfl)
 |nil=>
  show bZ P U (cV U) (runtimePanic .nilDeref) (runtimePanic .nilDeref);exact cr C _
 |builtin b x y z=>exact absurd rfl (a b x y z)
 |coroexit c=>exact absurd rfl (d c)
 |collected r=>exact(λ_ _ _ _ _ _=>aE)
def ZL(P:Program)(κ:ju)(X:Nat->Bool)(A:Nat->Option Nat)(U:Pm)(base:List Frame)(n:Nat)(k:World->GStep)(a:World->GStep):Prop:=
 (∀w,uo (k w))\/∃g1,rz P κ X A n g1/\(∀w,k w=.go g1 w #[])/\∀w',a w'=.go (yY U base g1) w' #[]
def N0(l:List PanicEntry):(l.map (vQ U)).dropWhile (!·.goexit)=(l.dropWhile (!·.goexit)).map (vQ U):=by
 induction l with
 |nil=>rfl
 |cons e l a=>
  let ⟨v,r,g⟩:=e
  cases g with
  |false=>simpa[List.dropWhile,vQ] using a
  |true=>simp[List.dropWhile,vQ]
def x9(R:j8 P κ X A)(D:gN P κ X A n fr)(hc:∀c∈cs,gN P κ X A n c)(l:Eqv.BU fr cs){v:Bg}(E:ix κ n v):
  ZL P κ X A U base n (doReturn P true fr cs none v) (doReturn P mb (iW U fr) (cs.map (iW U)++base) none (pV U v)):=by
 cases cs with
 |nil=>
  refine .inl λw=>?_;unfold doReturn;simp only;have f:fr.kind=.normal:=l;rw[f];simp only[oX,eL,mj,R.ab1 fr.fn D.u];trivial
 |cons c cs=>
  have d:=hc c (by simp);have t:∀c∈cs,gN P κ X A n c:=λc h=>hc c (by simp[h]);replace l:Eqv.BU c cs:=l;rcases D.o with f|f
  refine .inr ⟨⟨c.finish v,cs,.running,none,none⟩,rz.mk' (aa _) (jn d λ_ _ _ _=>.inl E) t (l.e (iK c v).symm),λw=>?_,λw'=>?_⟩;unfold doReturn;simp only[f];unfold doReturn;simp only[List.map,dB,show (iW U fr).kind=.normal from f,iL];rfl;have fin:∀m:FrameMode,Wn κ n m->rz P κ X A n ⟨{c with mode:=m},cs,.running,none,none⟩:=λm k=>
   rz.mk' (aa _) ⟨d.u,d.j,d.p,d.b,k,d.o,d.h⟩ t (Eqv.BU.e (a:=c) (b:={c with mode:=m}) rfl l)
  obtain⟨F,y,z,x,i,B,G⟩:=c;have k:=d.s;unfold doReturn;simp only[f,List.map,dB,show (iW U fr).kind=.deferred from f];cases i with
  |panicking ch=>
   cases ch with
   |nil=>exact .inr ⟨_,fin _ k,λw=>rfl,λw'=>rfl⟩
   |cons e ch=>
    obtain⟨u,r,g⟩:=e;cases r with
    |false=>exact .inr ⟨_,fin _ k,λw=>rfl,λw'=>rfl⟩
    |true=>
     have hd:=N0 (U:=U) ch;cases q:ch.dropWhile (!·.goexit) with
     |nil=>
      rw[q]at hd;refine .inr ⟨_,fin .returning aE,λw=>?_,λw'=>?_⟩;simp only[q];simp only[iW,kh,List.map,vQ];simp only[List.map]at hd;rw[hd];rfl
     |cons H C=>
      rw[q]at hd;refine .inr ⟨_,fin (.panicking (H::C)) (λe I=>k e (bI _ ((List.dropWhile_sublist _).subset (by rw[q];exact I)))),λw=>?_,λw'=>?_⟩;simp only[q];simp only[iW,kh,List.map,vQ];simp only[List.map]at hd;rw[hd];rfl
  |_=>exact .inr ⟨_,fin _ k,λw=>rfl,λw'=>rfl⟩
def vW{pa:Pm->α->α}{s':Sem α}(T:oK P κ X U)(B:Sh κ X w)(G:ur U w w')(H:bZ P U (pa U) s s')(C:∀ρ,uq κ X w.heap.size ρ->bZ P ρ (pa ρ) s s){g:Result α}(c:s.runT P w #[]=(r,es))(k:s'.runT P w' #[]=(g,es'))(I:∀a w1,r=.ok a w1->w.heap.size<=w1.heap.size->Sh κ X w1->(∃ρ σ,lm κ w1.heap.size ρ σ/\pa ρ a=pa σ a)->uo x\/∃g1,rz P κ X A w1.heap.size g1/\x=.go g1 w1 #[]/\∀b,g=.ok (pa U a) b->x'=.go (yY U base g1) b #[])(J:∀v w1,r=.halt (.panic v) w1->w.heap.size<=w1.heap.size->ix κ w1.heap.size v->uo x\/∃g1,rz P κ X A w1.heap.size g1/\x=.go g1 w1 #[]/\∀b,g=.halt (.panic (pV U v)) b->x'=.go (yY U base g1) b #[])(K:∀h w1,(∀v,h≠.panic v)->r=.halt h w1->uo x):
  qq P κ X A U base w w' (GStep.after (seen P fn es) x) (GStep.after (seen P fn es') x'):=by
 have m:=H w w' #[] #[] G zu.nil;have D:=T.j;rw[c,k]at m;cases r with
 |ok a w1=>
  let ⟨l,ρ,σ,n,q⟩:=qC B C c
  have d:=l.e (jy c) (iH c);rcases I a w1 rfl d.h d.i ⟨ρ,σ,n,q⟩ with h|⟨g1,o,rfl,p⟩
  exact uo.h (uo.e h);refine gH d o λt=>?_;rcases m t with⟨f,_⟩|⟨b,u,q,y,z⟩
  rw[D]at f;cases f;cases q;exact⟨b,es',by rw[p b rfl],y,z⟩
 |halt E w1=>
  by_cases F:∃v,E=.panic v;obtain⟨v,rfl⟩:=F;let ⟨l,L⟩:=nU B C c
  have d:=l.e (jy c) (iH c);rcases J v w1 rfl d.h L with h|⟨g1,o,rfl,p⟩
  exact uo.h (uo.e h);refine gH d o λt=>?_;rcases m t with⟨f,_⟩|⟨b,u,q,y,z⟩
  rw[D]at f;cases f;cases q;exact⟨b,es',by rw[p b rfl],y,z⟩;exact uo.h (uo.e (K E w1 (λv q=>F ⟨v,q⟩) rfl))
def ST(h:gN P κ X A n fr)(a:∀i∈k,JD P κ X n (aF A fr) i):gN P κ X A n {fr with todo:=k}:=⟨h.u,h.j,a,h.b,h.s,h.o,h.h⟩
def V0(h:gN P κ X A n fr)(a:aF A fr=none):gX κ n fr.tmps:=jT.2 λv b=>by
 obtain⟨i,c,rfl⟩:=xR.1 b;rcases h.j i _ (bj c) with q|⟨q,_⟩
 exact q;rw[a]at q;cases q
def EY(b:Array Oper)(a:Array Bg)(j:Nat):yielded b (dI U a) j=yielded b a j:=by
 unfold yielded;cases q:(b[j]?).bind (·.dst) with
 |none=>rfl
 |some d=>
  simp only[Jt,lr];cases a[d]? with
  |none=>rfl
  |some v=>cases v<;>rfl
def GX(b:Array Oper)(a:Array Bg)(i:Nat):((b[i]?).map (Region.wanted · (yielded b (dI U a)))).getD false=((b[i]?).map (Region.wanted · (yielded b a))).getD false:=by
 rw[show yielded b (dI U a)=yielded b a from funext λj=>EY b a j]
def qv(R:j8 P κ X A)(T:oK P κ X U)(p:Sh κ X w)(s:ur U w w')(t:gN P κ X A w.heap.size fr)(hc:∀c∈cs,gN P κ X A w.heap.size c)(u:Eqv.BU fr cs){l:Nat}(y:gC κ w.heap.size l){j:Option Code}(i:∀c,j=some c->WK c=true){r k:Result Bg}(z:(Instr.endRound l j).runT P w #[]=(r,es))(b:(Instr.endRound (U.f l) j).runT P w' #[]=(k,es'))(m:∀v w1,r=.ok v w1->x=doReturn P true fr cs none v w1)(d:∀v w1,k=.ok v w1->x'=doReturn P mb (iW U fr) (cs.map (iW U)++base) none v w1)(n:∀h w1,r=.halt h w1->uo x):
  qq P κ X A U base w w' (GStep.after (seen P fn es) x) (GStep.after (seen P fn es') x'):=by
 refine vW T p s (zJ l j i) (λρ B=>?_) z b (λv w1 e o _ C=>?_) (λv w1 e _ _=>.inl (n _ w1 e)) (λh w1 _ e=>n h w1 e);have:=zJ (P:=P) (U:=ρ) l j i;rw[B.e l y]at this;exact this;obtain⟨ρ,σ,g,q⟩:=C;rcases x9 (U:=U) (base:=base) R (t.e o) (λc h=>(hc c h).e o) u (ye g v q) with h|⟨g1,D,k1,E⟩
 exact .inl (by rw[m v w1 e];exact h w1);exact .inr ⟨g1,D,by rw[m v w1 e];exact k1 w1,λa F=>by rw[d _ a F];exact E a⟩
def rV(c:Sh κ X w){a:Option Nat}{s:Sem Next}(h:∀ρ,uq κ X w.heap.size ρ->bZ P ρ (cV ρ) s s):Gb P κ X w a dst s:=by
 constructor;intro x w1 es run;let ⟨l,U,ρ,b,q⟩:=qC c h run
 exact⟨l.e (jy run) (iH run),(Sf b q).v⟩;intro v w1 es run;let ⟨l,q⟩:=nU c h run
 exact⟨l.e (jy run) (iH run),q⟩
def JM(f:Bg)(args:Array Bg):(∃m,Deferred.ofValue f args=stuck m)\/(f=.nilFunc/\∃d,Deferred.ofValue f args=pure d/\d.target=.nil)\/∃fn a b d c,f=.func fn a b/\Deferred.ofValue f args=pure d/\d.target=.fn fn c:=by
 cases f<;>first|exact .inl ⟨_,rfl⟩|exact .inr (.inl ⟨rfl,_,rfl,rfl⟩)|exact .inr (.inr ⟨_,_,_,_,_,rfl,rfl,rfl⟩)
def ZU(C:gi P U)(E:rL P U){f:Bg}{args:Array Bg}(h:∀fn a b,f=.func fn a b->Ou U fn=true):
  bZ P U (cV U) (Deferred.ofValue f args >>= λd=>invoke d.target d.args) (Deferred.ofValue (pV U f) (dI U args) >>= λd=>invoke d.target d.args):=by
 rcases JM f args with⟨m,q⟩|⟨rfl,d,q,g⟩|⟨fn,a,b,d,c,rfl,q,g⟩
 rw[q];exact bZ.ae;exact bZ.ap (Q:=λd=>d.target=.nil) (xg _ _) (by rw[q];exact vz.j g) λd hd=>zX C E _ (λfn c e=>by rw[hd]at e;cases e) (λ_ _ _ _ e=>by rw[hd]at e;cases e) (λ_ e=>by rw[hd]at e;cases e);exact bZ.ap (Q:=λd=>∃c,d.target=.fn fn c) (xg _ _) (by rw[q];exact vz.j ⟨c,g⟩) λd ⟨c,hd⟩=>zX C E _ (λi k e=>by rw[hd]at e;cases e;exact h fn a b rfl) (λ_ _ _ _ e=>by rw[hd]at e;cases e) (λ_ e=>by rw[hd]at e;cases e)
end Go.Eqv
