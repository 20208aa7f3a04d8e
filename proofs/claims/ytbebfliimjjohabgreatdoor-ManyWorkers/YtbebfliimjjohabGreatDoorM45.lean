/- Parts of the proof. -/
import Derived.Test.YtbebfliimjjohabGreatDoorM17
import Derived.Test.YtbebfliimjjohabGreatDoorM44
import Derived.Stop.LaidTwo
import Derived.Conc.Holds
import Derived.Test.YtbebfliimjjohabGreatDoorTie
import Derived.Test.YtbebfliimjjohabGreatDoorCards
import Derived.Lay
set_option maxRecDepth 100000
set_option maxHeartbeats 8000000
set_option linter.all false
open Go.Proofs.Tryz
namespace Go.Proofs.YtbebfliimjjohabGreatDoor
open Go.ChangeShapes Go.WideShapes Go.ChangeAt Go.RowKit Go.Eqv Go Go.Conc
namespace Many
variable{b:Bool}{n:Nat}{W:Ba}
def et : prog.globalNamed "errors.errorType" = some 0 := bt
def rt : (prog.cutTypes.find? (·.1 == "internal/reflectlite.rtype")).map (·.2) = some 252 := bt
def Y4:((List.range 404).filter λt=>prog.rowNamed t [101,114,114,111,114])=[47]:=bt
def acu:prog.types.size=404:=bt
def pow : prog.globalNamed "internal/strconv.uint64pow10" = some 4 := bt
def syn : prog.globalNamed "strconv.ErrSyntax" = some 7 := bt
def ran : prog.globalNamed "strconv.ErrRange" = some 8 := bt
def aaX : "*" ++ "errors.errorString" = "*errors.errorString" := cn
def row(u : TypeId)(h : prog.typeName? 3 u = some "*errors.errorString") : u = 375 :=
 typeName_ptr_named (nm := "errors.errorString") (by rw [aaX]; kernel_rfl) bt cn u (aaX ▸ h)
def Rr(P:Program)(g:Nat):Option (Nat×TypeId×Bool×Bool):=(((begin P (λ_ _=>0) default).world.heap[g]?).bind Obj.row?).map λr=>(r.1.size,r.2,P.buildable r.2,((P.cellTypes P.depth r.2).map λa=>a.all λu=>match P.underlying u with|some (.int _)=>true|_=>false)==some true)
def aaW:(List.range 9).map (Rr prog)=[some (1,190,false,false),some (256,325,true,true),some (32,328,true,true),some (1,3,true,true),some (20,340,true,true),some (32,364,true,true),some (64,365,true,true),some (1,47,false,false),some (1,47,false,false)]:=bt
def Y0:Value->Bool
 |.int _ _=>true
 |_=>false
def ok9:Option Obj->Bool
 |some (.cells c _ (0,0))=>c.toList.all Y0&&c.size==404
 |_=>false
def w9:ok9 (begin prog (λ_ _=>0) default).world.heap[9]?=true:=bt
def w12:(begin prog (λ_ _=>0) default).world.heap[12]?=some (.cells #[.bool false] 0):=bt
def Nt(h:(some b==some true)=true):b=true:=dD h
def rm(hs:W.ShapedOpen prog){g:Nat}{t:DU}{c:Bool}(o:g<9)(h:Rr prog g=some (n,t,b,c)):∃d,W.heap[g]?=some (.cells d t)/\d.size=n/\(b=true->c=true->∀(i:Nat) v,d[i]?=some v->Y0 v=true):=by
 unfold Rr at h;let ⟨⟨zero,p⟩,r,l⟩:=bS.1 h
 simp at l;obtain⟨s,rfl,w,m⟩:=l;let ⟨d,k1,x,y⟩:=hs.1 g zero p (io▸o) r
 refine⟨d,k1,x.trans s,λz hc i v A=>?_⟩;subst z hc;let ⟨C,j,_,e⟩:=y w
 rw[j]at m;let ⟨u,B,a⟩:=e i v A
 have f:(match prog.underlying u with|some (.int _)=>true|_=>false)=true:=cM.1 (Nt m) u (fg B);unfold Cell.ok at a;split at f;rename_i k q;rw[q]at a;cases v<;>first|rfl|exact a.elim
 cases f
def aaV(hs:W.ShapedOpen prog):∃c t,W.heap[9]?=some (.cells c t)/\c.size=404/\∀(i:Nat) v,c[i]?=some v->Y0 v=true:=by
 have h:=w9;unfold ok9 at h;split at h;rename_i c t q;obtain⟨o,d,e,b,a⟩:=hs.2 9 (by rw[io];exact aj _) (ar.1 q).1;rw[io]at a;have a:o=d:=a;rw[q]at b;obtain rfl:=bb b;subst a;simp only[aR,jD]at h;exact⟨c,t,e,h.2,λi v f=>cM.1 h.1 v (Array.mem_toList_iff.2 (dK f))⟩;cases h
def Rt(hs:W.ShapedOpen prog):W.heap[12]?=some (.cells #[.bool false] 0):=by
 let ⟨o,d,c,a,b⟩:=hs.2 12 (by rw[io];decide) (ar.1 w12).1
 rw[io]at b;rw[w12]at a;obtain rfl:=bb a;rw[c,b]
def far(hs:W.ShapedOpen prog){a:Addr}{s:DS}(w:W.cell? a=some (.string s))(A:∀g,g=0\/g=7\/g=8->∃x v,W.cell? ⟨g,0,none⟩=some (.iface x v)):10<=a.block/\a.block≠12:=by
 let ⟨b,f,B⟩:=a
 have r:B=none:=World.cell?_spot w;subst r;have l:∀h t,W.heap[b]?=some (.cells h t)->h[f]?=some (.string s):=λh t q=>by
  have:W.cell? (aA b f)=h[f]?:=by simp[World.cell?,q]
  rw[<-this];exact w
 have o:∀h t,W.heap[b]?=some (.cells h t)->(∀(i:Nat) v,h[i]?=some v->Y0 v=true)->False:=λh t q k=>by
  have:=k f _ (l h t q);cases this
 have d:∀g,g<9->((List.range 9).map (Rr prog))[g]?=some (Rr prog g):=λg C=>by simp[C]
 rw[aaW]at d;refine⟨Nat.le_of_not_lt λp=>?_,λe=>?_⟩;have j:∀n t,b<9->some (some (n,t,true,true))=some (Rr prog b)->False:=λn t p q=>by
  let ⟨h,k1,_,u⟩:=rm hs p (bb q).symm
  exact o h t k1 (u rfl rfl)
 have m:∀t,b<9->(b=0\/b=7\/b=8)->some (some (1,t,false,false))=some (Rr prog b)->False:=λt p D q=>by
  let ⟨h,k1,E,_⟩:=rm hs p (bb q).symm
  let ⟨x,v,y⟩:=A b D
  have z:=l h t k1;have h0:f=0:=by
   have:=(ar.1 z).1;omega
  subst h0;rw[show W.cell? (aA b 0)=h[0]? from by simp[World.cell?,k1],z]at y;cases y
 have:b=0\/b=1\/b=2\/b=3\/b=4\/b=5\/b=6\/b=7\/b=8\/b=9:=by simp at p;omega
 rcases this with rfl|rfl|rfl|rfl|rfl|rfl|rfl|rfl|rfl|rfl
 exact m 190 cn aY (d 0 cn);exact j 256 325 cn (d 1 cn);exact j 32 328 cn (d 2 cn);exact j 1 3 cn (d 3 cn);exact j 20 340 cn (d 4 cn);exact j 32 364 cn (d 5 cn);exact j 64 365 cn (d 6 cn);exact m 47 cn aY (d 7 cn);exact m 47 cn aY (d 8 cn);let ⟨c,t,k1,_,u⟩:=aaV hs
 exact o c t k1 u;have e:b=12:=e;subst e;have:=l _ _ (Rt hs);rcases f with _|f<;>simp at this
def Ns(U:Pm){c:Array Dv}(h:∀(i:Nat) v,c[i]?=some v->Y0 v=true):dx U c=c:=by
 rw[dF];apply gB;intro i;rw[b9];cases q:c[i]? with
 |none=>rfl
 |some v=>have:=h i v q;cases v<;>first|rfl|cases this
def K6{κ:iW}:∀(l:List Dv),(∀v∈l,Y0 v=true)->p9 κ n l
 | [],_=>aB
 |v::l,h=>⟨(by have:=h v aY;cases v<;>first|trivial|cases this),K6 l λx a=>h x (by simp[a])⟩
def Jc:List (String×DataW Unit):=Rows.manyWorkersRow.laid
def Bb:List (String×DataW Unit):=Jc.filter λx=>x.2.handleName?.isNone
def Ro(hs:W.ShapedOpen prog)(h:laidMetH prog Jc W):∃K c4 L tp f l o,PE W K c4 L tp f l o/\∀s,Wld.m5 12 (qD (ZE W K c4 L tp f l o) s):=by
 have P : laidMet prog Bb W ∧ handlesMet prog [("errors.errorType", Rows.laid_errors_errorType)] W := h;let ⟨Q,R⟩:=P
 have d3 : laidMet prog (("internal/strconv.uint64pow10", Lib.tabData .u64 Lib.pow10Tab) :: ("unicode/utf8.acceptRanges", Rows.laid_unicode_utf8_acceptRanges) :: ("strconv.ErrRange", Rows.laid_strconv_ErrRange) :: ("strconv.ErrSyntax", Rows.laid_strconv_ErrSyntax) :: [("unicode/utf8.first", Rows.laid_unicode_utf8_first)]) W := Q.tail.tail;have r : Lib.TabIs prog W "internal/strconv.uint64pow10" .u64 Lib.pow10Tab := Lib.tabIs_of_head pow bt underlying340 underlying110 bt bt d3;obtain⟨f,l,s0,s1,k0,k1,t0,t1,H,I,y,-,-,A,-,-,S,B,C⟩:=laid_sentinels2 d3.tail.tail ran bt syn bt underlying47 row underlying375 underlying377 rfl rfl underlying9 bt bt;have c8:W.cell? (aA 8 0)=some (.iface 375 (.pointer (some f))):=by simpa using TR ran H 0
 have c7:W.cell? (aA 7 0)=some (.iface 375 (.pointer (some l))):=by simpa using TR syn I 0
 have c0:W.cell? (aA 0 0)=some (.iface 252 (.agg #[.pointer (some (aA 9 47))])):=by
  let ⟨D,u,T,V,X,Y,Z,M⟩:=R _ (bA.2 rfl)
  have en:D=[101,114,114,111,114]:=(bb V).symm;subst en;obtain rfl:=bb (rt.symm.trans X);have m:T∈(List.range 404).filter λt=>prog.rowNamed t [101,114,114,111,114]:=jH.2 ⟨mF.2 (acu▸Y),Z⟩;rw[Y4]at m;obtain rfl:=bA.1 m;have hk:typeHandle prog 47=.pointer (some (aA 9 47)):=bt;rw[hk]at M;simpa using TR et M 0
 have N:∀g,g=0\/g=7\/g=8->∃te v,cC W (aA g 0) (.iface te v):=λg q=>by
  rcases q with rfl|rfl|rfl
  exact⟨_,_,c0⟩;exact⟨_,_,c7⟩;exact⟨_,_,c8⟩
 let ⟨f0,ad⟩:=far hs y N
 let ⟨f1,J⟩:=far hs A N
 have d:∀g,g<9->((List.range 9).map (Rr prog))[g]?=some (Rr prog g):=λg E=>by simp[E]
 rw[aaW]at d;have one:∀{g t v},g<9->some (some (1,t,false,false))=some (Rr prog g)->W.cell? (aA g 0)=some v->W.heap[g]?=some (.cells #[v] t):=λ{g t v} E q j=>by
  let ⟨p,k1,G,_⟩:=rm hs E (bb q).symm
  rw[show W.cell? (aA g 0)=p[0]? from by simp[World.cell?,k1]]at j;rw[k1];have:p=#[v]:=by
   apply gB;intro i;rcases i with _|i
   rw[j];rfl;rw[cY ak];rfl
  rw[this]
 have F:∀{g n t},g<9->n≠0->some (some (n,t,true,true))=some (Rr prog g)->∃c t,W.heap[g]?=some (.cells c t)/\c.size≠0:=λ{g n t} E hn q=>by
  let ⟨p,k1,G,_⟩:=rm hs E (bb q).symm
  exact⟨p,t,k1,G▸hn⟩
 have O:∀{a:Addr} {c:Array Dv} {t:DU} {s:DS},W.heap[a.block]?=some (.cells c t)->W.cell? a=some (.string s)->c.size≠0:=λ{a c t s} q k e=>by
  unfold World.cell? at k;rw[q]at k;dsimp only at k;split at k;cases k;have:=(ar.1 k).1;omega
 have tb:W.heap[4]?=some (.cells (Lib.pow10Tab.map λz=>Value.int .u64 z).toArray 340):=by
  let ⟨p,k1,G,_⟩:=rm hs (g:=4) cn (bb (d 4 cn)).symm
  have j : W.var? prog "internal/strconv.uint64pow10" = some p := by simp [World.var?, pow, k1]
  rw [show W.var? prog "internal/strconv.uint64pow10" = _ from r] at j;rw[k1,bb j]
 have ti:∀(i:Nat) v,((Lib.pow10Tab.map λz=>Value.int .u64 z).toArray)[i]?=some v->Y0 v=true:=λi v q=>by
  simp at q;obtain⟨_,_,rfl⟩:=q;rfl
 let ⟨o,m⟩:∃o,(if f.block=l.block then 12 else f.block)=o:=⟨_,rfl⟩
 refine⟨#[.iface 252 _],_,λg=>if g=0 then 190 else if g=4 then 340 else 47,375,f,l,o,⟨λb q=>?_,one cn (d 0 cn) c0,λU q=>by simp[dx,qe,pV,bh,q],⟨?_,aB⟩,tb,λU=>Ns U ti,?_,one cn (d 7 cn) c7,one cn (d 8 cn) c8,f1,?_,?_,?_⟩,λs=>⟨rfl,⟨_,_,rfl⟩,⟨_,_,rfl⟩,?_,cn,aj _⟩⟩;rcases q with rfl|rfl|rfl|rfl|rfl|rfl|rfl|rfl
 exact F cn cn (d 1 cn);exact F cn cn (d 2 cn);exact F cn cn (d 3 cn);exact F cn cn (d 5 cn);exact F cn cn (d 6 cn);let ⟨c,t,k1,G,_⟩:=aaV hs
 exact⟨c,t,k1,ak⟩;exact⟨_,_,C,O C A⟩;subst m;split;exact⟨_,_,Rt hs,cn⟩;exact⟨_,_,B,O B y⟩;exact⟨λx q=>by obtain rfl:=bb q;exact⟨by show 9<12;decide,rfl⟩,aB⟩;exact K6 _ λv j=>by
  simp at j;obtain⟨_,_,rfl⟩:=j;rfl
 subst m;split;decide;exact f0;subst m;split;exact J;rename_i q;exactλe=>q e.symm;subst m;by_cases q:f.block=l.block;exact .inl q;exact .inr (ay q).symm;exact Lib.tabBelow_of_tabIs (w:=qD (ZE _ _ _ _ _ _ _ _) s) (by unfold Lib.TabIs World.var?;rw[pow];rfl)
end Many
namespace Leav
def xS(i:Looks){p:Pinned}{s:OpenSpec}{c:OpenClaim}(a:List LaidKind)(b:Bool)(d:Bool×String)(e:Bool)(hc:c.holds p s)(m:c.wfByText s=true)(g:c.laidByTextAt i p a b)(k:c.start=.entering)(l:c.noBlocks=false/\c.again=false)(n:p.checked.prog.mainIs=some (d.1,d.2.toList))(o:(!d.1&&d.2.isEmpty&&!e)=false)(q:∀f fn,p.checked.prog.funcNamed c.func=some f->p.checked.prog.funcs[f]?=some fn->e=p.checked.prog.looks []/\∀(j:Nat) t,fn.params[j]?=some t->p.checked.prog.wantsStandIn t=false)(r:true=c.goesBy p.checked.prog):
  Claim7.holds p (.plain s) {stood:={row:=c,standIns:=[],harness:=d,looks:=e},kinds:=[],alts:=[],goes:=true,laidByText:=true,laidKinds:=a,laidTests:=b,laidLooks:=i}:=by
 have u:Claim7.isSixth {stood:={row:=c,standIns:=[],harness:=d,looks:=e},kinds:=[]} = false:=by simpa[Claim7.isSixth] using o
 exact⟨Claim7.tied_new_at i a b (Claim7.new_of_sixth hc d e k l n u q) m,(λD v=>by cases v),g,(λh=>by cases h),r⟩
end Leav
namespace Many
variable{W:Ba}
def own:ownKnob prog.godebug=none:=bt
def VS:laidOutB prog=true:=bt
def FM{H:Type}{enc:DU×Dv->H}{a:Assume}{C:Checked}{os:Os}{f:FuncId}{fn:Func}{s:ChangeSpec}{h:List PathCond}{b k g l:Bool}{X:Ba->Array Dv->Prop}(F:∀(w w':Ba) (args:Array Dv),w.heap=w'.heap->X w args->X w' args)(own:ownKnob C.prog.godebug=none)(m:os.Started)(z:C.prog.funcs[f]?=some fn)(n:∃(w:Ba) (c:Tape) (i:Input),w.os=os/\(w.forCall c i).Shaped C.prog/\i.vars=[]/\Input.okWide C.prog (w.forCall c i) .any w.heap.size f i/\((s.pre enc C.prog fn h b (w.forCall c i).memory i.args/\X (w.forCall c i).memory i.args)/\sizedMet enc C.prog fn (OpenSpec.ofChange s) b (w.forCall c i).memory i.args)/\a.holds C.prog (lone (Frame.enter C.prog f i.args .normal) [] (w.forCall c i)))(p:∀(W:Ba) (base:Nat) (args:Array Dv) (x y:List (DataW H)) (d:List MemPlace),W.ShapedOpen C.prog ->
   (∀(j:Nat) t v,fn.params[j]?=some t->args[j]?=some v->Value.okWide C.prog W .any base t v)->DataW.Whole enc C.prog fn.params.toList s.vars b W args.toList x y d ->
   (DataW.weightsEach C.prog (fn.params.toList++s.plain.varTypes C.prog) (x++y)).all (·<=reachBytes)=true->X W args ->
   i7 C.prog (λv w'=>s.post enc C.prog fn b k g l W args v w') (crowd #[G (Frame.enter C.prog f args .normal) []] W none) #[]):
  ReturnsInLeavingWide a C os f .any (λw args=>(s.pre enc C.prog fn h b w args/\X w args)/\sizedMet enc C.prog fn (OpenSpec.ofChange s) b w args) (s.post enc C.prog fn b k g l):=by
 refine returnsInLeavingWide_of_good own m n ?_;intro w c i _ A _ B q _;obtain⟨_,_,_,D,r,_,_,_,_,u⟩:=B;have e:D=fn:=bb (r.symm.trans z);subst e;obtain⟨⟨⟨x,y,d,E,_⟩,I⟩,J⟩:=q;obtain⟨N,last,o,w',K,L,M,O,v,e,P,Q⟩:=p (w.forCall c i) w.heap.size i.args x y d A u (DataW.Whole.of_heap (w':=w.forCall c i) (by rfl) E) (J.weights E) (F _ _ _ (by rfl) I);exact⟨N,last,o,w',K,L,M,O,v,e,ChangeSpec.post_blind P,Q⟩
def Rs{H:Type}{enc:DU×Dv->H}{base:Nat}{f:Bool}{g:Nat}{ao:Option Addr}{j m:Nat}{x:DataW H×List MemPlace}(h:DataW.trod enc prog W base (λ_=>true) f g 55 [.slice ao j m]=some x):∃u,wU (FW W) W ao j u:=by
 rcases open_strings underlying55 underlying9 bt h with⟨e,_⟩|⟨a,q,r,s,e,_,w,_,v,_,hc,_⟩
 simp at e;obtain⟨rfl,rfl,rfl⟩:=e;exact⟨λ_=>ByteArray.empty,λp t=>absurd t (gV _)⟩;simp at e;obtain⟨rfl,rfl,rfl⟩:=e;refine⟨λp=>s.getD p ByteArray.empty,λp t=>?_⟩;obtain⟨b,c,k⟩:=a;have n:p<s.length:=by rw[v];simp;omega
 have o:=hc p n;have h0:=hc 0 ak;have d:k=none:=by simpa[Addr.add] using World.cell?_spot h0
 subst d;have l:∀i,((aA b c):Addr).add i=(aA b (c+i)):=λi=>by unfold Addr.add;split<;>simp_all
 rw[l]at o;exact⟨b,c,rfl,cz _ _ o,o⟩
def FL{w:Ba}(h:Eqv.mJ W w):Below W.heap.size W {w with tape:=W.tape}:=⟨h.1,rfl,h.2.1,h.2.2.1,h.2.2.2⟩
def VR{w':Ba}(h:Eqv.mJ W w'){a:MemPlace->Prop}:W.keptBut w' a:=⟨h.1,h.2.1,λi b=>by rw[h.2.2.2 i b];split<;>simp_all⟩
def Rn:Wld.kX cQ=cR:=Wld.Lo
def Rq{W1:Ba}(a:∀s,Wld.m5 12 (qD W1 s))(t:DS)(b:t.size<=1500)(s:Pu):Calls prog 19 #[.string t] (qD W1 s) λe _=>∃v,e=.returned v/\v=.string (Wld.kX t):=
 (Wld.nH t (a s) ak).mono λe c h=>⟨_,h.1,rfl⟩
def acs{H:Type}{enc:DU×Dv->H}(W:Ba)(base:Nat)(args:Array Dv)(o F:List (DataW H))(c:List MemPlace)(g:W.ShapedOpen prog)(b:∀(j:Nat) t v,f5.params[j]?=some t->args[j]?=some v->Value.okWide prog W .any base t v)(r:DataW.Whole enc prog f5.params.toList Rows.manyWorkersSpec.vars false W args.toList o F c)(I:laidMetH prog Jc W):
  i7 prog (λv d=>Rows.manyWorkersSpec.post enc prog f5 false true false false W args v d) (crowd #[G (Frame.enter prog 5 args .normal) []] W none) #[]:=by
 have a:=b;have e:=r;obtain⟨p,q,f,J,rfl,K,L⟩:=r;have u:DataW.TrodAll enc prog W 0 (λ_=>true) true f5.params.toList args.toList o p:=f;rw[params5]at u a;obtain⟨z,M,d0,N,O,q0,i,rfl,rfl,h0,P⟩:=trodAll_cons u;obtain⟨A,Q,d1,R,p1,q1,rfl,rfl,rfl,S,T⟩:=trodAll_cons P;obtain⟨B,V,d2,X,p2,q2,rfl,rfl,rfl,Y,Z⟩:=trodAll_cons T;obtain⟨rfl,rfl,rfl⟩:=trodAll_nil Z;obtain rfl:args=#[z,A,B]:=by cases args;simp_all
 obtain⟨rfl,rfl⟩:=trodVars_none J;obtain⟨x,rfl,rfl,rfl,w1⟩:=open_int underlying3 (a 1 3 A rfl rfl) S;obtain⟨y,rfl,rfl,rfl,w2⟩:=open_int underlying3 (a 2 3 B rfl rfl) Y;obtain⟨ao,k,ad,rfl⟩:=okWide_slice underlying55 (a 0 55 z rfl rfl);obtain⟨C,l⟩:∃C,wU (FW W) W ao k C:=by
  obtain⟨D,hf⟩:=h0;exact Rs hf
 clear f b;obtain⟨o0,c4,tt,tp,a0,a1,m2,m,n⟩:=Ro g I;obtain⟨U,hS⟩:=YF m;rw[Yh];refine FA l hS (λt ht s=>Rq n t ak s) Rn λd E=>?_;exact⟨_,_,_,[],O++([]++([]++[])),[],e,trodAll_cons_mk (shut_bool underlying4 _) trodAll_mk0,trodAll_cons_mk (DataW.Trod.of_heap (w:={d with tape:=W.tape}) (w':=d) rfl (Below.trod VS bt (gT bt) h0 (FL E) (λx hx=>by simpa using e.lt x (by simp[hx])))) (trodAll_cons_mk (shut_int underlying3 w1) (trodAll_cons_mk (shut_int underlying3 w2) trodAll_mk0)),rfl,VR E,λh=>by cases h⟩
end Many
end Go.Proofs.YtbebfliimjjohabGreatDoor
