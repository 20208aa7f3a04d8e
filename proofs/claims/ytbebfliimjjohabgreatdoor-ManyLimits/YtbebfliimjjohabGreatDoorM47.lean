/- Parts of the proof. -/
import Derived.Test.YtbebfliimjjohabGreatDoorM46
import Derived.Stop.LaidTwo
import Derived.Conc.Holds
import Derived.Test.YtbebfliimjjohabGreatDoorTie
import Derived.Test.YtbebfliimjjohabGreatDoorCards
import Derived.Lay
import Derived.Test.YtbebfliimjjohabGreatDoorM38
set_option maxRecDepth 100000
set_option maxHeartbeats 8000000
set_option linter.all false
open Go.Proofs.Tryz
namespace Go.Proofs.YtbebfliimjjohabGreatDoor
open Go.ChangeShapes Go.WideShapes Go.ChangeAt Go.RowKit Go.Eqv Go Go.Conc Wld
namespace Many
variable{b:Bool}{n:Nat}{W:A1}
def et : prog.globalNamed "errors.errorType" = some 0 := by kernel_rfl
def rt : (prog.cutTypes.find? (·.1 == "internal/reflectlite.rtype")).map (·.2) = some 252 := by kernel_rfl
def aaX:((List.range 404).filter λt=>prog.rowNamed t [101,114,114,111,114])=[47]:=by kernel_rfl
def aey:prog.types.size=404:=by kernel_rfl
def pow : prog.globalNamed "internal/strconv.uint64pow10" = some 4 := by kernel_rfl
def syn : prog.globalNamed "strconv.ErrSyntax" = some 7 := by kernel_rfl
def ran : prog.globalNamed "strconv.ErrRange" = some 8 := by kernel_rfl
def acR : "*" ++ "errors.errorString" = "*errors.errorString" := by decide
def row(u : TypeId)(h : prog.typeName? 3 u = some "*errors.errorString") : u = 375 :=
 typeName_ptr_named (nm := "errors.errorString") (by rw [acR]; kernel_rfl) (by kernel_rfl) (by decide) u (by rw [acR]; exact h)
def Tz(P:Program)(g:Nat):Option (Nat×TypeId×Bool×Bool):=(((begin P (λ_ _=>0) default).world.heap[g]?).bind Obj.row?).map λr=>(r.1.size,r.2,P.buildable r.2,((P.cellTypes P.depth r.2).map λa=>a.all λu=>match P.underlying u with|some (.int _)=>true|_=>false)==some true)
def acQ:(List.range 9).map (Tz prog)=[some (1,190,false,false),some (256,325,true,true),some (32,328,true,true),some (1,3,true,true),some (20,340,true,true),some (32,364,true,true),some (64,365,true,true),some (1,47,false,false),some (1,47,false,false)]:=by kernel_rfl
def isI:Value->Bool
 |.int _ _=>true
 |_=>false
def ok9:Option Obj->Bool
 |some (.cells c _ (0,0))=>c.toList.all isI&&c.size==404
 |_=>false
def w9:ok9 (begin prog (λ_ _=>0) default).world.heap[9]?=true:=by kernel_rfl
def w12:(begin prog (λ_ _=>0) default).world.heap[12]?=some (.cells #[.bool false] 0):=by kernel_rfl
def Pw(h:(some b==some true)=true):b=true:=by simpa using h
def sE(hs:W.ShapedOpen prog){g:Nat}{t:Bi}{c:Bool}(o:g<9)(h:Tz prog g=some (n,t,b,c)):∃d,W.heap[g]?=some (.cells d t)/\d.size=n/\(b=true->c=true->∀(i:Nat) v,d[i]?=some v->isI v=true):=by
 unfold Tz at h;let ⟨⟨zero,p⟩,r,l⟩:=bV.1 h
 simp at l;obtain⟨s,rfl,w,m⟩:=l;let ⟨d,k1,x,y⟩:=hs.1 g zero p (by rw[iV];exact o) r
 refine⟨d,k1,x.trans s,λz hc i v A=>?_⟩;subst z hc;let ⟨C,j,_,e⟩:=y w
 rw[j]at m;let ⟨u,B,a⟩:=e i v A
 have f:(match prog.underlying u with|some (.int _)=>true|_=>false)=true:=dh.1 (Pw m) u (bC B);unfold Cell.ok at a;split at f;rename_i k q;rw[q]at a;cases v<;>first|rfl|exact a.elim
 cases f
def acO(hs:W.ShapedOpen prog):∃c t,W.heap[9]?=some (.cells c t)/\c.size=404/\∀(i:Nat) v,c[i]?=some v->isI v=true:=by
 have h:=w9;unfold ok9 at h;split at h;rename_i c t q;obtain⟨o,d,e,b,a⟩:=hs.2 9 (by rw[iV];exact aa _) (am.1 q).1;rw[iV]at a;have a:o=d:=a;rw[q]at b;obtain rfl:=aZ b;subst a;simp only[bh,j7]at h;exact⟨c,t,e,h.2,λi v f=>dh.1 h.1 v (Array.mem_toList_iff.2 (dU f))⟩;cases h
def TA(hs:W.ShapedOpen prog):W.heap[12]?=some (.cells #[.bool false] 0):=by
 let ⟨o,d,c,a,b⟩:=hs.2 12 (by rw[iV];decide) (am.1 w12).1
 rw[iV]at b;rw[w12]at a;obtain rfl:=aZ a;rw[c,b]
def far(hs:W.ShapedOpen prog){a:Addr}{s:Bh}(w:W.cell? a=some (.string s))(A:∀g,g=0\/g=7\/g=8->∃x v,W.cell? ⟨g,0,none⟩=some (.iface x v)):10<=a.block/\a.block≠12:=by
 let ⟨b,f,B⟩:=a
 have r:B=none:=World.cell?_spot w;subst r;have l:∀h t,W.heap[b]?=some (.cells h t)->h[f]?=some (.string s):=λh t q=>by
  have:W.cell? (aA b f)=h[f]?:=by simp[World.cell?,q]
  rw[<-this];exact w
 have o:∀h t,W.heap[b]?=some (.cells h t)->(∀(i:Nat) v,h[i]?=some v->isI v=true)->False:=λh t q k=>by
  have:=k f _ (l h t q);cases this
 have d:∀g,g<9->((List.range 9).map (Tz prog))[g]?=some (Tz prog g):=λg C=>by simp[C]
 rw[acQ]at d;refine⟨Nat.le_of_not_lt λp=>?_,λe=>?_⟩;have j:∀n t,b<9->some (some (n,t,true,true))=some (Tz prog b)->False:=λn t p q=>by
  let ⟨h,k1,_,u⟩:=sE hs p (aZ q).symm
  exact o h t k1 (u rfl rfl)
 have m:∀t,b<9->(b=0\/b=7\/b=8)->some (some (1,t,false,false))=some (Tz prog b)->False:=λt p D q=>by
  let ⟨h,k1,E,_⟩:=sE hs p (aZ q).symm
  let ⟨x,v,y⟩:=A b D
  have z:=l h t k1;have h0:f=0:=by
   have:=(am.1 z).1;omega
  subst h0;rw[show W.cell? (aA b 0)=h[0]? from by simp[World.cell?,k1],z]at y;cases y
 have:b=0\/b=1\/b=2\/b=3\/b=4\/b=5\/b=6\/b=7\/b=8\/b=9:=by simp at p;omega
 rcases this with rfl|rfl|rfl|rfl|rfl|rfl|rfl|rfl|rfl|rfl
 exact m 190 (by decide) (by simp) (d 0 (by decide));exact j 256 325 (by decide) (d 1 (by decide));exact j 32 328 (by decide) (d 2 (by decide));exact j 1 3 (by decide) (d 3 (by decide));exact j 20 340 (by decide) (d 4 (by decide));exact j 32 364 (by decide) (d 5 (by decide));exact j 64 365 (by decide) (d 6 (by decide));exact m 47 (by decide) (by simp) (d 7 (by decide));exact m 47 (by decide) (by simp) (d 8 (by decide));let ⟨c,t,k1,_,u⟩:=acO hs
 exact o c t k1 u;have e:b=12:=e;subst e;have:=l _ _ (TA hs);rcases f with _|f<;>simp at this
def Pv(U:Pm){c:Array Bg}(h:∀(i:Nat) v,c[i]?=some v->isI v=true):dI U c=c:=by
 rw[dR];apply ib;intro i;rw[cD];cases q:c[i]? with
 |none=>rfl
 |some v=>have:=h i v q;cases v<;>first|rfl|cases this
def MW{κ:ju}:∀(l:List Bg),(∀v∈l,isI v=true)->rh κ n l
 | [],_=>aE
 |v::l,h=>⟨(by have:=h v (by simp);cases v<;>first|trivial|cases this),MW l λx a=>h x (by simp[a])⟩
def Kv:List (String×DataW Unit):=Rows.manyWorkersRow.laid
def B7:List (String×DataW Unit):=Kv.filter λx=>x.2.handleName?.isNone
def Tx(hs:W.ShapedOpen prog)(h:laidMetH prog Kv W):∃K c4 L tp f l o,Rq W K c4 L tp f l o/\∀s,Wld.oD 12 (nh (shW W K c4 L tp f l o) s):=by
 have P : laidMet prog B7 W ∧ handlesMet prog [("errors.errorType", Rows.laid_errors_errorType)] W := h;let ⟨hd,Q⟩:=P
 have d3 : laidMet prog (("internal/strconv.uint64pow10", Lib.tabData .u64 Lib.pow10Tab) :: ("unicode/utf8.acceptRanges", Rows.laid_unicode_utf8_acceptRanges) :: ("strconv.ErrRange", Rows.laid_strconv_ErrRange) :: ("strconv.ErrSyntax", Rows.laid_strconv_ErrSyntax) :: [("unicode/utf8.first", Rows.laid_unicode_utf8_first)]) W := hd.tail.tail;have r : Lib.TabIs prog W "internal/strconv.uint64pow10" .u64 Lib.pow10Tab := Lib.tabIs_of_head pow (by kernel_rfl) underlying340 underlying110 (by kernel_rfl) (by kernel_rfl) d3;obtain⟨f,l,s0,s1,k0,k1,t0,t1,H,I,y,-,-,A,-,-,R,B,C⟩:=laid_sentinels2 d3.tail.tail ran (by kernel_rfl) syn (by kernel_rfl) underlying47 row underlying375 underlying377 rfl rfl underlying9 (by kernel_rfl) (by kernel_rfl);have c8:W.cell? (aA 8 0)=some (.iface 375 (.pointer (some f))):=by simpa using VF ran H 0
 have c7:W.cell? (aA 7 0)=some (.iface 375 (.pointer (some l))):=by simpa using VF syn I 0
 have c0:W.cell? (aA 0 0)=some (.iface 252 (.agg #[.pointer (some (aA 9 47))])):=by
  let ⟨D,u,S,T,V,X,Y,M⟩:=Q _ (aL.2 rfl)
  have Z:D=[101,114,114,111,114]:=(aZ T).symm;subst Z;obtain rfl:=aZ (rt.symm.trans V);have m:S∈(List.range 404).filter λt=>prog.rowNamed t [101,114,114,111,114]:=gR.2 ⟨lh.2 (by rw[<-aey];exact X),Y⟩;rw[aaX]at m;obtain rfl:=aL.1 m;have hk:typeHandle prog 47=.pointer (some (aA 9 47)):=by kernel_rfl
  rw[hk]at M;simpa using VF et M 0
 have N:∀g,g=0\/g=7\/g=8->∃te v,cC W (aA g 0) (.iface te v):=λg q=>by
  rcases q with rfl|rfl|rfl
  exact⟨_,_,c0⟩;exact⟨_,_,c7⟩;exact⟨_,_,c8⟩
 let ⟨f0,ad⟩:=far hs y N
 let ⟨f1,J⟩:=far hs A N
 have d:∀g,g<9->((List.range 9).map (Tz prog))[g]?=some (Tz prog g):=λg E=>by simp[E]
 rw[acQ]at d;have one:∀{g t v},g<9->some (some (1,t,false,false))=some (Tz prog g)->W.cell? (aA g 0)=some v->W.heap[g]?=some (.cells #[v] t):=λ{g t v} E q j=>by
  let ⟨p,k1,G,_⟩:=sE hs E (aZ q).symm
  rw[show W.cell? (aA g 0)=p[0]? from by simp[World.cell?,k1]]at j;rw[k1];have:p=#[v]:=by
   apply ib;intro i;rcases i with _|i
   rw[j];rfl;rw[dx (by omega)];rfl
  rw[this]
 have F:∀{g n t},g<9->n≠0->some (some (n,t,true,true))=some (Tz prog g)->∃c t,W.heap[g]?=some (.cells c t)/\c.size≠0:=λ{g n t} E hn q=>by
  let ⟨p,k1,G,_⟩:=sE hs E (aZ q).symm
  exact⟨p,t,k1,by rw[G];exact hn⟩
 have O:∀{a:Addr} {c:Array Bg} {t:Bi} {s:Bh},W.heap[a.block]?=some (.cells c t)->W.cell? a=some (.string s)->c.size≠0:=λ{a c t s} q k e=>by
  unfold World.cell? at k;rw[q]at k;dsimp only at k;split at k;cases k;have:=(am.1 k).1;omega
 have tb:W.heap[4]?=some (.cells (Lib.pow10Tab.map λz=>Value.int .u64 z).toArray 340):=by
  let ⟨p,k1,G,_⟩:=sE hs (g:=4) (by decide) (aZ (d 4 (by decide))).symm
  have j : W.var? prog "internal/strconv.uint64pow10" = some p := by simp [World.var?, pow, k1]
  rw [show W.var? prog "internal/strconv.uint64pow10" = _ from r] at j;rw[k1,aZ j]
 have ti:∀(i:Nat) v,((Lib.pow10Tab.map λz=>Value.int .u64 z).toArray)[i]?=some v->isI v=true:=λi v q=>by
  simp at q;obtain⟨_,_,rfl⟩:=q;rfl
 let ⟨o,m⟩:∃o,(if f.block=l.block then 12 else f.block)=o:=⟨_,rfl⟩
 refine⟨#[.iface 252 _],_,λg=>if g=0 then 190 else if g=4 then 340 else 47,375,f,l,o,⟨λb q=>?_,one (by decide) (d 0 (by decide)) c0,λU q=>by simp[dI,qj,pV,br,q],⟨?_,aE⟩,tb,λU=>Pv U ti,?_,one (by decide) (d 7 (by decide)) c7,one (by decide) (d 8 (by decide)) c8,f1,?_,?_,?_⟩,λs=>⟨rfl,⟨_,_,rfl⟩,⟨_,_,rfl⟩,?_,by decide,aa _⟩⟩;rcases q with rfl|rfl|rfl|rfl|rfl|rfl|rfl|rfl
 exact F (by decide) (by decide) (d 1 (by decide));exact F (by decide) (by decide) (d 2 (by decide));exact F (by decide) (by decide) (d 3 (by decide));exact F (by decide) (by decide) (d 5 (by decide));exact F (by decide) (by decide) (d 6 (by decide));let ⟨c,t,k1,G,_⟩:=acO hs
 exact⟨c,t,k1,by omega⟩;exact⟨_,_,C,O C A⟩;subst m;split;exact⟨_,_,TA hs,by decide⟩;exact⟨_,_,B,O B y⟩;exact⟨λx q=>by obtain rfl:=aZ q;exact⟨by show 9<12;decide,rfl⟩,aE⟩;exact MW _ λv j=>by
  simp at j;obtain⟨_,_,rfl⟩:=j;rfl
 subst m;split;decide;exact f0;subst m;split;exact J;rename_i q;exactλe=>q e.symm;subst m;by_cases q:f.block=l.block;exact .inl q;exact .inr (ax q).symm;exact Lib.tabBelow_of_tabIs (w:=nh (shW _ _ _ _ _ _ _ _) s) (by unfold Lib.TabIs World.var?;rw[pow];rfl)
end Many
namespace Leav
def yM(i:Looks){p:Pinned}{s:OpenSpec}{c:OpenClaim}(a:List LaidKind)(b:Bool)(d:Bool×String)(e:Bool)(hc:c.holds p s)(m:c.wfByText s=true)(g:c.laidByTextAt i p a b)(k:c.start=.entering)(l:c.noBlocks=false/\c.again=false)(n:p.checked.prog.mainIs=some (d.1,d.2.toList))(o:(!d.1&&d.2.isEmpty&&!e)=false)(q:∀f fn,p.checked.prog.funcNamed c.func=some f->p.checked.prog.funcs[f]?=some fn->e=p.checked.prog.looks []/\∀(j:Nat) t,fn.params[j]?=some t->p.checked.prog.wantsStandIn t=false)(r:true=c.goesBy p.checked.prog):
  Claim7.holds p (.plain s) {stood:={row:=c,standIns:=[],harness:=d,looks:=e},kinds:=[],alts:=[],goes:=true,laidByText:=true,laidKinds:=a,laidTests:=b,laidLooks:=i}:=by
 have u:Claim7.isSixth {stood:={row:=c,standIns:=[],harness:=d,looks:=e},kinds:=[]} = false:=by simpa[Claim7.isSixth] using o
 exact⟨Claim7.tied_new_at i a b (Claim7.new_of_sixth hc d e k l n u q) m,(λD v=>by cases v),g,(λh=>by cases h),r⟩
end Leav
namespace Many
variable{n i:Nat}{W1:A1}
def own:ownKnob prog.godebug=none:=by kernel_rfl
def He{H:Type}{enc:Bi×Bg->H}{a:Assume}{C:Checked}{os:Os}{f:FuncId}{fn:Func}{s:ChangeSpec}{h:List PathCond}{b k g l:Bool}{X:A1->Array Bg->Prop}(F:∀(w w':A1) (args:Array Bg),w.heap=w'.heap->X w args->X w' args)(own:ownKnob C.prog.godebug=none)(m:os.Started)(z:C.prog.funcs[f]?=some fn)(n:∃(w:A1) (c:Tape) (i:Input),w.os=os/\(w.forCall c i).Shaped C.prog/\i.vars=[]/\Input.okWide C.prog (w.forCall c i) .any w.heap.size f i/\((s.pre enc C.prog fn h b (w.forCall c i).memory i.args/\X (w.forCall c i).memory i.args)/\sizedMet enc C.prog fn (OpenSpec.ofChange s) b (w.forCall c i).memory i.args)/\a.holds C.prog (lone (Frame.enter C.prog f i.args .normal) [] (w.forCall c i)))(p:∀(W:A1) (base:Nat) (args:Array Bg) (x y:List (DataW H)) (d:List MemPlace),W.ShapedOpen C.prog ->
   (∀(j:Nat) t v,fn.params[j]?=some t->args[j]?=some v->Value.okWide C.prog W .any base t v)->DataW.Whole enc C.prog fn.params.toList s.vars b W args.toList x y d ->
   (DataW.weightsEach C.prog (fn.params.toList++s.plain.varTypes C.prog) (x++y)).all (·<=reachBytes)=true->X W args ->
   iq C.prog (λv w'=>s.post enc C.prog fn b k g l W args v w') (crowd #[G (Frame.enter C.prog f args .normal) []] W none) #[]):
  ReturnsInLeavingWide a C os f .any (λw args=>(s.pre enc C.prog fn h b w args/\X w args)/\sizedMet enc C.prog fn (OpenSpec.ofChange s) b w args) (s.post enc C.prog fn b k g l):=by
 refine returnsInLeavingWide_of_good own m n ?_;intro w c i _ A _ B q _;obtain⟨_,_,_,D,r,_,_,_,_,u⟩:=B;have e:D=fn:=aZ (r.symm.trans z);subst e;obtain⟨⟨⟨x,y,d,E,_⟩,I⟩,J⟩:=q;obtain⟨N,last,o,w',K,L,M,O,v,e,P,Q⟩:=p (w.forCall c i) w.heap.size i.args x y d A u (DataW.Whole.of_heap (w':=w.forCall c i) (by rfl) E) (J.weights E) (F _ _ _ (by rfl) I);exact⟨N,last,o,w',K,L,M,O,v,e,ChangeSpec.post_blind P,Q⟩
def XC{W w':A1}(h:Eqv.lp W w'){a:MemPlace->Prop}:W.keptBut w' a:=⟨h.1,h.2.1,λi b=>by rw[h.2.2.2 i b];split<;>simp_all⟩
def Tw:Wld.ny cQ=cR:=Wld.Ye
def E6(n:Nat):(xs n).data.toList=List.replicate n 120:=by simp[xs]
def qL(n:Nat):(xs n).size=n:=by show (List.replicate n (120:UInt8)).toArray.size=n;simp
def aaY(h:i<n):(xs n).get! i=120:=by
 show (List.replicate n (120:UInt8)).toArray[i]! = 120;simp[h]
def TC(h:i<n):Utf8.decode (xs n) i=(120,1):=by
 simp only[Utf8.decode,lL,aaY h];rfl
def MX{a:Nat}:∀(f b:Nat),Lib.spansFromP qT (xs n) f b (some a) []=([],some a)
 |0,_=>rfl
 |f+1,b=>by
  unfold Lib.spansFromP;split;rename_i h;rw[qL]at h;rw[TC h];exact MX f (b+1);rfl
def A8(h:0<n):iE (xs n)=[xs n]:=by
 unfold iE Lib.goFieldsP Lib.spansOfP;obtain⟨m,rfl⟩:∃m,n=m+1:=⟨n-1,by omega⟩;have e:Lib.spansFromP qT (xs (m+1)) (xs (m+1)).size 0 none []=([],some 0):=by
  rw[qL];unfold Lib.spansFromP;rw[az (by rw[qL];omega),TC h];exact MX m 1
 rw[e];show [(xs (m+1)).extract 0 (xs (m+1)).size]=_;rw[IH (List.prefix_refl _)]
def E7(n:Nat):kW (xs n)=xs n:=by
 unfold kW Lib.trimSuffix;rw[ax λh=>?_];rw[E6]at h;unfold Lib.hasSuffix at h;rcases n with _|n
 simp at h;rw[List.replicate_succ']at h;simp at h
def TB:∀n:Nat,kY (List.replicate n 120)=[List.replicate n 120]
 |0=>rfl
 |n+1=>by
  rw[lT,kY,ax (by decide),TB n]
def A7(n:Nat):dp (xs n)=[xs n]:=by
 unfold dp;rw[E6,TB];rfl
def MV:∀(L:List (Bh×Nat)) (n:Nat),(L.all λp=>match p.1.data.toList with|c::_=>c != 120|[]=>false)=true->iQ L (xs n)=none
 | [],_,_=>rfl
 |(y,f)::t,n,h=>by
  rw[Co,bh]at h;have b:xs n≠y:=λe=>by
   have a:=h.1;have d:=bY (λz:Bh=>z.data.toList) e;simp only[E6]at d;dsimp only at a;rw[<-d]at a;rcases n with _|n
   cases a;simp[lT]at a
  rw[iQ,ax b];exact MV t n h.2
def A6(n:Nat):iQ dF (xs n)=none:=MV dF n (by decide)
def XH(h:0<n)(s:Wd):lI (xs n) s=(.inr 3,s):=by
 unfold lI;rw[A8 h];dsimp only;rw[A6]
def XG(h:0<n):jH (dp (kW (xs n)))<=800000000:=by
 rw[E7,A7];show oh (xs n)+0<=_;unfold oh;rw[A8 h];dsimp only;rw[A6];decide
def aet:(⟨((jY 3).data.toList++[10]).toArray⟩:Bh)=⟨#[101,114,114,111,114,32,51,10]⟩:=by kernel_rfl
def XI(n:Nat):ny (xs n)=Pa n:=by
 unfold ny Pa;rw[qL];by_cases a:20000<n;rw[az a,az a];kernel_rfl;rw[ax a,ax a];by_cases b:n=0;subst b;rw[az rfl];kernel_rfl;rw[ax b,E7,A7];have:jz [xs n] s0=(jY 3).data.toList++[10]:=by
  show (nu (xs n) s0).data.toList++[10]=_;unfold nu;rw[XH (by omega)]
 rw[this];exact aet
def Ty(a:∀s,oD 12 (nh W1 s)){t:Bh}(d:t.size<=1500)(b:jH (dp (kW t))<=800000000)(c:qqe (dp (kW t)) s0=true){s:Mj}:Calls prog 19 #[.string t] (nh W1 s) λe _=>∃v,e=.returned v/\v=.string (ny t):=
 (ul (a s) (by omega) b c).mono λe f h=>⟨_,h.1,rfl⟩
def XF(b:∀s,oD 12 (nh W1 s))(n:Nat)(f:n<30000)(s:Mj):Calls prog 19 #[.string (xs n)] (nh W1 s) λe _=>∃v,e=.returned v/\v=.string (Pa n):=by
 rw[<-XI];by_cases c:20000<n;exact(FK (xs n) (by rw[qL];exact c) (by rw[qL];omega)).mono λe d h=>⟨_,h.1,rfl⟩;rcases fK n with rfl|a
 exact Ty b (by decide) (by decide+kernel) (by kernel_rfl);exact(ul (b s) (by rw[qL];omega) (XG a) (by rw[E7,A7];unfold qqe nu;rw[XH a];simp[qqe,QO,A8 a,A6];decide+kernel)).mono λe d h=>⟨_,h.1,rfl⟩
def XE(a:∀s,oD 12 (nh W1 s))(s:Mj):Calls prog 19 #[.string ⟨#[]⟩] (nh W1 s) λe _=>∃v,e=.returned v/\v=.string ⟨#[111,107,10]⟩:=by
 have:ny ⟨#[]⟩=⟨#[111,107,10]⟩:=by kernel_rfl
 rw[<-this];exact Ty a (by decide) (by decide+kernel) (by kernel_rfl)
def acP{H:Type}{enc:Bi×Bg->H}(W:A1)(base:Nat)(args:Array Bg)(o C:List (DataW H))(c:List MemPlace)(g:W.ShapedOpen prog)(f:∀(j:Nat) t v,f6.params[j]?=some t->args[j]?=some v->Value.okWide prog W .any base t v)(r:DataW.Whole enc prog f6.params.toList Rows.manyLimitsSpec.vars false W args.toList o C c)(D:laidMetH prog Kv W):
  iq prog (λv i=>Rows.manyLimitsSpec.post enc prog f6 false true false false W args v i) (crowd #[G (Frame.enter prog 6 args .normal) []] W none) #[]:=by
 have a:=f;have k:=r;obtain⟨p,q,l,E,rfl,F,I⟩:=r;have u:DataW.TrodAll enc prog W 0 (λ_=>true) true f6.params.toList args.toList o p:=l;rw[params6]at u a;obtain⟨w,J,Z,K,p0,q0,m,rfl,rfl,h0,L⟩:=trodAll_cons u;obtain⟨A,M,d1,N,p1,q1,rfl,rfl,rfl,O,P⟩:=trodAll_cons L;obtain⟨B,Q,d2,R,p2,q2,rfl,rfl,rfl,S,T⟩:=trodAll_cons P;obtain⟨rfl,rfl,rfl⟩:=trodAll_nil T;obtain rfl:args=#[w,A,B]:=by cases args;simp_all
 obtain⟨rfl,rfl⟩:=trodVars_none E;obtain⟨x,rfl,rfl,rfl,V⟩:=open_int underlying3 (a 0 3 w rfl rfl) h0;obtain⟨y,rfl,rfl,rfl,w1⟩:=open_int underlying3 (a 1 3 A rfl rfl) O;obtain⟨z,rfl,rfl,rfl,w2⟩:=open_int underlying3 (a 2 3 B rfl rfl) S

 let ⟨o0,c4,tt,tp,a0,a1,m2,n,d⟩:=Tx g D
 let ⟨U,X⟩:=aaz n
 rw[ZZ];refine JG X (λs=>by rw[<-Tw];exact Ty d (t:=cQ) (by decide) (by decide+kernel) (by kernel_rfl)) (XE d) (XF d) (λs=>(Bare.uF 4 (d s).b).mono λe i h=>⟨_,h.1,rfl⟩) λi Y=>?_;exact⟨_,_,_,[],[]++([]++([]++[])),[],k,trodAll_cons_mk (shut_bool underlying4 _) trodAll_mk0,trodAll_cons_mk (shut_int underlying3 V) (trodAll_cons_mk (shut_int underlying3 w1) (trodAll_cons_mk (shut_int underlying3 w2) trodAll_mk0)),rfl,XC Y,λh=>by cases h⟩
end Many
end Go.Proofs.YtbebfliimjjohabGreatDoor
