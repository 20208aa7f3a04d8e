/- Parts of the proof. -/
import Derived.Test.YtbebfliimjjohabGreatDoorM22
set_option maxRecDepth 100000
set_option maxHeartbeats 8000000
set_option linter.all false
open Go.Proofs.Tryz
namespace Go.Proofs.YtbebfliimjjohabGreatDoor
open Go.RowKit Go.Maps
open Lease (Ob fN ic ek dH mx bQ dW lX xR fN.e kF lC mW)
open Cache (bV E tp kp eH mj qE)
open Num (M lY fO dq)
open Wire (iv)
namespace Wld
variable{ml:Bool}{md:DS}{mc mn me ms mo mv:Int}{c:Nat}{w:Ba}
def K.I(k:K)(m:M):K×List M:=
 if m.k=9 then (k.ai m,[k.a3 m])
 else if m.c≠k.id then (k,[])
 else if m.k=7/\m.n=k.eJ then (k.al m.e m.s,[])
 else if m.k=8/\m.n=k.eJ then (k.av m.e m.s,[])
 else if m.k=5/\k.waits 1 m.n=true then (k.a2 m,[])
 else if m.k=6/\k.waits 2 m.n=true then (k.Z k.d m.v,[])
 else (k,[])
structure KOk(k:K):Prop where
 b:0<=k.kW
 e:k.kW<=7
 n:k.n<1000000000000
 w:0<=k.yi
 y:k.yi<=1000000000000
 x:0<=k.eJ
 A:k.eJ<=1000000000000
 j:0<=k.Lh
 t:k.Lh<=1099511627776
 p:0<=k.Sm
 u:k.Sm<=1099511627776
 h:0<=k.tT
 o:k.tT<=1099511627776
 i:0<=k.qm
 s:k.qm<=1099511627776
abbrev dL (w:World) (mk mc mn me ms mo mv:Int) (ml:Bool) (md:ByteArray):World:=w.alloc (.cells #[.int .i64 mk,.int .i64 mc,.int .i64 mn,.int .i64 me,.int .i64 ms,.int .i64 mo,.int .i64 mv,.bool ml,.string md] 129)
def gF(w:Ba){mk:Int}:MB (dL w mk mc mn me ms mo mv ml md) w.heap.size ⟨mk,mc,mn,me,ms,mo,mv,ml,md⟩:=by
 refine⟨?_,?_,?_,?_,?_,?_,?_,?_,?_⟩<;>(rw[bN _ _ _ _ _ _ (bo w _)];rfl)
def JN{q:Nat}{k:K}(h:bi w c q k)(b:KOk k)(d:fN mv):
  Calls prog 132 #[tp c,Wire.M.ab ⟨9,mc,mn,me,ms,mo,mv,ml,md⟩] w λe w'=>∃v,e=.returned v/\gR w' w.heap.size v [k.a3 ⟨9,mc,mn,me,ms,mo,mv,ml,md⟩]/\bi w' c q (k.ai ⟨9,mc,mn,me,ms,mo,mv,ml,md⟩)/\Ob [c,q] w w':=by
 have f:=h.H;have g:MB (dL w 9 mc mn me ms mo mv ml md) w.heap.size ⟨9,mc,mn,me,ms,mo,mv,ml,md⟩:=gF w;have F:bi (dL w 9 mc mn me ms mo mv ml md) c q k:=h.h _;have i:Ob [c,q] w (dL w 9 mc mn me ms mo mv ml md):=(Ob.V _ _).h _;have n:(dL w 9 mc mn me ms mo mv ml md).heap.size=w.heap.size+1:=aY;unfold dL at *;unfold Wire.M.ab;go_in;go_wp2_with fail
 generalize (w.alloc (.cells #[iI 9,iI mc,iI mn,iI me,iI ms,iI mo,iI mv,.bool ml,.string md] 129))=w1 at *;have ⟨b0,b1,b2,b3,b4,b5,b6,b7,b8⟩:=g








 dsimp only at b0 b1 b2 b3 b4 b5 b6 b7 b8;have o:=F.c0;have p:=F.c6;have l:=F.aw;go_wp2_with fail
 apply (JK ⟨9,mc,mn,me,ms,mo,mv,ml,md⟩ F).mono;rintro x w2⟨v,rfl,m,G,a⟩;go_wp2;go_ret;exact⟨_,rfl,m.H ak,G,i.j a⟩
def SZ{q:Nat}{k:K}(m:M)(h:bi w c q k)(r:KOk k)(Q:fN m.v):
  Calls prog 132 #[tp c,Wire.M.ab m] w λe w'=>∃v,e=.returned v/\gR w' w.heap.size v (k.I m).2/\bi w' c q (k.I m).1/\Ob [c,q] w w':=by
 obtain⟨mk,mc,mn,me,ms,mo,mv,ml,md⟩:=m;obtain⟨kk,U,a⟩:∃kk U,k.I ⟨mk,mc,mn,me,ms,mo,mv,ml,md⟩=(kk,U):=⟨_,_,rfl⟩;rw[a];unfold K.I at a;dsimp only at Q a⊢;by_cases B:mk=9;rw[aH B]at a;injection a with f g
 subst B f g;exact JN h r Q;rw[ay B]at a;have N:(mk==9)=false:=dD B;have l:Hid _:=a;clear a;have Y:=h.H;have D:MB (dL w mk mc mn me ms mo mv ml md) w.heap.size ⟨mk,mc,mn,me,ms,mo,mv,ml,md⟩:=gF w;have F:bi (dL w mk mc mn me ms mo mv ml md) c q k:=h.h _;have C:Ob [c,q] w (dL w mk mc mn me ms mo mv ml md):=(Ob.V _ _).h _;have hs:(dL w mk mc mn me ms mo mv ml md).heap.size=w.heap.size+1:=aY;unfold dL at *;unfold Wire.M.ab;clear h;go_in;go_wp2_with fail
 generalize (w.alloc (.cells #[.int .i64 mk,.int .i64 mc,.int .i64 mn,.int .i64 me,.int .i64 ms,.int .i64 mo,.int .i64 mv,.bool ml,.string md] 129))=w1 at *;have b0:=D.y;have b1:=D.i;have b2:=D.u;have b3:=D.j;have b4:=D.p;have b5:=D.h;have b6:=D.t;have b7:=D.x;have b8:=D.A;dsimp only at b0 b1 b2 b3 b4 b5 b6 b7 b8;have d0:=F.c0;have Z:=F.c6;have ad:=F.aw;clear D;by_cases hc:mc=k.id
 .subst hc;by_cases E:mk=7
  .subst E;by_cases J:mn=k.eJ
   .subst J;have a:=l.out;clear l;rw[ay (λe=>e rfl),aH ⟨rfl,rfl⟩]at a;injection a with f g
    subst f g;clear N B;go_wp2_with fail
    go_quiet (fail);go_wp2_with fail
    go_quiet (fail);go_wp2_with fail
    refine(GZ me ms (F.e) (Pz r.i r.p) (Pz r.s r.u)).mono ?_;rintro x w2⟨rfl,G,z⟩;go_wp2;go_ret;exact⟨_,rfl,gR.e,G,(C.e).j z⟩
   have a:=l.out;clear l;rw[ay (λe=>e rfl),ay (λe=>J e.2),ay (λe=>by have:=e.1;omega),ay (λe=>by have:=e.1;omega),ay (λe=>by have:=e.1;omega)]at a;injection a with f g
   subst f g;clear N B;have gn:(mn==k.eJ)=false:=dD J;clear J;go_wp2_with fail
   go_quiet (fail);go_wp2_with fail
   go_quiet (fail);go_wp2_with fail
   go_quiet (fail);go_wp2;go_ret;exact⟨_,rfl,gR.e,F.e,C.e⟩
  by_cases O:mk=8
  .subst O;by_cases J:mn=k.eJ
   .subst J;have a:=l.out;clear l;rw[ay (λe=>e rfl),ay (λe=>by have:=e.1;omega),aH ⟨rfl,rfl⟩]at a;injection a with f g
    subst f g;clear N B E;go_wp2_with fail
    go_quiet (fail);go_wp2_with fail
    go_quiet (fail);go_wp2_with fail
    go_quiet (fail);go_wp2_with fail
    refine(OE me ms (F.e)).mono ?_;rintro x w2⟨rfl,G,z⟩;go_wp2;go_ret;exact⟨_,rfl,gR.e,G,(C.e).j z⟩
   have a:=l.out;clear l;rw[ay (λe=>e rfl),ay (λe=>by have:=e.1;omega),ay (λe=>J e.2),ay (λe=>by have:=e.1;omega),ay (λe=>by have:=e.1;omega)]at a;injection a with f g
   subst f g;clear N B E;have gn:(mn==k.eJ)=false:=dD J;clear J;go_wp2_with fail
   go_quiet (fail);go_wp2_with fail
   go_quiet (fail);go_wp2_with fail
   go_quiet (fail);go_wp2;go_ret;exact⟨_,rfl,gR.e,F.e,C.e⟩
  by_cases P:mk=5
  .subst P;cases L:k.waits 1 mn with
   |true=>
    have a:=l.out;clear l;rw[ay (λe=>e rfl),ay (λe=>by have:=e.1;omega),ay (λe=>by have:=e.1;omega),aH ⟨rfl,L⟩]at a;injection a with f g
    subst f g;clear N B E O;go_wp2_with fail
    go_quiet (fail);go_wp2_with fail
    go_quiet (fail);go_wp2_with fail
    go_quiet (fail);go_wp2_with fail
    refine(sq 1 mn (F.e)).mono ?_;rintro x w2⟨rfl,rfl⟩;rw[L];go_wp2_with fail
    refine(Tv ⟨5,k.id,mn,me,ms,mo,mv,ml,md⟩ (F.e) r.b r.e Q r.n (Pz r.h r.j) (Pz r.o r.t)).mono ?_;rintro x w3⟨rfl,G,z⟩;go_wp2;go_ret;exact⟨_,rfl,gR.e,G,(C.e).j z⟩
   |false=>
    have a:=l.out;clear l;rw[ay (λe=>e rfl),ay (λe=>by have:=e.1;omega),ay (λe=>by have:=e.1;omega),ay (λe=>by rw[L]at e;simp at e),ay (λe=>by have:=e.1;omega)]at a;injection a with f g
    subst f g;clear N B E O;go_wp2_with fail
    go_quiet (fail);go_wp2_with fail
    go_quiet (fail);go_wp2_with fail
    go_quiet (fail);go_wp2_with fail
    refine(sq 1 mn (F.e)).mono ?_;rintro x w2⟨rfl,rfl⟩;rw[L];go_wp2;go_ret;exact⟨_,rfl,gR.e,F.e,C.e⟩
  by_cases R:mk=6
  .subst R;cases L:k.waits 2 mn with
   |true=>
    have a:=l.out;clear l;rw[ay (λe=>e rfl),ay (λe=>by have:=e.1;omega),ay (λe=>by have:=e.1;omega),ay (λe=>by have:=e.1;omega),aH ⟨rfl,L⟩]at a;injection a with f g
    subst f g;clear N B E O P;go_wp2_with fail
    go_quiet (fail);go_wp2_with fail
    go_quiet (fail);go_wp2_with fail
    go_quiet (fail);go_wp2_with fail
    refine(sq 2 mn (F.e)).mono ?_;rintro x w2⟨rfl,rfl⟩;rw[L];go_wp2_with fail
    generalize S:w1.drewN _=W;have X:bi W c q k:=S▸F.e;have T:Ob [c,q] w W:=S▸C.e;have b6:W.cell? (aA w.heap.size 6)=some (iI mv):=S▸b6;have Z:=X.c6;clear S F C;go_still_tail 10,bt;go_wp2_with fail
    refine(m9 k.d X.I r.b r.e Q r.n).mono ?_;rintro x w3⟨rfl,G,z⟩;go_wp2;go_ret;exact⟨_,rfl,gR.e,G,T.I.j z⟩
   |false=>
    have a:=l.out;clear l;rw[ay (λe=>e rfl),ay (λe=>by have:=e.1;omega),ay (λe=>by have:=e.1;omega),ay (λe=>by have:=e.1;omega),ay (λe=>by rw[L]at e;simp at e)]at a;injection a with f g
    subst f g;clear N B E O P;go_wp2_with fail
    go_quiet (fail);go_wp2_with fail
    go_quiet (fail);go_wp2_with fail
    go_quiet (fail);go_wp2_with fail
    refine(sq 2 mn (F.e)).mono ?_;rintro x w2⟨rfl,rfl⟩;rw[L];go_wp2;go_ret;exact⟨_,rfl,gR.e,F.e,C.e⟩
  have a:=l.out;clear l;rw[ay (λe=>e rfl),ay (λe=>E e.1),ay (λe=>O e.1),ay (λe=>P e.1),ay (λe=>R e.1)]at a;injection a with f g
  subst f g;have g7:(mk==7)=false:=dD E;have g8:(mk==8)=false:=dD O;have g5:(mk==5)=false:=dD P;have g6:(mk==6)=false:=dD R;clear B E O P R;go_wp2_with fail
  go_quiet (fail);go_wp2_with fail
  go_quiet (fail);go_wp2_with fail
  go_quiet (fail);go_wp2;go_ret;exact⟨_,rfl,gR.e,F.e,C.e⟩
 have a:=l.out;clear l;rw[aH hc]at a;injection a with f g
 subst f g;have gc:(mc==k.id)=false:=dD hc;clear B hc;go_wp2_with fail
 go_quiet (fail);go_wp2;go_ret;exact⟨_,rfl,gR.e,F.e,C.e⟩
def K.j(id obj a:Int):K:=⟨id,obj,a,0,0,0,⟨#[]⟩,0,false,false,0,0,0,0,0,0,0,[],λ_=>0,0⟩
variable{k:K}
def WN(o v d id:Int)(w:Ba)(g:0<=o)(p:o<=1099511627776)(h:0<=v)(r:v<=1099511627776)(f:0<=d)(i:d<=500):
  Calls prog 122 #[.agg #[iI o,iI v,iI d],iI id] w λe w'=>∃c q,e=.returned (tp c)/\bi w' c q (K.j id (o*(1000-d)/(1000+d)) (v*(1000-d)/(1000+d)))/\w.heap.size<=c/\w.heap.size<=q/\FF w w':=by
 have s:=λ(t:DU) (w:Ba)=>run_makeMap (P:=prog) t w;go_in;go_wp2_with (go_at_call 15;refine(Clock.Cc f i (by assumption) (by assumption)).mono ?_;rintro e w'⟨rfl,rfl⟩)
 go_ret;have k:∀a:Obj,(w.alloc a).heap.size=w.heap.size+1:=λa=>aY;have l:∀a b:Obj,((w.alloc a).alloc b).heap.size=w.heap.size+1+1:=λa b=>aY;have m:∀a b c:Obj,(((w.alloc a).alloc b).alloc c).heap[w.heap.size+1+1]?=some c:=λa b c=>by rw[<-l a b];exact bo _ _
 have n:∀a c:Obj,(((w.alloc a).alloc (.map #[] 0)).alloc c).ownsMap prog 3 (plainElem (H:=Unit) prog 3) (w.heap.size+1) 0 (.map []):=λa c=>by
  have:=(World.ownsMap_made (w.alloc a) prog 3 (plainElem (H:=Unit) prog 3)).alloc c;rw[k]at this;exact this
 refine⟨w.heap.size+1+1,w.heap.size+1,rfl,⟨⟨by simp[K.j],rfl,?_⟩,.nil,.map [],?_,tidy_empty,λ_ _ _=>rfl⟩,ak,ak,(((au _ _).alloc (aj _) _).alloc aY _).alloc fS _⟩;rw[m];rfl;exact n _ _
end Wld
namespace Wal
variable{d s:DS}{n:Int}{F l:List Int}{t i b o C:Nat}{w w':Ba}
structure R where
 c:Int
 n:Int
 o:Int
 v:Int
 d:ByteArray
 e:Int
abbrev R.H (r:R):Value:=.agg #[.int .i64 r.c,.int .i64 r.n,.int .i64 r.o,.int .i64 r.v,.string r.d,.int .i64 r.e]
def fH(n:Int):Bool:=lY n 0 1099511627776
def gW(r:R):Bool:=fH r.e&&decide (r.c=0/\r.n=0/\r.v=0/\r.d.size=0)
def fI(r:R):Bool:=fH r.c&&fH r.n&&fH r.v&&decide (0<=r.o/\r.o<8/\r.d.size<=20/\r.e=0)
def jv(r:R):Bool:=if r.o = -1 then gW r else fI r
def ie:
  Calls prog 252 #[iI n] w λe w'=>e=.returned (.bool (fH n))/\w'=w:=by
 unfold fH;by_cases h0:0<=n
 .by_cases a:n<=1099511627776
  .rw[Num.fu h0 a];go_in;go_wp2;go_ret;exact⟨rfl,rfl⟩
  .rw[Num.j3 ak];have b:= aK a;go_in;go_wp2;go_ret;exact⟨rfl,rfl⟩
 .rw[Num.j4 ak];have b:= aK h0;go_in;go_wp2;go_ret;exact⟨rfl,rfl⟩
def aa0:(d.toList==[])=decide (d.size=0):=by
 rw[lE];simp only[jD,f9];constructor;intro h;have:=cr List.length h;rw[gP]at this;simpa using this;intro h;rw[gP];exact uq.1 (dw▸h)
def NL{c v e:Int}:
  Calls prog 218 #[R.H ⟨c,n,-1,v,d,e⟩] w λx w'=>x=.returned (.bool (gW ⟨c,n,-1,v,d,e⟩))/\FF w w':=by
 dsimp only[R.H];have h:=aa0 (d:=d);have j:(e==e)=true:=aY;cases hte:fH e with
 |false=>
  have a:Hid (gW ⟨c,n,-1,v,d,e⟩=false):=by show gW ⟨c,n,-1,v,d,e⟩=_;simp[gW,hte]
  go_in;go_wp2_with (first|(go_at_call 252;refine(ie).mono ?_;rintro x w'⟨rfl,rfl⟩))
  go_ret;exact⟨a.out▸rfl,(au _ _).alloc (aj _) _⟩
 |true=>
  by_cases hc:c=0
  .by_cases b:n=0
   .by_cases f:v=0
    .by_cases g:d.size=0
     .rw[aX g]at h;subst hc b f;have a:Hid (gW ⟨0,0,-1,0,d,e⟩=true):=by show gW ⟨0,0,-1,0,d,e⟩=_;simp[gW,hte,g]
      go_in;go_wp2_with (first|(go_at_call 252;refine(ie).mono ?_;rintro x w'⟨rfl,rfl⟩))
      go_ret;exact⟨a.out▸rfl,(au _ _).alloc (aj _) _⟩
     .rw[aK g]at h;have a:Hid (gW ⟨c,n,-1,v,d,e⟩=false):=by show gW ⟨c,n,-1,v,d,e⟩=_;simp[gW,g]
      subst hc b f;go_in;go_wp2_with (first|(go_at_call 252;refine(ie).mono ?_;rintro x w'⟨rfl,rfl⟩))
      go_ret;exact⟨a.out▸rfl,(au _ _).alloc (aj _) _⟩
    .have i:(v==0)=false:=by simp[f]
     have a:Hid (gW ⟨c,n,-1,v,d,e⟩=false):=by show gW ⟨c,n,-1,v,d,e⟩=_;simp[gW,f]
     subst hc b;go_in;go_wp2_with (first|(go_at_call 252;refine(ie).mono ?_;rintro x w'⟨rfl,rfl⟩))
     go_ret;exact⟨a.out▸rfl,(au _ _).alloc (aj _) _⟩
   .have i:(n==0)=false:=by simp[b]
    have a:Hid (gW ⟨c,n,-1,v,d,e⟩=false):=by show gW ⟨c,n,-1,v,d,e⟩=_;simp[gW,b]
    subst hc;go_in;go_wp2_with (first|(go_at_call 252;refine(ie).mono ?_;rintro x w'⟨rfl,rfl⟩))
    go_ret;exact⟨a.out▸rfl,(au _ _).alloc (aj _) _⟩
  .have i:(c==0)=false:=by simp[hc]
   have a:Hid (gW ⟨c,n,-1,v,d,e⟩=false):=by show gW ⟨c,n,-1,v,d,e⟩=_;simp[gW,hc]
   go_in;go_wp2_with (first|(go_at_call 252;refine(ie).mono ?_;rintro x w'⟨rfl,rfl⟩))
   go_ret;exact⟨a.out▸rfl,(au _ _).alloc (aj _) _⟩
def NM{r:R}(h:r.o≠-1)(i:r.d.size<=1000):
  Calls prog 218 #[r.H] w λx w'=>x=.returned (.bool (fI r))/\FF w w':=by
 obtain⟨c,n,o,v,d,e⟩:=r;dsimp only[R.H]at *;have j:(o == -1)=false:=by simp[h]
 cases hc:fH c with
 |false=>
  have a:Hid (fI ⟨c,n,o,v,d,e⟩=false):=by show fI ⟨c,n,o,v,d,e⟩=_;simp[fI,hc]
  go_in;go_wp2_with (first|(go_at_call 252;refine(ie).mono ?_;rintro x w'⟨rfl,rfl⟩))
  go_ret;exact⟨a.out▸rfl,(au _ _).alloc (aj _) _⟩
 |true=>
  cases hn:fH n with
  |false=>
   have a:Hid (fI ⟨c,n,o,v,d,e⟩=false):=by show fI ⟨c,n,o,v,d,e⟩=_;simp[fI,hn]
   go_in;go_wp2_with (first|(go_at_call 252;refine(ie).mono ?_;rintro x w'⟨rfl,rfl⟩))
   go_ret;exact⟨a.out▸rfl,(au _ _).alloc (aj _) _⟩
  |true=>
   cases hv:fH v with
   |false=>
    have a:Hid (fI ⟨c,n,o,v,d,e⟩=false):=by show fI ⟨c,n,o,v,d,e⟩=_;simp[fI,hv]
    go_in;go_wp2_with (first|(go_at_call 252;refine(ie).mono ?_;rintro x w'⟨rfl,rfl⟩))
    go_ret;exact⟨a.out▸rfl,(au _ _).alloc (aj _) _⟩
   |true=>
    by_cases h0:0<=o
    .by_cases g:o<8
     .by_cases k:d.size<=20
      .have l:(d.size:Int)<=20:=ak;by_cases b:e=0
       .have f:(e==0)=true:=by simp[b]
        have a:Hid (fI ⟨c,n,o,v,d,e⟩=true):=by show fI ⟨c,n,o,v,d,e⟩=_;simp[fI,hc,hn,hv,h0,g,k,b]
        go_in;go_wp2_with (first|(go_at_call 252;refine(ie).mono ?_;rintro x w'⟨rfl,rfl⟩))
        go_ret;exact⟨a.out▸rfl,(au _ _).alloc (aj _) _⟩
       .have f:(e==0)=false:=by simp[b]
        have a:Hid (fI ⟨c,n,o,v,d,e⟩=false):=by show fI ⟨c,n,o,v,d,e⟩=_;simp[fI,b]
        go_in;go_wp2_with (first|(go_at_call 252;refine(ie).mono ?_;rintro x w'⟨rfl,rfl⟩))
        go_ret;exact⟨a.out▸rfl,(au _ _).alloc (aj _) _⟩
      .have f:= aK ak;have a:Hid (fI ⟨c,n,o,v,d,e⟩=false):=by show fI ⟨c,n,o,v,d,e⟩=_;simp[fI];omega
       go_in;go_wp2_with (first|(go_at_call 252;refine(ie).mono ?_;rintro x w'⟨rfl,rfl⟩))
       go_ret;exact⟨a.out▸rfl,(au _ _).alloc (aj _) _⟩
     .have f:= aK g;have a:Hid (fI ⟨c,n,o,v,d,e⟩=false):=by show fI ⟨c,n,o,v,d,e⟩=_;simp[fI];omega
      go_in;go_wp2_with (first|(go_at_call 252;refine(ie).mono ?_;rintro x w'⟨rfl,rfl⟩))
      go_ret;exact⟨a.out▸rfl,(au _ _).alloc (aj _) _⟩
    .have f:= aK h0;have a:Hid (fI ⟨c,n,o,v,d,e⟩=false):=by show fI ⟨c,n,o,v,d,e⟩=_;simp[fI];omega
     go_in;go_wp2_with (first|(go_at_call 252;refine(ie).mono ?_;rintro x w'⟨rfl,rfl⟩))
     go_ret;exact⟨a.out▸rfl,(au _ _).alloc (aj _) _⟩
def yh(r:R)(b:r.d.size<=1000):
  Calls prog 218 #[r.H] w λx w'=>x=.returned (.bool (jv r))/\FF w w':=by
 by_cases a:r.o = -1;have f:jv r=gW r:=by simp[jv,a]
 rw[f];obtain⟨c,n,o,v,d,e⟩:=r;dsimp only at a;subst a;exact NL;have f:jv r=fI r:=by simp[jv,a]
 rw[f];exact NM a b
def jn(x:Int)(j:Nat):Int:=x/256^j%256
def jG(r:R):List Int:=[r.c,r.n,r.o,r.v,r.e]
def fm(r:R):List Int:=((List.range 40).map λt=>jn ((jG r).getD (t/8) 0) (t%8))++((r.d.size:Int)::(fO r.d++(List.replicate (20-r.d.size) 0++[1])))
def Ht(a:List Int):List Int:=a++List.replicate (62-a.length) 0
def eR{r:R}(h:r.d.size<=20):(fm r).length=62:=by
 simp[fm,Num.dB];omega
def Ga{r:R}(h:t<40):(fm r).getD t 0=jn ((jG r).getD (t/8) 0) (t%8):=by
 rw[aD];unfold fm;rw[bE (dD h),cU,List.getElem?_range h];rfl
def yg{r:R}:(fm r)[40+i]?=((r.d.size:Int)::(fO r.d++(List.replicate (20-r.d.size) 0++[1])))[i]?:=by
 unfold fm;rw[bg aY];simp
def FZ{r:R}:(fm r).getD 40 0=(r.d.size:Int):=by
 rw[aD,show (40:Nat)=40+0 from rfl,yg];rfl
def Cm{r:R}(h:i<r.d.size):(fm r).getD (41+i) 0=(fO r.d).getD i 0:=by
 rw[aD,show 41+i=40+(i+1) by omega,yg,bv,bE (by rw[Num.dB];exact h),aD]
def Cl{r:R}(h:r.d.size<=20):(fm r).getD 61 0=1:=by
 rw[aD,show (61:Nat)=40+(20+1) from rfl,yg,bv,bg (by rw[Num.dB];exact h),Num.dB,bg (by simp)];simp
def Ck(x:Int)(j:Nat):0<=jn x j/\jn x j<256:=by unfold jn;omega
def z9{a:List Int}(h:a.length<=62):(Ht a).length=62:=by simp[Ht];omega
theorem V7:Ht []=List.replicate 62 0:=rfl
def V8(hF:F.length=62)(b:t<62):(Ht (F.take t)).set t (F.getD t 0)=Ht (F.take (t+1)):=by
 apply mC;intro i;rw[ED,(z9 fS)];unfold Ht;by_cases a:t=i;subst a;rw[aH rfl,aH b,bE fS,gC,aH ak,aD,aE ak];rfl;rw[ay a];by_cases h:i<t;rw[bE fS,bE fS,gC,gC,aH h,aH ak];rw[bg fS,bg fS,eP,eP];simp;by_cases c:i<62;rw[aH ak,aH ak];rw[ay ak,ay ak]
def V6{r:R}(h:r.d.size<=20):(Ht ((fm r).take (41+r.d.size))).set 61 1=fm r:=by
 have hF:=eR h;apply mC;intro i;have b:(Ht ((fm r).take (41+r.d.size))).length=62:=z9 fS;rw[ED,b];by_cases a:61=i;subst a;rw[aH rfl,aH ak];have:=Cl h;rw[aD,aE ak]at this;rw[aE ak];simpa using this.symm;rw[ay a];unfold Ht;by_cases c:i<41+r.d.size;rw[bE fS,gC,aH c];rw[bg fS,eP];simp;by_cases e:i<61;rw[aH ak,show i=40+(i-41+1) by omega,yg,bv,bg (by rw[Num.dB];omega),Num.dB,bE fS,eP,aH ak];rw[ay ak,ng ak]
def ke(x:Int)(j:Nat):Int:=if j<8 then x%256^j else x
def okN(x:Int):Prop:=(0<=x/\x<=1099511627776)\/x = -1
def NQ(x:Int):ke x 0=0:=by simp[ke]
def RS(x:Int):ke x 8=x:=by simp[ke]
def V5{x:Int}{j:Nat}(s:okN x)(o:j<8):bits .or .i64 (ke x j) (IntKind.i64.wrap (jn x j*2^(8*j)))=ke x (j+1):=by
 rcases s with⟨h0,u⟩|rfl
 have d:∀(k:Nat) (q p:Int),k<=48->(2:Int)^k=q->p=x%q->0<q->q<=281474976710656->bits .or .i64 p (IntKind.i64.wrap (x/q%256*q))=p+x/q%256*q:=λk q p v r i l m=>by
  have t:0<=x/q%256:=ak;have n:x/q%256<=255:=ak;have w:= PA n m ak ak;have e:0<=x/q%256*q:=qG t ak;have f:0<=p/\p<q:=by rw[i];exact⟨LN _ ak,CY _ l⟩
  rw[Wire.oD _ e ak];exact bits_join_low .i64 63 cn Wire.oD k p (x/q%256*q) f.1 (r▸f.2) ak e (by rw[r];exact Int.mul_emod_left _ _) ak
 have zero:∀p:Int,0<=p->p<2^63->bits .or .i64 p 0=p:=λp i g=>by
  have:=bits_join_low .i64 63 cn Wire.oD 63 p 0 i g g ak aY cn;simpa using this
 match j,o with
 |0,_=>
  have a:ke x 0=x%1:=rfl;have b:ke x 1=x%256:=rfl;have c:jn x 0*2^(8*0)=x/1%256*1:=rfl;have h:=d 0 1 (x%1) ak rfl rfl ak ak;rw[a,b,c,h];omega
 |1,_=>
  have a:ke x 1=x%256:=rfl;have b:ke x 2=x%65536:=rfl;have c:jn x 1*2^(8*1)=x/256%256*256:=rfl;have h:=d 8 256 (x%256) ak rfl rfl ak ak;rw[a,b,c,h];omega
 |2,_=>
  have a:ke x 2=x%65536:=rfl;have b:ke x 3=x%16777216:=rfl;have c:jn x 2*2^(8*2)=x/65536%256*65536:=rfl;have h:=d 16 65536 (x%65536) ak rfl rfl ak ak;rw[a,b,c,h];omega
 |3,_=>
  have a:ke x 3=x%16777216:=rfl;have b:ke x 4=x%4294967296:=rfl;have c:jn x 3*2^(8*3)=x/16777216%256*16777216:=rfl;have h:=d 24 16777216 (x%16777216) ak rfl rfl ak ak;rw[a,b,c,h];omega
 |4,_=>
  have a:ke x 4=x%4294967296:=rfl;have b:ke x 5=x%1099511627776:=rfl;have c:jn x 4*2^(8*4)=x/4294967296%256*4294967296:=rfl;have h:=d 32 4294967296 (x%4294967296) ak rfl rfl ak ak;rw[a,b,c,h];omega
 |5,_=>
  have a:ke x 5=x%1099511627776:=rfl;have b:ke x 6=x%281474976710656:=rfl;have c:jn x 5*2^(8*5)=x/1099511627776%256*1099511627776:=rfl;have h:=d 40 1099511627776 (x%1099511627776) ak rfl rfl ak ak;rw[a,b,c,h];omega
 |6,_=>
  have a:ke x 6=x%281474976710656:=rfl;have b:ke x 7=x%72057594037927936:=rfl;have c:jn x 6*2^(8*6)=x/281474976710656%256*281474976710656:=rfl;have h:=zero (x%281474976710656) ak ak;rw[a,b,c,show x/281474976710656%256*281474976710656=0 by omega,show IntKind.i64.wrap 0=0 from rfl,h];omega
 |7,_=>
  have a:ke x 7=x%72057594037927936:=rfl;have b:ke x 8=x:=rfl;have c:jn x 7*2^(8*7)=x/72057594037927936%256*72057594037927936:=rfl;have h:=zero (x%72057594037927936) ak ak;rw[a,b,c,show x/72057594037927936%256*72057594037927936=0 by omega,show IntKind.i64.wrap 0=0 from rfl,h];omega
 match j,o with
 |0,_=>decide
 |1,_=>decide
 |2,_=>decide
 |3,_=>decide
 |4,_=>decide
 |5,_=>decide
 |6,_=>decide
 |7,_=>decide
abbrev V9 (b:Nat):Array Value:=#[.pointer (some ⟨b,0,none⟩),.pointer (some ⟨b,1,none⟩),.pointer (some ⟨b,2,none⟩),.pointer (some ⟨b,3,none⟩),.pointer (some ⟨b,5,none⟩)]
def NK(i:Nat):Nat:=if i=4 then 5 else i
def xo(b:Nat):
  Calls prog 251 #[.pointer (some (aA b 0))] w λe w'=>e=.returned (.agg (V9 b))/\FF w w':=by
 go_in;go_wp2;go_still_tail 16,bt;change wpList _ _ _ _ _ (World.drew (w.alloc _));go_wp2;refine bn (v:=.agg (V9 b)) (by simp[V9,results,results251,go_sem]) rfl ⟨rfl,((au _ _).alloc (aj _) _).drew⟩
def Bc{Q:Nat->Prop}(h0:Q 0)(a:Q 1)(b:Q 2)(c:Q 3)(d:Q 4):∀k,k<5->Q k:=by
 intro k e;match k,e with
 |0,_=>exact h0
 |1,_=>exact a
 |2,_=>exact b
 |3,_=>exact c
 |4,_=>exact d
def Cj(b:Nat):∀k:Nat,k<5->∀w,(Instr.index 330 (.agg (V9 b)) (iI (k:Int))).run prog w=.ok (.pointer (some (aA b (NK k)))) w:=by
 apply Bc<;>(intro w;kernel_rfl)
def V3(x:Int)(j:Nat):x/2^(8*j)%256=jn x j:=by
 unfold jn;rw[Int.pow_mul];rfl
def Pl(w:World)(b o:Nat)(l:List Int):Prop:=l.length=62/\w.rangeAt b o (l.map (Value.int .u8))/\w.there b o 62
def Pl.h(h:Pl w b o l)(a:i<62):cC w (aA b (o+i)) (.int .u8 (l.getD i 0))/\w.frozen? (aA b (o+i))=false:=by
 let ⟨e,c,d⟩:=h
 refine⟨c i _ ?_,(d i a).2⟩;rw[cU,aD,aE ak];rfl
def Pl.V(h:Pl w b o l)(i:Nat)(x:Int):Pl (w.setCell (aA b (o+i)) (.int .u8 x)) b o (l.set i x):=by
 let ⟨m,n,f⟩:=h
 refine⟨by rw[oS];exact m,λj v c=>?_,λj k=>⟨?_,?_⟩⟩;rw[List.map_set,ED]at c;by_cases a:i=j;subst a;rw[aH rfl]at c;split at c;rename_i g;rw[bz]at g;let ⟨u,d⟩:=aP.1 (f i ak).1
 rw[az _ _ _ d];exact c;cases c;rw[ay a]at c;rw[am _ _ _ _ (by intro e;injection e with _ e;omega)];exact n j v c;let ⟨u,d⟩:=aP.1 (f j k).1
 by_cases a:i=j;subst a;rw[az _ _ _ d];rfl;rw[am _ _ _ _ (by intro e;injection e with _ e;omega),d];rfl;rw[aT];exact(f j k).2
def Pl.e(h:Pl w b o l)(a:Below C w w')(c:b<C):Pl w' b o l:=by
 obtain⟨g,i,d⟩:=h;exact⟨g,λj v k=>(a.cell (p:=(aA b (o+j))) c).trans (i j v k),λj f=>⟨by rw[a.cell (p:=(aA b (o+j))) c];exact(d j f).1,(a.frozen (p:=(aA b (o+j))) c).trans (d j f).2⟩⟩
def Pl.Z(w:Ba)(t:DU):Pl (w.alloc (.cells (Array.replicate 62 (.int .u8 0)) t)) w.heap.size 0 (Ht []):=by
 have hc:∀j,j<62->(w.alloc (.cells (Array.replicate 62 (.int .u8 0)) t)).cell? (FI w (0+j))=some (.int .u8 0):=λj a=>by
  rw[bN _ _ _ _ _ _ (bo w _),TV,aH ak]
 refine⟨rfl,λj v b=>?_,λj a=>⟨by rw[hc j a];rfl,aY⟩⟩;have a:j<62:=by have:=(bB.1 b).1;simpa[Ht] using this
 rw[hc j a,<-b,V7,List.map_replicate,eP,aH a]
def Pl.H{v:Int}(h:Pl w b 0 (Ht (F.take t)))(hF:F.length=62)(d:t<62)(a:v=F.getD t 0):Pl (w.setCell (aA b t) (.int .u8 v)) b 0 (Ht (F.take (t+1))):=by
 have c:=h.V t v;rw[bY,a,V8 hF d]at c;rw[a];exact c
def wC{B:Nat}{a:Ba}(c:B<=b):∀(d:List Dv) (o:Nat) (w:Ba),Below B a w->Below B a (w.setCells b o d)
 | [],_,_,h=>h
 |v::r,o,w,h=>wC c r (o+1) _ (h.setCell (by exact c) v)
def Wc(d:DS){m:Nat}(h:m<d.size):(fO d).getD m 0=((d[m]).toNat:Int):=by
 have a:= h;unfold Num.fO;rw[aD,cU,gz,aW a];rfl
def mZ:(prog.info? 71).map (·.size)=some 62:=bt
def NN{w1:Ba}{r:R}{t:DU}{o:Obj}(a:Below ((w.alloc (.cells #[iI r.c,iI r.n,iI r.o,iI r.v,.string r.d,iI r.e] t)).alloc o).heap.size ((w.alloc (.cells #[iI r.c,iI r.n,iI r.o,iI r.v,.string r.d,iI r.e] t)).alloc o) w1):
  (∀i,i<5->w1.cell? (FI w (NK i))=some (iI ((jG r).getD i 0)))/\cC w1 (FI w 4) (.string r.d):=by
 have hc:∀i,w1.cell? (FI w i)=#[Value.int .i64 r.c,iI r.n,iI r.o,iI r.v,.string r.d,iI r.e][i]?:=λi=>by
  rw[a.cell (p:=(FI w i)) fS,aC _ _ (FI w i) aY,bN _ _ _ _ _ _ (bo w _)]
 refine⟨?_,hc 4⟩;apply Bc;exact hc 0;exact hc 1;exact hc 2;exact hc 3;exact hc 5
def xr(r:R)(hd:r.d.size<=20):
  Calls prog 220 #[r.H] w λx w'=>x=.returned (.agg ((fm r).map (Value.int .u8)).toArray)/\FF w w':=by
 have hF:=eR hd;go_in;go_wp2_with fail
 apply (xo w.heap.size).mono;rintro e w1⟨rfl,hb1⟩;let ⟨hr,hs⟩:=NN hb1
 have hp:=(Pl.Z (w.alloc (.cells #[iI r.c,iI r.n,iI r.o,iI r.v,.string r.d,iI r.e] 138)) 71).e hb1 aY;rw[show (w.alloc (.cells #[iI r.c,iI r.n,iI r.o,iI r.v,.string r.d,iI r.e] 138)).heap.size=w.heap.size+1 by simp]at hp;have hbw:FF w w1:=(((au _ _).alloc (aj _) _).alloc aY _).trans (hb1.mono fS);have hz1:w.heap.size+1<w1.heap.size:=by have:=hb1.size;simp at this;omega

 go_wp2;go_loopw [8] (λs wr=>∃i:Nat,i<=5/\s=iI i/\Pl wr (w.heap.size+1) 0 (Ht ((fm r).take (i*8)))/\Below (w.heap.size+1) w1 wr) (λs _=>5-(intOf s).toNat)
 case atStart=>exact⟨0,ak,rfl,hp,au _ _⟩
 case round=>
  obtain⟨i,hi,rfl,hP,hB⟩:=hrel;by_cases hlt:i<5
  .have hix:=Cj w.heap.size i hlt;have hri:=hr i hlt

   let ⟨x,hx⟩:∃x,(jG r).getD i 0=x:=⟨_,rfl⟩
   rw[hx]at hri;have HX:Hid ((jG r).getD i 0=x):=hx

   go_wp2;go_loopw [12] (λs wr=>∃j:Nat,j<=8/\s=iI j/\Pl wr (w.heap.size+1) 0 (Ht ((fm r).take (i*8+j)))/\Below (w.heap.size+1) w1 wr) (λs _=>8-(intOf s).toNat)
   case atStart=>exact⟨0,ak,rfl,hP,hB⟩
   case round=>
    obtain⟨j,hj,rfl,hP,hB⟩:=hrel;by_cases hjl:j<8
    .have hrj:=(hB.cell (p:=(FI w (NK i))) jB).trans hri;let ⟨hc0,hf0⟩:=hP.h (i:=i*8+j) ak
     rw[bY]at hc0 hf0;go_wp2;refine⟨⟨j+1,ak,by go_num,?_,hB.setCell (aj _) _⟩,by simp[intOf];omega⟩;apply hP.H hF ak;rw[V3,Ga ak,show (i*8+j)/8=i by omega,show (i*8+j)%8=j by omega,HX.out]
    .obtain rfl:j=8:=ak;go_wp2;exact⟨⟨i+1,ak,by go_num,by rw[show (i+1)*8=i*8+8 by omega];exact hP,hB⟩,by simp[intOf];omega⟩
  .obtain rfl:i=5:=ak;have hsj:=(hB.cell (p:=(FI w 4)) jB).trans hs;let ⟨hc0,hf0⟩:=hP.h (i:=40) ak
   rw[bY]at hc0 hf0;have hdi:(r.d.size:Int)<=20:=ak;go_wp2_with fail
   have hP1:=hP.H hF ak (FZ (r:=r)).symm;have hB1:=hB.setCell (p:=(aA (w.heap.size+1) 40)) (aj _) (.int .u8 r.d.size);generalize wr.setCell (aA (w.heap.size+1) 40) (.int .u8 r.d.size)=wt at *

   go_loopw [37] (λs wr=>∃m:Nat,m<=r.d.size/\s=iI m/\Pl wr (w.heap.size+1) 0 (Ht ((fm r).take (41+m)))/\Below (w.heap.size+1) w1 wr) (λs _=>r.d.size-(intOf s).toNat)
   case atStart=>exact⟨0,ak,rfl,hP1,hB1⟩
   case round=>
    obtain⟨m,hm,rfl,hP,hB⟩:=hrel;have hsj:=(hB.cell (p:=(FI w 4)) jB).trans hs;by_cases hml:m<r.d.size
    .let ⟨hc0,hf0⟩:=hP.h (i:=41+m) ak
     rw[bY]at hc0 hf0;go_wp2;refine⟨⟨m+1,ak,by go_num,?_,hB.setCell (aj _) _⟩,by simp[intOf];omega⟩;apply hP.H hF ak;rw[Cm hml];exact(Wc r.d hml).symm
    .obtain rfl:m=r.d.size:=ak;let ⟨hc0,hf0⟩:=hP.h (i:=61) ak
     rw[bY]at hc0 hf0;have hP2:=hP.V 61 1;rw[bY,V6 hd]at hP2;have hB2:=hB.setCell (p:=(aA (w.heap.size+1) 61)) (aj _) (.int .u8 1);have hsz:((fm r).map (Value.int .u8)).toArray.size=62:=by simp[hF]
     have hi:=mZ;rw[<-hF,<-bz (Value.int .u8)]at hi;have hi2:=mZ;rw[<-hsz]at hi2;have ht:=hP2.2.2;have hone:((fm r).map (Value.int .u8)).toArray.all (·.oneCell')=true:=all_oneCell_toArray (ints_oneCell _ _);rw[<-hsz]at ht;have hres:=run_loadVar_mid (P:=prog) _ (w.heap.size+1) 0 71 ((fm r).map (Value.int .u8)) _ (World.rangeAt_setCells_same _ _ _ _ (by rw[bz,hF];exact hP2.2.2)) underlying71 rfl hi;have hB3:Below (w.heap.size+1) w1 ((wr.setCell (aA (w.heap.size+1) 61) (.int .u8 1)).setCells (w.heap.size+1) 0 ((fm r).map (Value.int .u8))):=wC (aj _) _ _ _ hB2;go_wp2_with (first|(refine wpList_load_mid rfl 71 (.tmp 2) rfl _ _ rfl _ _ hP2.2.1 underlying71 rfl hi ?_)|(refine wpList_store_mid rfl 71 (.tmp 2) (.tmp 49) rfl _ _ _ rfl rfl ht hi2 hone ?_))
     generalize (wr.setCell (aA (w.heap.size+1) 61) (.int .u8 1)).setCells (w.heap.size+1) 0 ((fm r).map (Value.int .u8))=wz at *;refine bn (v:=.agg ((fm r).map (Value.int .u8)).toArray) ?_ rfl ⟨rfl,?_⟩;simp only[Act.put,ax,aJ,aI];simp[results,results220,asAddr,hres];exact hbw.trans (hB3.mono ak)
def uV(w:World)(b:Nat)(l:List Int)(s:ByteArray):Prop:=(∀i,i<5->w.cell? ⟨b,NK i,none⟩=some (.int .i64 (l.getD i 0)))/\w.cell? ⟨b,4,none⟩=some (.string s)/\∀i,w.frozen? ⟨b,i,none⟩=false
def V4{k:Nat}(a:i<5)(b:k<5)(h:NK i=NK k):i=k:=by
 unfold NK at h;split at h<;>split at h<;>omega
def RP(a:i<5):NK i≠4:=by unfold NK;split<;>omega
def uV.h(h:uV w b l s)(m:l.length=5)(c:i<5)(x:Int):uV (w.setCell (aA b (NK i)) (iI x)) b (l.set i x) s:=by
 obtain⟨d,g,j⟩:=h;refine⟨λk f=>?_,?_,λk=>by rw[aT];exact j k⟩;by_cases e:i=k;subst e;rw[az _ _ _ (d i c),aD,mD ak];rfl;rw[am _ _ _ _ (by intro a;injection a with _ a;exact e (V4 c f a)),d k f,aD,aD,kj e];rw[am _ _ _ _ (by intro a;injection a with _ a;exact RP c a),g]
def uV.e(h:uV w b l s)(a:Below C w w')(c:b<C):uV w' b l s:=
 ⟨λi d=>(a.cell (p:=(aA b (NK i))) c).trans (h.1 i d),(a.cell (p:=(aA b 4)) c).trans h.2.1,λi=>(a.frozen (p:=(aA b i)) c).trans (h.2.2 i)⟩
def NH(r:R)(i j:Nat):List Int:=(jG r).take i++ke ((jG r).getD i 0) j::List.replicate (4-i) 0
def xp(r:R)(i:Nat):List Int:=(jG r).take i++List.replicate (5-i) 0
def NO(r:R):∀i,i<5->xp r i=NH r i 0:=by apply Bc<;>simp[xp,NH,NQ,List.replicate]
def NI(r:R):∀i,i<5->NH r i 8=xp r (i+1):=by apply Bc<;>simp[xp,NH,RS,jG,List.replicate]
def Ji(r:R):∀i,i<5->∀j,(NH r i j).length=5:=by apply Bc<;>(intro j;simp[NH,jG])
def Y7(r:R)(j:Nat):∀i,i<5->(NH r i j).getD i 0=ke ((jG r).getD i 0) j:=by apply Bc<;>simp[NH,jG]
def VZ(r:R)(j:Nat):∀i,i<5->(NH r i j).set i (ke ((jG r).getD i 0) (j+1))=NH r i (j+1):=by apply Bc<;>simp[NH,jG]
def NP(r:R):xp r 5=jG r:=by simp[xp,jG]
def Wb(r:R)(w:Ba)(t:DU):uV (w.alloc (.cells #[iI 0,iI 0,iI 0,iI 0,.string ⟨#[]⟩,iI 0] t)) w.heap.size (xp r 0) ⟨#[]⟩:=by
 have hc:∀i,(w.alloc (.cells #[iI 0,iI 0,iI 0,iI 0,.string ⟨#[]⟩,iI 0] t)).cell? (FI w i)=#[Value.int .i64 0,iI 0,iI 0,iI 0,.string ⟨#[]⟩,iI 0][i]?:=λi=>bN _ _ _ _ _ _ (bo w _);refine⟨?_,hc 4,λi=>aY⟩;apply Bc;exact hc 0;exact hc 1;exact hc 2;exact hc 3;exact hc 5
def Pl.j(a:l.length=62)(t:DU):Pl (w.alloc (.cells (l.map (Value.int .u8)).toArray t)) w.heap.size 0 l:=by
 have hc:∀j,(w.alloc (.cells (l.map (Value.int .u8)).toArray t)).cell? (FI w (0+j))=(l.map (Value.int .u8))[j]?:=λj=>by
  rw[bN _ _ _ _ _ _ (bo w _),bY,bH]
 refine⟨a,λj v b=>(hc j).trans b,λj c=>⟨?_,aY⟩⟩;rw[hc j,aE (by simpa using by omega)];rfl
def R.h(r:R):List Value:=[.int .i64 r.c,.int .i64 r.n,.int .i64 r.o,.int .i64 r.v,.string r.d,.int .i64 r.e]
variable{r:R}
theorem R.j(r:R):r.h.length=6:=rfl
def R.I(r:R):∀u∈r.h,u.oneCell'=true:=by
 intro u a;simp[R.h]at a;rcases a with rfl|rfl|rfl|rfl|rfl|rfl<;>rfl
def Gb:(prog.info? 138).map (·.size)=some 6:=bt
def NU(h:uV w b (jG r) s):(w.setCell (aA b 4) (.string r.d)).rangeAt b 0 r.h/\(w.setCell (aA b 4) (.string r.d)).there b 0 6:=by
 obtain⟨c,g,i⟩:=h;have f:(w.setCell (aA b 4) (.string r.d)).rangeAt b 0 r.h:=λj v a=>by
  rw[bY];have e:= (bB.1 a).1;match j,e,a with
  |0,_,a=>rw[am _ _ _ _ aY];exact(c 0 ak).trans a
  |1,_,a=>rw[am _ _ _ _ aY];exact(c 1 ak).trans a
  |2,_,a=>rw[am _ _ _ _ aY];exact(c 2 ak).trans a
  |3,_,a=>rw[am _ _ _ _ aY];exact(c 3 ak).trans a
  |4,_,a=>rw[az _ _ _ g];exact a
  |5,_,a=>rw[am _ _ _ _ aY];exact(c 4 ak).trans a
 exact⟨f,λj e=>⟨f.isSome j e,by rw[aT];exact i _⟩⟩
def NT:prog.underlying 71=some (.array (prog.arrayLen 71) (prog.elem 71)):=bt
def NR:prog.arrayLen 71=62:=bt
def Jk(w:Ba):(sizeOf (prog.elem 71)).run prog w=.ok 1 w:=bt
def Jm(b n:Nat)(w:Ba)(c:n<=20):(Instr.sliceAt 71 (.pointer (some (aA b 0))) (some (iI 41)) (some (iI (41+(n:Int)))) none).run prog w=.ok (.slice (some (aA b 41)) n 21) w:=by
 have a:=NR;rw[run_sliceAt_array_lh w _ (aA b 0) NT .i64 .i64 41 (41+(n:Int)) ak ak (by rw[a];omega),Jk];simp only[uk,slicedAt,a];rw[ay cn,show (41+(n:Int)).toNat-(41:Int).toNat=n by omega];rfl
def RT(hd:r.d.size<=20)(hok:∀i,i<5->okN ((jG r).getD i 0)):
  Calls prog 215 #[.agg ((fm r).map (Value.int .u8)).toArray] w λx w'=>x=.returned r.H/\FF w w':=by
 have hF:=eR hd;go_in;go_wp2_with fail
 apply (xo (w.heap.size+1)).mono;rintro e w1⟨rfl,hb1⟩;have hp0:=((Pl.j hF 71).e ((au (w.heap.size+1) (w.alloc (.cells ((fm r).map (Value.int .u8)).toArray 71))).alloc aY (.cells #[iI 0,iI 0,iI 0,iI 0,.string ⟨#[]⟩,iI 0] 138)) ak).e hb1 fS;have hr0:=(Wb r (w.alloc (.cells ((fm r).map (Value.int .u8)).toArray 71)) 138).e hb1 aY;rw[show (w.alloc (.cells ((fm r).map (Value.int .u8)).toArray 71)).heap.size=w.heap.size+1 by simp]at hr0;have hbw:FF w w1:=(((au _ _).alloc (aj _) _).alloc aY _).trans (hb1.mono fS);have hz1:w.heap.size+1<w1.heap.size:=by have:=hb1.size;simp at this;omega

 go_wp2;go_loopw [7] (λs wr=>∃i:Nat,i<=5/\s=iI i/\uV wr (w.heap.size+1) (xp r i) ⟨#[]⟩/\Below (w.heap.size+1) w1 wr) (λs _=>5-(intOf s).toNat)
 case atStart=>exact⟨0,ak,rfl,hr0,au _ _⟩
 case round=>
  obtain⟨i,hi,rfl,hR,hB⟩:=hrel;by_cases hlt:i<5
  .have hix:=Cj (w.heap.size+1) i hlt;rw[NO r i hlt]at hR;have hoki:=hok i hlt;go_wp2;go_loopw [11] (λs wr=>∃j:Nat,j<=8/\s=iI j/\uV wr (w.heap.size+1) (NH r i j) ⟨#[]⟩/\Below (w.heap.size+1) w1 wr) (λs _=>8-(intOf s).toNat)
   case atStart=>exact⟨0,ak,rfl,hR,hB⟩
   case round=>
    obtain⟨j,hj,rfl,hR,hB⟩:=hrel;by_cases hjl:j<8
    .have hn:=hR.1 i hlt;rw[Y7 r j i hlt]at hn;have hfz:=hR.2.2 (NK i);have hpc:=((hp0.e hB ak).h (i:=i*8+j) ak).1;rw[bY,Ga ak,show (i*8+j)/8=i by omega,show (i*8+j)%8=j by omega]at hpc;have hS:=V5 hoki hjl;have hbb:=Ck ((jG r).getD i 0) j;have hset:=hR.h (Ji r i hlt j) hlt (ke ((jG r).getD i 0) (j+1));rw[VZ r j i hlt]at hset;have HSET:Hid (uV (wr.setCell (aA (w.heap.size+1) (NK i)) (iI (ke ((jG r).getD i 0) (j+1)))) (w.heap.size+1) (NH r i (j+1)) ⟨#[]⟩):=hset

     let ⟨x,hx⟩:∃x,(jG r).getD i 0=x:=⟨_,rfl⟩
     rw[hx]at hn hpc hS hbb HSET

     let ⟨y,hy⟩:∃y,jn x j=y:=⟨_,rfl⟩
     rw[hy]at hpc hS hbb;let ⟨u,hu⟩:∃u,ke x j=u:=⟨_,rfl⟩
     rw[hu]at hn hS;have HS:Hid (bits .or .i64 u (wrap64 (y*2^(8*j)))=ke x (j+1)):=by
      show bits .or .i64 u (wrap64 (y*2^(8*j)))=ke x (j+1);unfold wrap64;rw[IntKind.wrap_i64]at hS;exact hS

     go_wp2;go_region;go_wp2_with fail
     rw[HS.out];exact⟨⟨j+1,ak,by go_num,HSET.out.e (au (w.heap.size+1+1) _).drew ak,(hB.setCell (aj _) _).drew⟩,by simp[intOf];omega⟩
    .obtain rfl:j=8:=ak;rw[NI r i hlt]at hR;go_wp2;exact⟨⟨i+1,ak,by go_num,hR,hB⟩,by simp[intOf];omega⟩
  .obtain rfl:i=5:=ak;rw[NP]at hR;have hp:=hp0.e hB ak;have hpc:=(hp.h (i:=40) ak).1;rw[bY,FZ]at hpc;have hdi:(r.d.size:Int)<=20:=ak;have hcv:(convert 61 9 (.slice (some (FI w 41)) r.d.size 21)).run prog wr=.ok (.string r.d) wr:=by
    have h:=Wire.ln (w:=wr) (FI w 41) (fO r.d) 21 (λj v hv=>?_);rw[Num.dB,Num.pA]at h;exact h;have hj:j<r.d.size:=by have:=(bB.1 hv).1;rw[bz,Num.dB]at this;exact this
    have hc:=(hp.h (i:=41+j) ak).1;rw[bY,Cm hj]at hc;rw[Addr.add_mid,hc,<-hv,cU,aD,aE (by rw[Num.dB];exact hj)];rfl
   have hsl:=Jm w.heap.size r.d.size wr hd;have hf4:=hR.2.2 4;have hc4:=hR.2.1;let ⟨hrg,hth⟩:=NU hR
   have hi:(prog.info? 138).map (·.size)=some r.h.length:=Gb;have hi2:(prog.info? 138).map (·.size)=some r.h.toArray.size:=Gb;have hone:r.h.toArray.all (·.oneCell')=true:=all_oneCell_toArray r.I;have hres:=run_loadVar_mid (P:=prog) _ (w.heap.size+1) 0 138 r.h _ (World.rangeAt_setCells_same _ _ _ _ hth) underlying138 rfl hi;have hB3:Below (w.heap.size+1) w1 ((wr.setCell (aA (w.heap.size+1) 4) (.string r.d)).setCells (w.heap.size+1) 0 r.h):=wC (aj _) _ _ _ (hB.setCell (aj _) _);go_wp2_with (first|(refine wpList_load_mid rfl 138 (.tmp 2) rfl _ _ rfl _ _ hrg underlying138 rfl hi ?_)|(refine wpList_store_mid rfl 138 (.tmp 2) (.tmp 38) rfl _ _ r.h.toArray rfl rfl hth hi2 hone ?_))
   generalize (wr.setCell (aA (w.heap.size+1) 4) (.string r.d)).setCells (w.heap.size+1) 0 r.h=wz at *;refine bn (v:=r.H) ?_ rfl ⟨rfl,?_⟩;simp only[Act.put,ax,aJ,aI];simp[results,results215,asAddr,hres];rfl;exact hbw.trans (hB3.mono ak)
end Wal
end Go.Proofs.YtbebfliimjjohabGreatDoor
