/- Parts of the proof. -/
import Derived.Test.YtbebfliimjjohabGreatDoorM37
import Derived.Lib.AppendIntMem
import Derived.Test.YtbebfliimjjohabGreatDoorM35
set_option maxRecDepth 100000
set_option maxHeartbeats 8000000
set_option linter.all false
open Go.Proofs.Tryz
namespace Go.Proofs.YtbebfliimjjohabGreatDoor
open Go.RowKit Go.Maps
open Cache (tp E mj qE)
open Bare (iZ)
open Lease (de eI fN)
open Net (jW)
open Num (M iH)
namespace Wld
variable{now o tob tv td:Int}{ws:List DS}{l:List Int}{B d C k n i N C':Nat}{t:DU}{A A':Wa}{w w' w2:Ba}
structure m5(B:Nat)(w:World):Prop where
 b:iZ w
 o:∃te pe,w.cell? ⟨7,0,none⟩=some (.iface te pe)
 j:∃te pe,w.cell? ⟨8,0,none⟩=some (.iface te pe)
 i : Lib.TabBelow prog B w "internal/strconv.uint64pow10" .u64 Lib.pow10Tab
 p:9<=B
 h:B<=w.heap.size
def m5.e(h:m5 B w)(f:Below B w w'):m5 B w':=by
 have g:=h.p;let ⟨a,b,k⟩:=h.o
 let ⟨c,d,l⟩:=h.j
 exact⟨Bare.iZ.e h.b f ak,⟨a,b,(f.cell (p:=(aA 7 0)) jB).trans k⟩,⟨c,d,(f.cell (p:=(aA 8 0)) jB).trans l⟩,λw2 m=>h.i w2 (f.trans m),g,aO h.h f.size⟩
def m5.on(h:m5 B w)(a:FF w w'):m5 B w':=h.e (a.mono h.h)
def rI(s:ByteArray):Option Int:=match Lib.atoiAll s.data.toList with
 |.ok v=>if (⟨(Lib.itoa v).toArray⟩:ByteArray)=s then some v else none
 |_=>none
def AC{s:DS}(h:m5 B w)(hs:s.size<=1000000)(f:Lib.atoiAll s.data.toList=.«syntax»\/Lib.atoiAll s.data.toList=.range):
  Calls prog 202 #[.string s] w λe w'=>e=cH 3/\FF w w':=by
 have b:Calls prog 242 #[.string s] w λe w'=>(∃v N,e=.returned (.tuple #[iI v,.iface 357 (.pointer (some (aA N 0)))]))/\FF w w':=by
  rcases f with q|q
  let ⟨c,d,hc⟩:=h.o
  apply (ai s ak q hc (.inr ⟨c,d,rfl⟩)).mono;rintro e w'⟨N,rfl,_,_,a⟩;exact⟨⟨_,N,rfl⟩,a⟩;let ⟨c,d,hc⟩:=h.j
  apply (al s ak q hc (.inr ⟨c,d,rfl⟩)).mono;rintro e w'⟨N,rfl,_,_,a⟩;exact⟨⟨_,N,rfl⟩,a⟩
 go_in;go_wp2_with fail
 apply b.mono;rintro e w2⟨⟨v,N,rfl⟩,a⟩;go_wp2;exact⟨rfl,rfl,a⟩
def J0(s:DS){v:Int}(h:m5 B w)(hs:s.size<=1000000)(g:Lib.atoiAll s.data.toList=.ok v):
  Calls prog 202 #[.string s] w λe w'=>e=(if (⟨(Lib.itoa v).toArray⟩:DS)=s then .returned (iI v) else cH 3)/\FF w w':=by
 let ⟨j,l⟩:=Lib.atoiAll_bounds g
 have c:Calls prog 242 #[.string s] w λe w'=>e=.returned (.tuple #[iI v,.nilIface])/\FF w w':=by
  apply (a6 s ak g w).mono;rintro e w'⟨rfl,q⟩;refine⟨rfl,?_⟩;rcases q with rfl|⟨t,rfl⟩
  exact au _ _;exact Lib.bytesWorld_below _ _ _
 have d:Hid (∀w2,FF w w2->Calls prog 78 #[iI v] w2 λe w'=>e=.returned (.string ⟨(Lib.itoa v).toArray⟩)/\FF w w'):=by
  intro w2 a;apply (af v j l (h.on a).i.here).mono;rintro e w'⟨rfl,k,m,rfl⟩;exact⟨rfl,a.trans ((Lib.below_grow _ _ (aj _) k m).mono a.size)⟩
 let ⟨t,n⟩:∃t:DS,⟨(Lib.itoa v).toArray⟩=t:=⟨_,rfl⟩
 rw[n]at d⊢;by_cases e:t=s
 .subst e;rw[aH rfl];go_in;go_wp2_with fail
  apply c.mono;rintro e w2⟨rfl,a⟩;have f:=d.out w2 a;go_wp2_with fail
  apply f.mono;rintro e w3⟨rfl,b⟩;go_wp2;go_ret;exact⟨rfl,b⟩
 .rw[ay e];have o:(!t.toList==s.toList)=true:=by
   cases hq:(t.toList==s.toList) with
   |false=>rfl
   |true=>
    have q:=eq_of_beq hq;rw[gP,gP]at q;exact absurd (ul q) e
  go_in;go_wp2_with fail
  apply c.mono;rintro e w2⟨rfl,a⟩;go_wp2_with fail
  apply (d.out w2 a).mono;rintro e w3⟨rfl,b⟩;go_wp2;exact⟨rfl,rfl,b⟩
def JZ(s:DS)(h:m5 B w)(hs:s.size<=1000000):
  Calls prog 202 #[.string s] w λe w'=>e=(match rI s with|some v=>.returned (iI v)|none=>cH 3)/\FF w w':=by
 unfold rI;cases hn:Lib.atoiAll s.data.toList with
 |ok v=>
  apply (J0 s h hs hn).mono;rintro e w'⟨rfl,b⟩;refine⟨?_,b⟩;dsimp only;split;rfl;rfl
 | «syntax»=>exact AC h hs (.inl hn)
 |range=>exact AC h hs (.inr hn)
def bF.ab{s:Wd}(h:bF w A s){T:Nat}(d:qA w T t)(n:t≠81)(p:t≠90)(r:t≠45)(y:t≠162)(z:t≠144/\t≠296/\t≠301/\t≠138/\t≠129):¬wfoot w A s T:=λf=>by
 rcases f with f|f|⟨v,g,k⟩|⟨i,l,f⟩|⟨i,l,f⟩|⟨g,k⟩
 exact d.j h.b.b n f;exact d.j h.u p f;let ⟨D,c,B⟩:=h.x
 rw[g]at c;injection c with c
 subst c;exact(cT B k).2.j d (eX r) rfl;exact d.j (h.o i l).ac y f;exact(h.o i l).af.e d f.symm;let ⟨v,C⟩:=aP.1 g
 have u:=h.t v C;by_cases m:T=A.a.q;rw[u.q]at m;exact d.j h.b.b n m;exact u.b.ag d m z k
structure xT(w:World)(d:Nat)(M:Value)(A:Wa)(s:Wd):Prop where
 e:qA w d 168
 h:w.cell? ⟨d,0,none⟩=some (tp A.Q)
 i:w.cell? ⟨d,1,none⟩=some M
 b:bF w A s
def Fz.O{s s':Wd}(h:bF w A s)(f:Fz A s w A' s' w'){X:Nat}(a:qA w X 168):w'.heap[X]?=w.heap[X]?:=f.H a.H (h.ab a cn cn cn cn cn) (λq=>a.j q cn rfl)
def xT.j{M:Dv}{s s':Wd}(h:xT w d M A s)(g:bF w' A' s')(f:Fz A s w A' s' w'):xT w' d M A' s':=by
 have c:=Fz.O h.b f h.e;exact⟨h.e.e c,by rw[f.Q];exact(aa (a:=(aA d 0)) c).trans h.h,(aa (a:=(aA d 1)) c).trans h.i,g⟩
def qy(d:Nat)(M:Value)(A:Wa)(s:Wd)(w:World)(r:ByteArray ⊕ Nat)(s':Wd)(e:Ending)(w':World):Prop:=
 e=(match r with|.inl t=>.returned (.string t)|.inr n=>cH n)/\∃A',xT w' d M A' s'/\Fz A s w A' s' w'
def qy.h{M:Dv}{s:Wd}(h:xT w d M A s)(n:Nat):qy d M A s w (.inr n) s (cH n) w:=⟨rfl,A,h,Fz.j⟩
def qy.j{M:Dv}{s:Wd}(h:xT w d M A s)(c:FF w w')(r:DS ⊕ Nat):qy d M A s w r s (match r with|.inl t=>.returned (.string t)|.inr n=>cH n) w':=by
 obtain⟨e,a⟩:=h.b.h c;exact⟨rfl,A,h.j e a,a⟩
def Zf{M:Dv}{s:Wd}(ao:Option Addr)(n c:Nat)(h:xT w d M A s)(m:fV s C)(r:C<=10000000000):
  Calls prog 83 #[tp d,.slice ao n c] w (qy d M A s w (if n=0 then .inl ⟨#[99,114,97,115,104]⟩ else .inr 3) (if n=0 then s.aU else s)):=by
 by_cases h0:n=0
 .subst h0;rw[aH rfl,aH rfl];have i:=nG ao c 0 w;have g:=Oo h.b m r;have c0:=h.h;have o:Hid (∀w',bF w' A s.aU->Fz A s w A s.aU w'->qy d M A s w (.inl ⟨#[99,114,97,115,104]⟩) s.aU (.returned (.string ⟨#[99,114,97,115,104]⟩)) w'):=λw' a b=>⟨rfl,A,h.j a b,b⟩;go_in;go_wp2_with fail
  refine i.mono ?_;rintro e w2⟨rfl,f⟩;rw[f];go_wp2_with fail
  refine g.mono ?_;rintro e w3⟨rfl,p,q⟩;have k:=o.out w3 p q;have l:Hid (qy d M A s w (.inl ⟨#[99,114,97,115,104]⟩) s.aU (.returned (.string ⟨#[99,114,97,115,104]⟩)) w3):=k;clear p q k o g;go_wp2;go_ret;exact l.out
 .rw[ay h0,ay h0];have i:=nF ao c n 0 w ak;have k:Hid (qy d M A s w (.inr 3) s (cH 3) w):=qy.h h 3;clear h m;go_in;go_wp2_with fail
  refine i.mono ?_;rintro e w2⟨rfl,f⟩;rw[f];clear f i;go_wp2;exact⟨rfl,k.out⟩
abbrev RST:ByteArray:=⟨#[114,101,115,116,97,114,116]⟩
def Ty{M:Dv}{s:Wd}(ao:Option Addr)(n c:Nat)(h:xT w d M A s)(z:fV s C)(F:C<=10000000000)(p:m5 B w)(g:Ex 1 w A s):
  Calls prog 92 #[tp d,.slice ao n c] w (qy d M A s w (if n=0 then (if s.sv.isSome=true then .inr 6 else .inl RST) else .inr 3) (if n=0 then s.e else s)):=by
 by_cases h0:n=0
 .subst h0;rw[aH rfl,aH rfl];have m:=nG ao c 0 w;have i:=vr A s C w h.b z F p.b g.q;have c0:=h.h;have r:=h.b.I;have G:Hid (∀{A':Wa} {s':Wd} {w':Ba},Fz A s w A' s' w'->iZ w'):=λH=>Fz.Z H g r p.b;have D:Hid (∀w' a,bF w' {A with a:=a} s.e->Fz A s w {A with a:=a} s.e w'->xT w' d M {A with a:=a} s.e):=λw' a x y=>h.j x y;cases hs:s.sv.isSome with
  |true=>
   rw[hs,aH rfl,show eV 6=.iface 59 (iI 6) from rfl]at i;rw[aH rfl];go_in;go_wp2_with fail
   refine m.mono ?_;rintro e w2⟨rfl,f⟩;rw[f];go_wp2_with fail
   refine i.mono ?_;rintro e w3⟨rfl,a,t,l⟩;have u:=wG (n:=6) (G.out l);have o:Hid (∀w4,FF w3 w4->qy d M A s w (.inr 6) s.e (cH 6) w4):=λw4 k=>by
    have x:=D.out w3 a t l;obtain⟨J,E⟩:=x.b.h k;exact⟨rfl,_,x.j J E,l.e E⟩
   go_wp2_with fail
   refine u.mono ?_;rintro e w4⟨rfl,k⟩;have K :Hid _:= (o.out w4 k);go_wp2;exact⟨rfl,K.out⟩
  |false=>
   rw[hs,ay cn,show eV 0=.nilIface from rfl]at i;rw[ay cn];go_in;go_wp2_with fail
   refine m.mono ?_;rintro e w2⟨rfl,f⟩;rw[f];go_wp2_with fail
   refine i.mono ?_;rintro e w3⟨rfl,a,t,l⟩;have o:Hid (qy d M A s w (.inl RST) s.e (.returned (.string RST)) w3):=⟨rfl,_,D.out w3 a t l,l⟩;go_wp2_with fail
   refine(CA w3).mono ?_;rintro e w4⟨rfl,v⟩;rw[v];go_wp2;go_ret;exact o.out
 .rw[ay h0,ay h0];have m:=nF ao c n 0 w ak;have o:Hid (qy d M A s w (.inr 3) s (cH 3) w):=qy.h h 3;clear h z p g;go_in;go_wp2_with fail
  refine m.mono ?_;rintro e w2⟨rfl,f⟩;rw[f];clear f m;go_wp2;exact⟨rfl,o.out⟩
def abg{M:Dv}{s:Wd}(ao:Option Addr)(n c:Nat)(h:xT w d M A s)(t:s.dP.length<=200)(p:m5 B w):
  Calls prog 89 #[tp d,.slice ao n c] w (qy d M A s w (if n=0 then .inl ⟨(Lib.itoa s.dP.length).toArray⟩ else .inr 3) s):=by
 by_cases h0:n=0
 .subst h0;rw[aH rfl];have m:=nG ao c 0 w;have c0:=h.h;have g:=af (s.dP.length:Int) ak ak p.i.here;have q:Hid (∀w',FF w w'->qy d M A s w (.inl ⟨(Lib.itoa s.dP.length).toArray⟩) s (.returned (.string ⟨(Lib.itoa s.dP.length).toArray⟩)) w'):=λw' a=>qy.j h a (.inl ⟨(Lib.itoa s.dP.length).toArray⟩);go_in;go_wp2_with fail
  refine m.mono ?_;rintro e w2⟨rfl,f⟩;rw[f];go_wp2_with fail
  refine(CL h.b).mono ?_;rintro e w2⟨rfl,f⟩;rw[f];go_wp2_with fail
  refine g.mono ?_;rintro e w3⟨rfl,k,r,l⟩;have o:Hid (qy d M A s w (.inl ⟨(Lib.itoa s.dP.length).toArray⟩) s (.returned (.string ⟨(Lib.itoa s.dP.length).toArray⟩)) w3):=q.out w3 (by rw[l];exact Lib.below_grow _ _ (aj _) k r);clear l g q;go_wp2;go_ret;exact o.out
 .rw[ay h0];have m:=nF ao c n 0 w ak;have o:Hid (qy d M A s w (.inr 3) s (cH 3) w):=qy.h h 3;clear h p;go_in;go_wp2_with fail
  refine m.mono ?_;rintro e w2⟨rfl,f⟩;rw[f];clear f m;go_wp2;exact⟨rfl,o.out⟩
def upD{M:Dv}{s:Wd}(ao:Option Addr)(n c:Nat)(h:xT w d M A s):
  Calls prog 95 #[tp d,.slice ao n c] w (qy d M A s w (if n=0 then .inl ⟨(Lib.formatBool s.sv.isSome).toArray⟩ else .inr 3) s):=by
 by_cases h0:n=0
 .subst h0;rw[aH rfl];have f:=nG ao c 0 w;have g:=pU h.b;have c0:=h.h;have i:=an s.sv.isSome w;have l:Hid (qy d M A s w (.inl ⟨(Lib.formatBool s.sv.isSome).toArray⟩) s (.returned (.string ⟨(Lib.formatBool s.sv.isSome).toArray⟩)) w):=qy.j h (au _ _) (.inl ⟨(Lib.formatBool s.sv.isSome).toArray⟩);clear h;generalize s.sv.isSome=b at *;go_in;go_wp2_with fail
  refine f.mono ?_;rintro e w2⟨rfl,a⟩;rw[a];clear a f;go_wp2_with fail
  refine g.mono ?_;rintro e w2⟨rfl,a⟩;rw[a];clear a g;go_wp2_with fail
  refine i.mono ?_;rintro e w3⟨rfl,k⟩;rw[k];clear k i;go_wp2;go_ret;exact l.out
 .rw[ay h0];have f:=nF ao c n 0 w ak;have l:Hid (qy d M A s w (.inr 3) s (cH 3) w):=qy.h h 3;clear h;go_in;go_wp2_with fail
  refine f.mono ?_;rintro e w2⟨rfl,a⟩;rw[a];clear a f;go_wp2;exact⟨rfl,l.out⟩
def Wq(w:World)(v:Value)(ws:List ByteArray):Prop:=∃ao c,v=.slice ao ws.length c/\ws.length<=c/\(0<ws.length->∃g o,ao=some ⟨g,o,none⟩/\g<w.heap.size/\∀i (a:i<ws.length),w.cell? ⟨g,o+i,none⟩=some (.string ws[i]))
def Wq.e{v:Dv}(h:Wq w v ws)(b:FF w w'):Wq w' v ws:=by
 let ⟨ao,c,e,hc,f⟩:=h
 refine⟨ao,c,e,hc,λh0=>?_⟩;let ⟨g,o,j,d,a⟩:=f h0
 exact⟨g,o,j,aN d b.size,λi k=>(b.cell (p:=(aA g (o+i))) d).trans (a i k)⟩
def jb:List ByteArray->Option (List Int)
 | []=>some []
 |x::t=>match rI x with
  |none=>none
  |some n=>match jb t with
   |none=>none
   |some l=>some (n::l)
def ud:∀(a:List DS) (x:DS) (l:List Int),jb a=some l->jb (a++[x])=(rI x).map λn=>l++[n]
 | [],x,l,h=>by
  injection h with h
  subst h;show jb [x]=_;unfold jb;cases rI x with
  |none=>rfl
  |some n=>rfl
 |y::t,x,l,h=>by
  show jb (y::(t++[x]))=_;unfold jb at h⊢;cases hy:rI y with
  |none=>rw[hy]at h;cases h
  |some n=>
   rw[hy]at h;dsimp only at h⊢;cases ht:jb t with
   |none=>rw[ht]at h;cases h
   |some b=>
    rw[ht]at h;injection h with h
    subst h;rw[ud t x b ht];cases rI x<;>rfl
def AD:∀(a b:List DS),jb a=none->jb (a++b)=none
 | [],_,h=>by cases h
 |y::t,b,h=>by
  show jb (y::(t++b))=none;unfold jb at h⊢;cases hy:rI y with
  |none=>rfl
  |some n=>
   rw[hy]at h;dsimp only at h⊢;cases ht:jb t with
   |none=>rw[AD t b ht]
   |some c=>rw[ht]at h;cases h
def kc:∀(a:List DS) (l:List Int),jb a=some l->l.length=a.length
 | [],l,h=>by injection h with h;subst h;rfl
 |y::t,l,h=>by
  unfold jb at h;cases hy:rI y with
  |none=>rw[hy]at h;cases h
  |some n=>
   rw[hy]at h;dsimp only at h;cases ht:jb t with
   |none=>rw[ht]at h;cases h
   |some b=>
    rw[ht]at h;injection h with h
    subst h;simp[kc t b ht]
def cD(ws:List ByteArray)(a:Int):Option (List Int):=if (ws.length:Int)=a then jb ws else none
def gN(ws:List ByteArray)(a:Int)(w:World)(e:Ending)(w':World):Prop:=
 FF w w'/\((cD ws a=none/\e=cH 3)\/∃l v,cD ws a=some l/\e=.returned v/\de w' w.heap.size v l)
structure Nk(ws:List ByteArray)(w wr:World)(k:Nat)(l:List Int):Prop where
 b:FF w wr
 e:jb (ws.take k)=some l
 h:wr.ownsRow w.heap.size 3 1 (.slice (some ⟨w.heap.size,0,none⟩) ws.length ws.length) ws.length (l.map (Value.int .i64)++List.replicate (ws.length-k) (Value.int .i64 0))
def Nk.j{wr:Ba}(h:Nk ws w wr k l)(d:k<ws.length){n:Int}(f:rI ws[k]=some n)(a:FF wr w2):Nk ws w (w2.setCell (FI w k) (iI n)) (k+1) (l++[n]):=by
 have c:=kc _ _ h.e;rw[cx,Nat.min_eq_left ak]at c;refine⟨(h.b.trans (a.mono h.b.size)).setCell (p:=(FI w k)) (aj _) _,?_,?_⟩;rw[bw d,ud _ _ _ h.e,f];rfl;have g:=Cache.bq h.h a;have r3:=g.stored k (iI n);have e:(l.map (Value.int .i64)++List.replicate (ws.length-k) (Value.int .i64 0)).set k (iI n)=(l++[n]).map (Value.int .i64)++List.replicate (ws.length-(k+1)) (Value.int .i64 0):=by
  rw[show ws.length-k=(ws.length-(k+1))+1 by omega,List.replicate_succ,dE,bP,List.set_append_right _ _ (by rw[bz];omega),bz,c,mG];rfl
 rw[e]at r3;exact r3.1
def OT:(madeCells (Value.int IntKind.i64 0).cells (n*1)).toList=([]:List Int).map (Value.int .i64)++List.replicate (n-0) (Value.int .i64 0):=by
 show (madeCells #[Value.int IntKind.i64 0] (n*1)).toList=_;rw[Nat.mul_one,toList_madeCells_one];rfl
def Hb{v:Dv}(many:Int)(h:m5 B w)(hv:Wq w v ws)(hs:∀x∈ws,x.size<=1000000)(hl:ws.length<=1000000):
  Calls prog 145 #[v,iI many] w (gN ws many w):=by
 obtain⟨ao,c,rfl,hc,hv⟩:=hv;by_cases hm:(ws.length:Int)=many
 .subst hm;have hn:=nG ao c ws.length w;let ⟨i0,hi,hz0,hz1,hz2⟩:=dg (P:=prog) (e:=3) (show (prog.info? 3).map (λi=>(i.zero,i.size,i.bytes))=some (some (iI 0),1,8) by kernel_rfl)
  go_in;go_wp2_with fail
  apply hn.mono;rintro e w2⟨rfl,hw2⟩;rw[hw2]

  go_wp2_with (refine wpList_make_full _ rfl _ _ 26 rfl w.heap.size 3 i0 _ 1 underlying26 hi hz0 hz1 .i64 .i64 _ _ ws.length rfl rfl rfl rfl (by rw[hz2];omega) (by unfold maxLen;omega) (aj _) ?_;intro w3 hrow hg)
  have hN0:Nk ws w w3 0 []:=⟨(au _ w).grown hg (aj _) (λk e=>by cases e),rfl,by
   rw[show (madeCells (Value.int IntKind.i64 0).cells (ws.length*1)).toList=([]:List Int).map (Value.int .i64)++List.replicate (ws.length-0) (Value.int .i64 0) from OT]at hrow;exact hrow⟩
  have HV:Hid (0<ws.length->∃g o,ao=some (aA g o)/\g<w.heap.size/\∀i (hi:i<ws.length),cC w (aA g (o+i)) (.string ws[i])):=hv;have HS:Hid (∀x∈ws,x.size<=1000000):=hs;have HB:Hid (m5 B w):=h;have HN:Hid (Nk ws w w3 0 []):=hN0

  go_loopw [15] (λi wr=>∃(k:Nat) (l:List Int),k<=ws.length/\i=iI k/\Nk ws w wr k l) (λi _=>ws.length-(intOf i).toNat)
  case atStart=>exact⟨0,[],ak,rfl,HN.out⟩
  case round=>
   obtain⟨k,l,hk,rfl,D⟩:=hrel;by_cases hlt:k<ws.length
   .obtain⟨g,o,rfl,hg,hcell⟩:=HV.out ak;have hltz:(k:Int)<(ws.length:Int):=ak;let ⟨x,hx⟩:∃x,ws[k]'hlt=x:=⟨_,rfl⟩
    have hc:cC wr (aA g (o+k)) (.string x):=by rw[<-hx];exact(D.b.cell (p:=(aA g (o+k))) hg).trans (hcell k hlt)
    have hnum:=JZ x (HB.out.on D.b) (by rw[<-hx];exact HS.out _ (bp hlt));have HD:Hid (Nk ws w wr k l):=D;have HL:Hid (k<ws.length):=hlt;have HX:Hid (ws[k]'HL.out=x):=hx

    cases hn:rI x with
    |none=>
     rw[hn]at hnum;dsimp only at hnum;have HE:Hid (∀w4,FF wr w4->gN ws ws.length w (cH 3) w4):=λw4 hb=>⟨HD.out.b.trans (hb.mono HD.out.b.size),.inl ⟨by
      unfold cD;rw[aH rfl];have e:=jR (k+1) ws;rw[<-e];apply AD _ _;rw[bw HL.out,ud _ _ _ HD.out.e,HX.out,hn];rfl,rfl⟩⟩

     go_wp2_with fail
     apply hnum.mono;rintro e w4⟨rfl,hb4⟩;have HF:Hid (gN ws ws.length w (cH 3) w4):=HE.out w4 hb4

     go_wp2;exact⟨rfl,HF.out⟩
    |some n=>
     rw[hn]at hnum;dsimp only at hnum;have HE:Hid (∀w4,FF wr w4->Nk ws w (w4.setCell (FI w k) (iI n)) (k+1) (l++[n])):=λw4 hb=>HD.out.j HL.out (HX.out▸hn) hb;have HO:Hid (∀w4,FF wr w4->w4.frozen? (FI w k)=false/\∃v,cC w4 (FI w k) v):=λw4 hb=>by
      have r2:=Cache.bq HD.out.h hb;refine⟨r2.frozenAt k,?_⟩;have h1:=r2.cellAt k (jd HL.out);have h2:k<(l.map (Value.int .i64)++List.replicate (ws.length-k) (Value.int .i64 0)).length:=by
       have h3:=kc _ _ HD.out.e;rw[cx]at h3;rw[aL,bz,ni];have:=HL.out;omega
      rw[aE h2]at h1;exact⟨_,h1⟩

     go_wp2_with fail
     apply hnum.mono;rintro e w4⟨rfl,hb4⟩;have HF:Hid (Nk ws w (w4.setCell (FI w k) (iI n)) (k+1) (l++[n])):=HE.out w4 hb4;let ⟨hfr,u,hu⟩:=HO.out w4 hb4

     go_wp2;go_roundw
     case rel=>exact⟨k+1,_,ak,by go_num,HF.out⟩
     case measure=>simp[intOf];omega
   .obtain rfl:k=ws.length:=ak;have hltz:¬(ws.length:Int)<(ws.length:Int):=ak;have HE:Hid (gN ws ws.length w (.returned (.slice (some (FI w 0)) ws.length ws.length)) wr):=by
     have h1:=D.e;rw[fP]at h1;have h2:=D.h;have h3:=kc _ _ h1;refine⟨D.b,.inr ⟨l,_,by unfold cD;rw[aH rfl];exact h1,rfl,?_⟩⟩;rw[mG,List.replicate_zero,ei]at h2;unfold de;rw[h3];exact h2

    go_wp2;go_ret;exact HE.out
 .have hn:=nF ao c ws.length many w hm;have HE:Hid (gN ws many w (cH 3) w):=⟨au _ _,.inl ⟨by unfold cD;rw[ay hm],rfl⟩⟩;go_in;go_wp2_with fail
  apply hn.mono;rintro e w2⟨rfl,hw2⟩;rw[hw2];go_wp2;exact⟨rfl,HE.out⟩
abbrev lQ:=(ByteArray ⊕ Nat)×Wd
def sG(e:Int)(t:ByteArray)(s:Wd):lQ:=(if e=0 then .inl t else .inr e.toNat,s)
def kT(ws:List ByteArray)(s:Wd)(f:Int->lQ):lQ:=match cD ws 1 with
 |some (a::_)=>f a
 |_=>(.inr 3,s)
def pR(ws:List ByteArray)(s:Wd)(f:Int->Int->lQ):lQ:=match cD ws 2 with
 |some (a::b::_)=>f a b
 |_=>(.inr 3,s)
def Bm(ws:List ByteArray)(s:Wd)(f:Int->Int->Int->Int->lQ):lQ:=match cD ws 4 with
 |some (a::b::c::d::_)=>f a b c d
 |_=>(.inr 3,s)
def qB(ws:List ByteArray)(s:Wd)(r:lQ):lQ:=if ws.length=0 then r else (.inr 3,s)
def Wd.b0(s:Wd)(k:Int):Int:=if s.ah k=true then 0 else 2
def Wd.a9(s:Wd)(k:Int):Int:=if jW k s.dP.length=true then 0 else 2
def Wd.bl(s:Wd)(k:Int):Wd:=if s.ah k=true then s.aw k.toNat else s
def Wd.bc(s:Wd)(k:Int):Wd:=if s.ah k=true then s.bs k.toNat else s
def Wd.a6(s:Wd)(k:Int):Wd:=if jW k s.dP.length=true then s.j k.toNat else s
def Wd.b4(s:Wd)(k:Int):Wd:=if jW k s.dP.length=true then s.ca k.toNat else s
def Wd.bu(s:Wd)(k:Int):Wd:=if jW k s.dP.length=true then s.ao k.toNat else s
def Wd.bk(s:Wd)(k o:Int):Int:=if s.ah k=true then (s.bm k.toNat).k.h o else 2
def Wd.bf(s:Wd)(k o:Int):Wd:=if s.ah k=true then (if (s.bm k.toNat).k.h o=0 then s.cc k.toNat o else s) else s
def Wd.a8(s:Wd)(k o:Int)(d:ByteArray):Int:=if s.ah k=true then (s.bm k.toNat).k.e o d else 2
def Wd.a7(s:Wd)(k o:Int)(d:ByteArray):Wd:=if s.ah k=true then (if (s.bm k.toNat).k.e o d=0 then s.b8 k.toNat o d else s) else s
def Wd.b7(s:Wd)(l:List Int):Bool:=decide (l.length=1+s.n)&&!l.any qz
def Wd.be(s:Wd)(l:List Int):Int:=if s.b7 l=true then 0 else 2
def Wd.bd(s:Wd)(l:List Int):Wd:=if s.b7 l=true then s.aq (l.getD 0 0) (λk=>l.getD (1+k) 0) else s
variable{s s':Wd}
def pL(tob tv td n:Int):Bool:=Ay tob tv td&&decide (1<=n/\n<=4)
def i5(d t:Int):Bool:=decide (0<=d/\d<=500)&&decide (0<=t/\t<=1099511627776)
def kK(n:Int):ByteArray:=⟨(Lib.itoa n).toArray⟩
def kM(d:ByteArray)(v:Int):ByteArray:=(if d=⟨#[]⟩ then ⟨#[95]⟩ else d)++⟨#[32]⟩++kK v
def nD(e:Ev):ByteArray:=
 if e.Gj=false then (if e.Aa=2 then ⟨#[119,114,105,116,101,32]⟩ else ⟨#[114,101,97,100,32]⟩)++(kK e.b++⟨#[32]⟩++kK e.Js)++⟨#[32,111,112,101,110]⟩
 else if e.XA=true then (if e.Aa=2 then ⟨#[119,114,105,116,101,32]⟩ else ⟨#[114,101,97,100,32]⟩)++(kK e.b++⟨#[32]⟩++kK e.Js)++(⟨#[32]⟩++kM e.d e.N6)++⟨#[32,104,105,116]⟩
 else (if e.Aa=2 then ⟨#[119,114,105,116,101,32]⟩ else ⟨#[114,101,97,100,32]⟩)++(kK e.b++⟨#[32]⟩++kK e.Js)++(⟨#[32]⟩++kM e.d e.N6)
def kN(s:Wd)(o:Int):lQ:=match s.sv with
 |none=>(.inr 6,s)
 |some v=>if eI o=true then (.inl (kM (v.vd o.toNat) (v.vv o.toNat)),s) else (.inr 2,s)
def lq(ws:List ByteArray)(s:Wd):lQ:=if ws.length=3 then pR (ws.take 2) s λk o=>sG (s.a8 k o (ws.getD 2 ⟨#[]⟩)) ⟨#[119,114,105,116,101]⟩ (s.a7 k o (ws.getD 2 ⟨#[]⟩)) else (.inr 3,s)
def sU(ws:List ByteArray)(s:Wd):lQ:=match jb ws with
 |some l=>sG (s.be l) ⟨#[103,111,101,115]⟩ (s.bd l)
 |none=>(.inr 3,s)
def Lz:ByteArray:=⟨#[97,103,97,105,110,32,98,101,103,105,110,32,99,97,108,108,115,32,99,97,108,109,32,99,114,97,115,104,32,100,101,108,105,118,101,114,32,102,97,105,108,115,32,103,111,101,115,32,104,101,108,112,32,108,111,115,101,32,109,97,110,121,32,114,101,97,100,32,114,101,98,111,114,110,32,114,101,115,116,97,114,116,32,115,104,111,114,116,32,116,119,105,99,101,32,117,112,32,118,97,108,117,101,32,119,114,105,116,101]⟩
structure Kq(k:K):Prop where
 b:fN k.Sl
 i:0<=k.kW
 j:k.kW<=7
 d:k.d.size<=20
 h:∀x∈k.gS,fN x.v/\x.d.size<=20
def I64.ab:fN 0:=⟨ak,ak⟩
def Kq.e{k:K}(h:Kq k){d:DS}(a:d.size<=20){v:Int}(b:fN v):Kq (k.Z d v):=⟨b,h.i,h.j,a,h.h⟩
def Kq.ab{k:K}(h:Kq k)(m:M)(c:fN m.v/\m.d.size<=20):Kq (k.I m).1:=by
 unfold K.I;split;dsimp only;unfold K.ai;split;exact⟨h.b,h.i,h.j,h.d,λx a=>h.h x (sk a)⟩;exact⟨h.b,h.i,h.j,h.d,λx a=>h.h x (sk a)⟩;split;exact h;split;dsimp only;unfold K.al;split;exact⟨h.b,h.i,h.j,h.d,h.h⟩;exact h;split;dsimp only;unfold K.av;split;exact h;exact⟨h.b,h.i,h.j,h.d,λx a=>(by simp at a)⟩;split;dsimp only;unfold K.a2;split;exact h;refine Kq.e ?_ c.2 c.1;split;exact⟨h.b,h.i,h.j,h.d,λx a=>by
  rcases vn a with q|q
  rw[q];exact c;exact h.h x q⟩
 exact h;split;exact h.e h.d c.1;exact h
def Kq.O{k:K}(h:Kq k):Kq (k.ah now):=by
 unfold K.ah;split;exact⟨h.b,h.i,h.j,h.d,h.h⟩;exact h
def Kq.I{k:K}(h:Kq k)(now:Int)(c:Int){d:DS}(e:d.size<=20){v:Int}(f:fN v)(g i:Bool)(a:0<=o)(b:o<=7):Kq (k.V c o d v g i now):=⟨f,a,b,e,h.h⟩
def Kq.H{k:K}(h:Kq k)(o:Int):Kq (k.H o):=by
 unfold K.H;split;exact h;rename_i x a;exact⟨h.b,h.i,h.j,h.d,λy c=>by
  rcases vn c with q|q
  rw[q];exact h.h x (gy a);exact h.h y q⟩
def Kq.V{k:K}(h:Kq k)(l:0<=o)(m:o<=7):Kq (k.ao o now):=by
 have g:=h.I now 1 (d:=⟨#[]⟩) cn I64.ab false false l m;unfold K.ao;split;exact g.H o;rename_i x a;have c:=g.H o;have f:x∈(k.V 1 o ⟨#[]⟩ 0 false false now).gS:=by
  unfold K.aw at a;split at a;cases a;rename_i y n;split at a;cases a;injection a with a
  subst a;exact gy n
 exact Kq.e (k:={ (k.V 1 o ⟨#[]⟩ 0 false false now).H o with N7:=true}) ⟨c.b,c.i,c.j,c.d,c.h⟩ (g.h x f).2 (g.h x f).1
def Kq.Z{id obj a:Int}:Kq (K.j id obj a):=⟨I64.ab,by show (0:Int)<=0;omega,by show (0:Int)<=7;omega,by show (⟨#[]⟩:DS).size<=20;decide,λx b=>by cases b⟩
def Jt(e:Ev):Prop:=fN e.b/\fN e.Js/\fN e.N6/\e.d.size<=20
structure Em(w:Wd):Prop where
 h:∀i,i<w.n->Kq (w.bm i).k
 j:∀e∈w.bO,Jt e
 b:∀p∈w.dP,fN p.2.v/\p.2.d.size<=20
 o:w.n<=4
def Em.a6{w:Wd}(h:Em w)(t:Int)(m:M):Em (w.af t m):=by
 unfold Wd.af;split;rename_i a;refine⟨h.h,h.j,λp c=>?_,h.o⟩;rcases cI.1 c with q|q
 exact h.b p q;rw[bA.1 q];exact⟨(lL a.1).2,(lL a.1).1.2.2⟩;exact h
def Em.ab{t:Int}:∀(l:List M) {w:Wd},Em w->Em (w.O t l)
 | [],_,h=>h
 |m::l,_,h=>Em.ab (t:=t) l (h.a6 t m)
def Em.ah:∀(l:List M) {w:Wd},Em w->Em (w.I l)
 | [],_,h=>h
 |m::l,_,h=>Em.ah l (h.a6 (bK m.c:Nat) m)
def Em.an{w:Wd}(h:Em w):Em w.ae:=by
 unfold Wd.ae;split;exact h;split;exact⟨h.h,h.j,h.b,h.o⟩;exact h
def Em.e{w:Wd}(h:Em w){s:Sv}:Em (w.Z s):=⟨h.h,h.j,h.b,h.o⟩
def Em.Z{w:Wd}(h:Em w){r:Sv×List M}:Em (w.av r):=(Em.ah r.2 (h.e (s:=r.1))).an
def Em.av{w:Wd}(h:Em w)(i:Nat){k:K}(a:Kq k):Em (w.ac i k):=⟨λj c=>by
  show Kq (cq w.bm i {w.bm i with k:=k} j).k;unfold cq;split;exact a;exact h.h j c,h.j,h.b,h.o⟩
def AB{α:Type}(f:α->α):∀(l:List α) (i:Nat) (x:α),x∈l.modify i f->x∈l\/∃y∈l,x=f y
 | [],i,x,h=>by simp at h
 |y::t,0,x,h=>by
  rw[List.modify_zero_cons]at h;rcases bG.1 h with q|q
  exact .inr ⟨y,dj,q⟩;exact .inl (cJ _ q)
 |y::t,i+1,x,h=>by
  rw[List.modify_succ_cons]at h;rcases bG.1 h with q|q
  rw[q];exact .inl dj;rcases AB f t i x q with q|⟨z,a,q⟩
  exact .inl (cJ _ q);exact .inr ⟨z,cJ _ a,q⟩
def Em.ap{w:Wd}(h:Em w)(f:i<w.n):Em (w.V i):=by
 unfold Wd.V;split;exact h;refine⟨λj c=>?_,λe g=>?_,h.b,h.o⟩;show Kq (cq w.bm i _ j).k;unfold cq;split;rename_i e;subst e;exact h.h j c;exact h.h j c;rcases AB _ _ _ _ g with q|⟨y,l,q⟩
 exact h.j e q;have a:=h.h i f;rw[q];exact⟨(h.j y l).1,⟨by have:=a.i;show _<=(w.bm i).k.kW;omega,by have:=a.j;show (w.bm i).k.kW<=_;omega⟩,a.b,a.d⟩
def Em.a5{w:Wd}(h:Em w)(a:i<w.n):Em (w.b5 i):=Em.ab _ (h.av i ((h.h i a).O))
def Em.V{w:Wd}(h:Em w)(x:Int):Em {w with cm:=x}:=⟨h.h,h.j,h.b,h.o⟩
def Em.ac{w:Wd}(h:Em w)(a:i<w.n):Em (w.aw i):=Em.a5 (w:={w with cm:=w.cm+1}) (h.V _) a
def LH(t:Int):∀(l:List M) (w:Wd),(w.O t l).n=w.n
 | [],_=>rfl
 |m::l,w=>(LH t l (w.af t m)).trans (by unfold Wd.af;split<;>rfl)
def Em.a8{w:Wd}(h:Em w){t:Int}{m:M}(b:fN m.v/\m.d.size<=20):Em (w.b1 t m):=by
 unfold Wd.b1;split;unfold Wd.H;split;exact h;exact h.Z;split;rename_i c;have a:t.toNat<w.n:=by
  simp[Wd.ah]at c;omega
 apply Em.ap (Em.ab _ (h.av _ ((h.h _ a).ab m b)));rw[LH];exact a;exact h
def Em.H{w:Wd}(h:Em w)(k:Nat):Em (w.j k):=by
 unfold Wd.j;split;exact h;rename_i p a;exact Em.a8 (w:={w with dP:=w.dP.eraseIdx k,cm:=w.cm+1}) ⟨h.h,h.j,λq c=>h.b q (gI c),h.o⟩ (h.b p (fg a))
def Em.a7{w:Wd}(h:Em w):Em (w.ca k):=⟨h.h,h.j,λq a=>h.b q (gI a),h.o⟩
def Em.a4{w:Wd}(h:Em w):Em (w.ao k):=by
 unfold Wd.ao;split;exact h;rename_i p a;split;refine⟨h.h,h.j,λq c=>?_,h.o⟩;rcases cI.1 c with e|e
 exact h.b q e;rw[bA.1 e];exact h.b p (fg a);exact h
def WP(w:Wd)(k:Nat):(w.V k).n=w.n:=by unfold Wd.V;split<;>rfl
def Em.ae{w:Wd}(h:Em w)(a:k<w.n){c:K}(hc:Kq c):Em (w.al k c):=by
 have f:Em (w.ai k c):=by
  refine⟨λj g=>?_,λe l=>?_,h.b,h.o⟩;show Kq (cq w.bm k _ j).k;unfold cq;split;exact hc;exact h.h j g;rcases cI.1 l with q|q
  exact h.j e q;rw[bA.1 q];have:=h.o;exact⟨⟨by show _<=(k:Int);omega,by show (k:Int)<=_;omega⟩,I64.ab,I64.ab,by show (⟨#[]⟩:DS).size<=20;decide⟩
 have d:=f.ap (i:=k) a;unfold Wd.al Wd.b6;split;exact d;exact d.a5 (by rw[WP];exact a)
def Em.aw{w:Wd}(h:Em w):Em w.a3:=by
 unfold Wd.a3;split;exact h;exact h.Z
def Em.ao{w:Wd}(h:Em w){b:Int}{f:Nat->Int}:Em (w.aq b f):=Em.aw (w:=w.b3 b f) ⟨λi a=>h.h i a,h.j,h.b,h.o⟩
def Em.ai{w:Wd}(h:Em w)(x t:Int):Em (w.ab x t):=by
 unfold Wd.ab;split;exact⟨h.h,h.j,h.b,h.o⟩;exact h.e
def Em.a2{w:Wd}(h:Em w):Em w.aU:=⟨h.h,h.j,h.b,h.o⟩
def Em.O{w:Wd}(h:Em w):Em w.e:=by
 unfold Wd.e;split;exact h;exact Em.e (w:={w with cm:=w.cm+1}) (h.V _)
def Em.aq{w:Wd}(h:Em w):Em (w.bs k):=⟨λj a=>by
  show Kq (cq w.bm k _ j).k;unfold cq;split;exact Kq.Z;exact h.h j a,h.j,h.b,h.o⟩
def Em.ag:∀(f:Nat) {w:Wd},Em w->Em (w.a2 f)
 |0,_,h=>h
 |f+1,w,h=>by
  unfold Wd.a2;split;exact h;exact Em.ag f (h.H 0)
def Em.I{w:Wd}(h:Em w):Em w.ag:=Em.ag _ h
def Em.af{w:Wd}(h:Em w):∀k,k<=w.n->Em (w.ap k)
 |0,_=>h
 |k+1,a=>(Em.ac (Em.af h k ak) (by rw[uZ];omega)).I
def Em.aU{w:Wd}(h:Em w):Em w.b2:=((h.O.af _ (by rw[oM];exact aj _)).ao).I
def Em.al{w:Wd}(h:Em w):∀r,Em (w.a4 r)
 |0=>h
 |r+1=>(Em.al h r).aU
def Em.a3(a:n<=4):Em (Wd.h tob tv td n).start:=⟨λi _=>Kq.Z,λe b=>by simp[Wd.start,Wd.Z,Wd.h]at b,λp c=>by simp[Wd.start,Wd.Z,Wd.h]at c,a⟩
def WS(t:TypeId):Bool:=t==81||(t==90||(t==45||(t==162||(t==144||(t==296||(t==301||(t==138||(t==129||(t==201||t==168)))))))))
def J3:Obj->Bool
 |.cells _ t _=>!WS t
 |.map _ _=>false
 |_=>true
def Cr(w:World)(k:Nat):Prop:=∃o,w.heap[k]?=some o/\J3 o=true
def Cr.h(h:Cr w k):k<w.heap.size:=by
 let ⟨o,h,_⟩:=h
 exact(ar.1 h).1
def Cr.e(h:Cr w k)(e:w'.heap[k]?=w.heap[k]?):Cr w' k:=by unfold Cr;rw[e];exact h
def qA.h(h:qA w k t)(b:WS t=true):¬Cr w k:=by
 rintro⟨o,a,c⟩;let ⟨d,f,h⟩:=h
 rw[h]at a;injection a with a
 subst a;simp[J3,b]at c
def xB{H:Type}{P:Ft}{k:DU}{R:Dv->Option (DataW H×List MemPlace)}{b:Nat}{D:DataW H}(h:w.ownsMap P k R b n D):¬Cr w b:=by
 rintro⟨o,a,d⟩;let ⟨e,c,h,_⟩:=h
 rw[h]at a;injection a with a
 subst a;cases d
def bi.aU{c m:Nat}{k:K}(h:bi w c m k):¬Cr w m:=h.p.elim λ_ s=>xB s.1
def bZ.a2{a:Ad}{s:Sv}(h:bZ w a s)(c:¬Cr w a.q)(d:eM w a k):¬Cr w k:=by
 rcases h.ah d with f|f|f|f|f|f|f
 rw[f];exact c;rw[f];exact xB h.p.b;exact f.h rfl;exact f.h rfl;exact f.h rfl;exact f.h rfl;exact f.h rfl
def bF.ae(h:bF w A s)(f:wfoot w A s k):¬Cr w k:=by
 rcases f with f|f|⟨v,c,d⟩|⟨i,e,f⟩|⟨i,e,f⟩|⟨c,d⟩
 rw[f];exact h.b.b.h rfl;rw[f];exact h.u.h rfl;let ⟨l,a,g⟩:=h.x
 rw[c]at a;injection a with a
 subst a;exact(cT g d).2.h rfl;rw[f];exact(h.o i e).ac.h rfl;rw[f];exact(h.o i e).aU;let ⟨v,j⟩:=aP.1 c
 have u:=h.t v j;exact u.b.a2 (by rw[u.q];exact h.b.b.h rfl) d
structure Dz(N d:Nat)(w w':World):Prop where
 p:w'.os=w.os
 j:w'.tape=w.tape
 e:w'.output=w.output
 i:w.heap.size<=w'.heap.size
 o:∀k,k<N->k≠d->w'.heap[k]?=w.heap[k]?
 b:∀k,Cr w k->w'.heap[k]?=w.heap[k]?
def Dz.h{x y z:Ba}(h:Dz N d x y)(k:Dz N d y z):Dz N d x z:=
 ⟨k.p.trans h.p,k.j.trans h.j,k.e.trans h.e,aO h.i k.i,λi a c=>(k.o i a c).trans (h.o i a c),λi a=>(k.b i (a.e (h.b i a))).trans (h.b i a)⟩
def Dz.V(h:bF w A s)(f:Fz A s w A' s' w')(c:Ex N w A s):Dz N d w w':=by
 exact⟨f.t,f.o,f.b,f.h,λk a _=>(f.I c h.I).block k a,λk a=>f.H a.h (λq=>h.ae q a) (λq=>q.h rfl a)⟩
def Dz.O(h:Dz N d w w')(a:B<=N)(b:B<=d):Below B w w':=⟨h.p,h.j,h.e,h.i,λk c=>h.o k ak ak⟩
def Ex.h{a:Nat}(h:Ex N w A s)(b:a<=N):Ex a w A s:=λk c=>aO b (h k c)
structure Ds(B N d:Nat)(M:Value)(w:World)(A:Wa)(s:Wd)(C:Nat):Prop where
 b:xT w d M A s
 x:∀i,w.frozen? ⟨d,i,none⟩=false
 t:Ex N w A s
 j:m5 B w
 u:B<=d
 o:d<N
 p:N<=w.heap.size
 h:fV s C
 y:Em s
def Ds.ab{M:Dv}(h:Ds B N d M w A s C):Ex 1 w A s:=h.t.h (jd h.o)
def Ds.I{M:Dv}(h:Ds B N d M w A s C):iZ w:=h.j.b
def Ds.fz{M:Dv}(h:Ds B N d M w A s C)(c:bF w' A' s')(f:Fz A s w A' s' w')(g:fV s' C')(k:Em s'):Ds B N d M w' A' s' C'/\Dz N d w w':=by
 have z:Dz N d w w':=Dz.V h.b.b f h.t;exact⟨⟨h.b.j c f,λi=>(aG (a:=(aA d i)) (Fz.O h.b.b f h.b.e)).trans (h.x i),h.t.e f h.p,h.j.e (z.O (Pz h.u h.o) h.u),h.u,h.o,aO h.p f.h,g,k⟩,z⟩
def Ds.e{M:Dv}(h:Ds B N d M w A s C)(a:FF w w'):Ds B N d M w' A s C/\Dz N d w w':=by
 let ⟨x,y⟩:=h.b.b.h a
 exact h.fz x y h.h h.y
def Ds.O{M:Dv}(h:Ds B N d M w A s C)(a:C<=C'):Ds B N d M w A s C':=⟨h.b,h.x,h.t,h.j,h.u,h.o,h.p,h.h.e a,h.y⟩
def vG(B N d:Nat)(M:Value)(w:World)(C:Nat)(r:lQ)(e:Ending)(w':World):Prop:=
 e=(match r.1 with|.inl t=>.returned (.string t)|.inr n=>cH n)/\∃A,Ds B N d M w' A r.2 C/\Dz N d w w'
def vG.h{M:Dv}(h:Ds B N d M w A s C)(a:C<=C')(b:FF w w'){r:DS ⊕ Nat}:vG B N d M w C' (r,s) (match r with|.inl t=>.returned (.string t)|.inr n=>cH n) w':=by
 let ⟨x,z⟩:=h.e b
 exact⟨rfl,A,x.O a,z⟩
def Oe{k:Int}(h:bF w A s)(b:s.ah k=false):
  Calls prog 25 #[tp A.Q,iI k] w λe w'=>e=.returned (.iface 59 (iI 2))/\w'=w:=by
 have a:=kJ k h;rw[b]at a;go_in;go_wp2_with fail
 refine a.mono ?_;rintro e w2⟨rfl,rfl⟩;go_wp2;go_ret;exact⟨rfl,rfl⟩
def iT{k:Int}(h:s.ah k=true):((k.toNat:Nat):Int)=k/\k.toNat<s.n:=by
 have:=gT h;omega
def Eh{k:Int}(h:jW k n=true):((k.toNat:Nat):Int)=k/\k.toNat<n:=by
 have:=gT h;omega
def Op(A:Wa)(s:Wd)(w:World)(n:Int)(s':Wd)(e:Ending)(w':World):Prop:=e=.returned (eV n)/\∃A',bF w' A' s'/\Fz A s w A' s' w'
def Op.h(h:bF w A s):Op A s w 2 s (.returned (.iface 59 (iI 2))) w:=⟨rfl,A,h,Fz.j⟩
def Op.e(h:bF w A s)(a:FF w w'):Op A s w 2 s (.returned (.iface 59 (iI 2))) w':=by
 let ⟨x,y⟩:=h.h a
 exact⟨rfl,A,x,y⟩
def Oc(k:Int)(h:bF w A s)(a:fV s C)(d:C<=1000000000):
  Calls prog 25 #[tp A.Q,iI k] w (Op A s w (s.b0 k) (s.bl k)):=by
 unfold Wd.b0 Wd.bl;cases hk:s.ah k with
 |true=>
  obtain⟨b,c⟩:=iT hk;have hc:=Af A s k.toNat C w h c a ak;rw[b]at hc;refine hc.mono ?_;rintro e w'⟨rfl,x,y⟩;exact⟨rfl,A,x,y⟩
 |false=>
  refine(Oe h hk).mono ?_;rintro e w'⟨rfl,rfl⟩;exact Op.h h
def J5(k:Int)(h:bF w A s)(a:fV s C)(d:C<=1000000000):
  Calls prog 32 #[tp A.Q,iI k] w (Op A s w (s.b0 k) (s.bc k)):=by
 unfold Wd.b0 Wd.bc;cases hk:s.ah k with
 |true=>
  obtain⟨b,c⟩:=iT hk;have hc:=J6 h c a ak;rw[b]at hc;refine hc.mono ?_;rintro e w'⟨rfl,A',x,y⟩;exact⟨rfl,A',x,y⟩
 |false=>
  refine(J7 h hk).mono ?_;rintro e w'⟨rfl,rfl⟩;exact Op.h h
def GH(k:Int)(h:bF w A s)(a:fV s C)(f:C<=1000000000):
  Calls prog 26 #[tp A.Q,iI k] w (Op A s w (s.a9 k) (s.a6 k)):=by
 unfold Wd.a9 Wd.a6;cases hk:jW k s.dP.length with
 |true=>
  obtain⟨b,c⟩:=Eh hk;have hc:=xA h c a ak;rw[b]at hc;refine hc.mono ?_;rintro e w'⟨rfl,x,y⟩;exact⟨rfl,A,x,y⟩
 |false=>
  refine(GI h hk).mono ?_;rintro e w'⟨rfl,d⟩;exact Op.e h d
def Td(k:Int)(h:bF w A s)(a:fV s C)(b:C<=1000000000):
  Calls prog 27 #[tp A.Q,iI k] w (Op A s w (s.a9 k) (s.b4 k)):=by
 unfold Wd.a9 Wd.b4;cases hk:jW k s.dP.length with
 |true=>
  obtain⟨c,d⟩:=Eh hk;have hc:=Te h d a;rw[c]at hc;refine hc.mono ?_;rintro e w'⟨rfl,x,y⟩;exact⟨rfl,A,x,y⟩
 |false=>
  refine(Tf h hk).mono ?_;rintro e w'⟨rfl,f⟩;exact Op.e h f
def Ph(k:Int)(h:bF w A s)(a:fV s C)(b:C<=1000000000):
  Calls prog 28 #[tp A.Q,iI k] w (Op A s w (s.a9 k) (s.bu k)):=by
 unfold Wd.a9 Wd.bu;cases hk:jW k s.dP.length with
 |true=>
  obtain⟨c,d⟩:=Eh hk;have hc:=Pi h d;rw[c]at hc;refine hc.mono ?_;rintro e w'⟨rfl,x,y⟩;exact⟨rfl,A,x,y⟩
 |false=>
  refine(Pj h hk).mono ?_;rintro e w'⟨rfl,rfl⟩;exact Op.h h
def Tu(k o:Int)(h:bF w A s)(a:fV s C)(f:C<=1000000000):
  Calls prog 16 #[tp A.Q,iI k,iI o] w (Op A s w (s.bk k o) (s.bf k o)):=by
 unfold Wd.bk Wd.bf;cases hk:s.ah k with
 |true=>
  let ⟨b,c⟩:=iT hk
  have hc:=Pb o h c a ak;rw[b]at hc;apply hc.mono;rintro e w'⟨rfl,x,y⟩;exact⟨rfl,A,x,y⟩
 |false=>
  apply (Tw k o h hk).mono;rintro e w'⟨rfl,d⟩;exact Op.e h d
def Pq(k o:Int){d:DS}(h:bF w A s)(a:fV s C)(i:C<=1000000000)(b:d.size<=1000000):
  Calls prog 23 #[tp A.Q,iI k,iI o,.string d] w (Op A s w (s.a8 k o d) (s.a7 k o d)):=by
 unfold Wd.a8 Wd.a7;cases hk:s.ah k with
 |true=>
  let ⟨c,f⟩:=iT hk
  have hc:=Kp o d h f a ak b;rw[c]at hc;apply hc.mono;rintro e w'⟨rfl,x,y⟩;exact⟨rfl,A,x,y⟩
 |false=>
  apply (Pr k o d h hk).mono;rintro e w'⟨rfl,g⟩;exact Op.e h g
def SU{v:Dv}(h:bF w A s)(c:fV s C)(k:C<=1000000000)(a:de w B v l)(d:l.length<=1000000):
  Calls prog 37 #[tp A.Q,v] w (Op A s w (s.be l) (s.bd l)):=by
 unfold Wd.be Wd.bd;cases hk:s.b7 l with
 |true=>
  unfold Wd.b7 at hk;rw[aR]at hk;obtain⟨f,g⟩:=hk;refine(CG A s C B v l w h c ak a (gT f) (λx i=>?_) _ rfl _ (λ_=>rfl)).mono ?_;have j:l.any qz=false:=dD g;have b:=Ez.1 j x i;unfold qz at b;simp at b;omega;rintro e w'⟨rfl,x,y⟩;exact⟨rfl,A,x,y⟩
 |false=>
  refine(SV h a d ?_).mono ?_;unfold Wd.b7 at hk;rw[XS]at hk;rcases hk with q|q
  exact .inl (qJ q);exact .inr (dD q);rintro e w'⟨rfl,rfl⟩;exact Op.h h
def vf{n:Int}(h0:0<=n)(b:Bare.iZ w):
  Calls prog 144 #[eV n] w λe w'=>e=(if n=0 then .returned (.tuple #[]) else cH n)/\FF w w':=by
 by_cases a:n=0;subst a;apply (CA w).mono;rintro e w'⟨rfl,rfl⟩;exact⟨rfl,au _ _⟩;rw[ay a,show eV n=.iface 59 (iI n) from ay a];exact wG b
def Bk(s:Wd)(C:Nat):Prop:=fV s C/\Em s
def Bk.e{D:Nat}(h:Bk s C)(a:C<=D):Bk s D:=⟨h.1.e a,h.2⟩
def Bk.V(h:Bk s C)(k:Int):Bk (s.bl k) (C+3):=by
 unfold Wd.bl;split;rename_i a;exact⟨(h.1.ai (iT a).2).e ak,h.2.ac (iT a).2⟩;exact h.e ak
def Bk.I(h:Bk s C)(k:Int):Bk (s.bc k) (C+3):=by
 unfold Wd.bc;split;rename_i a;exact⟨(h.1.bc (iT a).2).e ak,h.2.aq⟩;exact h.e ak
def Bk.h(h:Bk s C)(k:Int):Bk (s.a6 k) (C+3):=by
 unfold Wd.a6;split;exact⟨(h.1.ab _).e ak,h.2.H _⟩;exact h.e ak
def Bk.af(h:Bk s C)(k:Int):Bk (s.b4 k) (C+3):=by
 unfold Wd.b4;split;exact⟨(h.1.a9 _).e ak,h.2.a7⟩;exact h.e ak
def Bk.Z(h:Bk s C)(k:Int):Bk (s.bu k) (C+3):=by
 unfold Wd.bu;split;exact⟨(h.1.bs).e ak,h.2.a4⟩;exact h.e ak
def Bk.ag(h:Bk s C)(k o:Int):Bk (s.bf k o) (C+3):=by
 unfold Wd.bf;split;rename_i c;split;rename_i d;have a:=h.1.s k.toNat (iT c).2;have f:=Hd a.k o a.b a.e;unfold K.af at f;rw[aH d]at f;exact⟨h.1.av (iT c).2 f,h.2.ae (iT c).2 ((h.2.h _ (iT c).2).V (lJ d).1 (lJ d).2)⟩;exact h.e ak;exact h.e ak
def Bk.ab(h:Bk s C)(k o:Int){d:DS}:Bk (s.a7 k o d) (C+3):=by
 unfold Wd.a7;split;rename_i c;split;rename_i f;have a:=h.1.s k.toNat (iT c).2;have g:=CV a.k o d a.b a.e;unfold K.ac at g;rw[aH f]at g;exact⟨h.1.av (iT c).2 g,h.2.ae (iT c).2 ((h.2.h _ (iT c).2).I _ 2 (my f).2.2 I64.ab false false (my f).1 (my f).2.1)⟩;exact h.e ak;exact h.e ak
def Gv(h:l.any qz=false)(i:Nat):0<=l.getD i 0:=by
 rw[aD];cases hi:l[i]? with
 |none=>exact kh 0
 |some x=>
  have a:=Ez.1 h x (fg hi);unfold qz at a;simp at a;exact a.1
def Bk.ae(h:Bk s C)(l:List Int):Bk (s.bd l) (C+3):=by
 unfold Wd.bd;split;rename_i a;unfold Wd.b7 at a;rw[aR]at a;have b:l.any qz=false:=dD a.2;exact⟨(h.1.aq (Gv b 0) (λi _=>Gv b (1+i))).e ak,h.2.ao⟩;exact h.e ak
def Bk.H(h:Bk s C){x:Int}(a:x<=9223372036854775807)(t:Int):Bk (s.ab x t) (C+3):=⟨(h.1.a4 a t).e ak,h.2.ai x t⟩
def Bk.ac(h:Bk s C):Bk s.aU (C+3):=⟨h.1.bd.e ak,h.2.a2⟩
def Bk.O(h:Bk s C):Bk s.e (C+3):=⟨h.1.ac.e ak,h.2.O⟩
def Bk.ah(h:Bk s C)(a:s.n<=4)(r:Nat):Bk (s.a4 r) (C+18000*r):=⟨h.1.ap a r,h.2.al r⟩
def Bk.j{n:Int}(h:pL tob tv td n=true)(C:Nat):Bk (Wd.h tob tv td n.toNat).start C:=by
 unfold pL Ay at h;simp at h;obtain⟨⟨a,b,c,d,f⟩,g,i⟩:=h;exact⟨((fV.a5 a b c d f).start).e (iu _),Em.a3 ak⟩
def Ds.H{M:Dv}(h:Ds B N d M w A s C):Bk s C:=⟨h.h,h.y⟩
def Wd.cd(s:Wd)(k:Int):0<=s.b0 k:=by unfold Wd.b0;split<;>omega
def Wd.cb(s:Wd)(k:Int):0<=s.a9 k:=by unfold Wd.a9;split<;>omega
def K.aU(k:K):0<=k.h o:=by
 unfold K.h;split;omega;split<;>omega
def Wd.cg(s:Wd)(k o:Int):0<=s.bk k o:=by
 unfold Wd.bk;split;exact K.aU _;omega
def Wd.ce(s:Wd)(k o:Int){d:DS}:0<=s.a8 k o d:=by
 unfold Wd.a8 K.e;split;split;exact K.aU _;split<;>omega;omega
def Wd.cf(s:Wd)(l:List Int):0<=s.be l:=by unfold Wd.be;split<;>omega
def Ds.Z{M:Dv}{w3 w4:Ba}(h:Ds B N d M w A s C)(c:FF w w2)(g:bF w3 A' s')(f:Fz A s w2 A' s' w3)(b:Bk s' C')(a:FF w3 w4):Ds B N d M w4 A' s' C'/\Dz N d w w4:=by
 let ⟨i,j⟩:=h.e c
 let ⟨k,l⟩:=i.fz g f b.1 b.2
 let ⟨m,n⟩:=k.e a
 exact⟨m,j.h (l.h n)⟩
end Wld
end Go.Proofs.YtbebfliimjjohabGreatDoor
