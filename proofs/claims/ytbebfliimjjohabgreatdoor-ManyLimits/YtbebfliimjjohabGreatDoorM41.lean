/- Parts of the proof. -/
import Derived.Test.YtbebfliimjjohabGreatDoorM40
import Derived.Lib.AppendIntMem
import Derived.Lib.AtoiAllCases
import Derived.Lib.AtoiErrMem
import Derived.Test.YtbebfliimjjohabGreatDoorM37
import Derived.Lib.FieldsP
set_option maxRecDepth 100000
set_option maxHeartbeats 8000000
set_option linter.all false
open Go.Proofs.Tryz
namespace Go.Proofs.YtbebfliimjjohabGreatDoor open Gen (la on tk)
open Go.RowKit Go.Maps
open Cache (tp E lP qm bp)
open Bare (jC)
open Lease (dA fg gv)
open Net (kF)
open Num (M iC)
namespace Wld
variable{Post:Ending->A1->Prop}{n:Int}{ws:List Bh}{l:List Int}{B d k c N C C':Nat}{t:Bi}{A A':Wa}{w w' w2:A1}
structure oD(B:Nat)(w:World):Prop where
 b:jC w
 o:∃te pe,w.cell? ⟨7,0,none⟩=some (.iface te pe)
 j:∃te pe,w.cell? ⟨8,0,none⟩=some (.iface te pe)
 i : Lib.TabBelow prog B w "internal/strconv.uint64pow10" .u64 Lib.pow10Tab
 p:9<=B
 h:B<=w.heap.size
def oD.e(h:oD B w)(f:Below B w w'):oD B w':=by
 have g:=h.p;let ⟨a,b,k⟩:=h.o
 let ⟨c,d,l⟩:=h.j
 exact⟨Bare.jC.e h.b f (by omega),⟨a,b,(f.cell (p:=(aA 7 0)) (by dsimp only;omega)).trans k⟩,⟨c,d,(f.cell (p:=(aA 8 0)) (by dsimp only;omega)).trans l⟩,λw2 m=>h.i w2 (f.trans m),g,aP h.h f.size⟩
def oD.on(h:oD B w)(a:Below w.heap.size w w'):oD B w':=h.e (a.mono h.h)
def sQ(s:ByteArray):Option Int:=match Lib.atoiAll s.data.toList with
 |.ok v=>if (⟨(Lib.itoa v).toArray⟩:ByteArray)=s then some v else none
 |_=>none
def By{s:Bh}(h:oD B w)(hs:s.size<=1000000)(f:Lib.atoiAll s.data.toList=.«syntax»\/Lib.atoiAll s.data.toList=.range):
  Calls prog 202 #[.string s] w λe w'=>e=cn 3/\Below w.heap.size w w':=by
 have b:Calls prog 242 #[.string s] w λe w'=>(∃v N,e=.returned (.tuple #[iI v,.iface 357 (.pointer (some (aA N 0)))]))/\Below w.heap.size w w':=by
  rcases f with q|q
  let ⟨c,d,hc⟩:=h.o
  apply (ai s (by omega) q hc (.inr ⟨c,d,rfl⟩)).mono;rintro e w'⟨N,rfl,_,_,a⟩;exact⟨⟨_,N,rfl⟩,a⟩;let ⟨c,d,hc⟩:=h.j
  apply (al s (by omega) q hc (.inr ⟨c,d,rfl⟩)).mono;rintro e w'⟨N,rfl,_,_,a⟩;exact⟨⟨_,N,rfl⟩,a⟩
 go_enter func202,ntmps202;go_wp2_with fail
 apply b.mono;rintro e w2⟨⟨v,N,rfl⟩,a⟩;go_wp2_with fail
 exact⟨rfl,rfl,a⟩
def LD(s:Bh){v:Int}(h:oD B w)(hs:s.size<=1000000)(g:Lib.atoiAll s.data.toList=.ok v):
  Calls prog 202 #[.string s] w λe w'=>e=(if (⟨(Lib.itoa v).toArray⟩:Bh)=s then .returned (iI v) else cn 3)/\Below w.heap.size w w':=by
 let ⟨j,l⟩:=Lib.atoiAll_bounds g
 have c:Calls prog 242 #[.string s] w λe w'=>e=.returned (.tuple #[iI v,.nilIface])/\Below w.heap.size w w':=by
  apply (a6 s (by omega) g w).mono;rintro e w'⟨rfl,q⟩;refine⟨rfl,?_⟩;rcases q with rfl|⟨t,rfl⟩
  exact au _ _;exact Lib.bytesWorld_below _ _ _
 have d:Hid (∀w2,Below w.heap.size w w2->Calls prog 78 #[iI v] w2 λe w'=>e=.returned (.string ⟨(Lib.itoa v).toArray⟩)/\Below w.heap.size w w'):=by
  intro w2 a;apply (af v j l (h.on a).i.here).mono;rintro e w'⟨rfl,k,m,rfl⟩;exact⟨rfl,a.trans ((Lib.below_grow _ _ (aa _) k m).mono a.size)⟩
 let ⟨t,n⟩:∃t:Bh,⟨(Lib.itoa v).toArray⟩=t:=⟨_,rfl⟩
 rw[n]at d⊢;by_cases e:t=s
 .subst e;rw[az rfl];go_enter func202,ntmps202;go_wp2_with fail
  apply c.mono;rintro e w2⟨rfl,a⟩;have f:=d.out w2 a;go_wp2_with fail
  apply f.mono;rintro e w3⟨rfl,b⟩;go_wp2_with fail
  go_ret;exact⟨rfl,b⟩
 .rw[ax e];have o:(!t.toList==s.toList)=true:=by
   cases hq:(t.toList==s.toList) with
   |false=>rfl
   |true=>
    have q:=eq_of_beq hq;rw[iw,iw]at q;exact absurd (vj q) e
  go_enter func202,ntmps202;go_wp2_with fail
  apply c.mono;rintro e w2⟨rfl,a⟩;go_wp2_with fail
  apply (d.out w2 a).mono;rintro e w3⟨rfl,b⟩;go_wp2_with fail
  exact⟨rfl,rfl,b⟩
theorem LC{B:Nat}(s:ByteArray){w:World}(h:oD B w)(hs:s.size<=1000000):
  Calls prog 202 #[.string s] w λe w'=>e=(match sQ s with|some v=>.returned (iI v)|none=>cn 3)/\Below w.heap.size w w':=by
 unfold sQ
 cases hn:Lib.atoiAll s.data.toList with
 |ok v=>
  apply (LD s h hs hn).mono
  rintro e w'⟨rfl,hb⟩
  refine⟨?_,hb⟩
  dsimp only
  split
  .rfl
  .rfl
 | «syntax»=>exact By h hs (.inl hn)
 |range=>exact By h hs (.inr hn)
def bM.ab{s:Wd}(h:bM w A s){T:Nat}(d:rD w T t)(n:t≠81)(p:t≠90)(r:t≠45)(y:t≠162)(z:t≠144/\t≠296/\t≠301/\t≠138/\t≠129):¬wfoot w A s T:=λf=>by
 rcases f with f|f|⟨v,g,k⟩|⟨i,l,f⟩|⟨i,l,f⟩|⟨g,k⟩
 exact d.j h.b.h n f;exact d.j h.u p f;let ⟨D,c,B⟩:=h.x
 rw[g]at c;injection c with c
 subst c;exact(dg B k).2.j d (fE r) rfl;exact d.j (h.o i l).ac y f;exact(h.o i l).af.e d f.symm;let ⟨v,C⟩:=aV.1 g
 have u:=h.t v C;by_cases m:T=A.a.q;rw[u.q]at m;exact d.j h.b.h n m;exact u.b.af d m z k
structure yN(w:World)(d:Nat)(M:Value)(A:Wa)(s:Wd):Prop where
 e:rD w d 168
 h:w.cell? ⟨d,0,none⟩=some (tp A.Q)
 i:w.cell? ⟨d,1,none⟩=some M
 b:bM w A s
def Fz.O{s s':Wd}(h:bM w A s)(f:Fz A s w A' s' w'){X:Nat}(a:rD w X 168):w'.heap[X]?=w.heap[X]?:=f.H a.H (h.ab a (by decide) (by decide) (by decide) (by decide) (by decide)) (λq=>a.j q (by decide) rfl)
def yN.j{M:Bg}{s s':Wd}(h:yN w d M A s)(g:bM w' A' s')(f:Fz A s w A' s' w'):yN w' d M A' s':=by
 have c:=Fz.O h.b f h.e;exact⟨h.e.e c,by rw[f.Q];exact(aj (a:=(aA d 0)) c).trans h.h,(aj (a:=(aA d 1)) c).trans h.i,g⟩
def X9(w:World)(v:Value)(ws:List ByteArray):Prop:=∃ao c,v=.slice ao ws.length c/\ws.length<=c/\(0<ws.length->∃g o,ao=some ⟨g,o,none⟩/\g<w.heap.size/\∀i (a:i<ws.length),w.cell? ⟨g,o+i,none⟩=some (.string ws[i]))
def X9.e{v:Bg}(h:X9 w v ws)(b:Below w.heap.size w w'):X9 w' v ws:=by
 let ⟨ao,c,e,hc,f⟩:=h
 refine⟨ao,c,e,hc,λh0=>?_⟩;let ⟨g,o,j,d,a⟩:=f h0
 exact⟨g,o,j,aO d b.size,λi k=>(b.cell (p:=(aA g (o+i))) d).trans (a i k)⟩
def jI:List ByteArray->Option (List Int)
 | []=>some []
 |x::t=>match sQ x with
  |none=>none
  |some n=>match jI t with
   |none=>none
   |some l=>some (n::l)
def uW:∀(a:List Bh) (x:Bh) (l:List Int),jI a=some l->jI (a++[x])=(sQ x).map λn=>l++[n]
 | [],x,l,h=>by
  injection h with h
  subst h;show jI [x]=_;unfold jI;cases sQ x with
  |none=>rfl
  |some n=>rfl
 |y::t,x,l,h=>by
  show jI (y::(t++[x]))=_;unfold jI at h⊢;cases hy:sQ y with
  |none=>rw[hy]at h;cases h
  |some n=>
   rw[hy]at h;dsimp only at h⊢;cases ht:jI t with
   |none=>rw[ht]at h;cases h
   |some b=>
    rw[ht]at h;injection h with h
    subst h;rw[uW t x b ht];cases sQ x<;>rfl
def Bz:∀(a b:List Bh),jI a=none->jI (a++b)=none
 | [],_,h=>by cases h
 |y::t,b,h=>by
  show jI (y::(t++b))=none;unfold jI at h⊢;cases hy:sQ y with
  |none=>rfl
  |some n=>
   rw[hy]at h;dsimp only at h⊢;cases ht:jI t with
   |none=>rw[Bz t b ht]
   |some c=>rw[ht]at h;cases h
def kU:∀(a:List Bh) (l:List Int),jI a=some l->l.length=a.length
 | [],l,h=>by injection h with h;subst h;rfl
 |y::t,l,h=>by
  unfold jI at h;cases hy:sQ y with
  |none=>rw[hy]at h;cases h
  |some n=>
   rw[hy]at h;dsimp only at h;cases ht:jI t with
   |none=>rw[ht]at h;cases h
   |some b=>
    rw[ht]at h;injection h with h
    subst h;simp[kU t b ht]
def cm(ws:List ByteArray)(a:Int):Option (List Int):=if (ws.length:Int)=a then jI ws else none
def fZ(ws:List ByteArray)(a:Int)(w:World)(e:Ending)(w':World):Prop:=
 Below w.heap.size w w'/\((cm ws a=none/\e=cn 3)\/∃l v,cm ws a=some l/\e=.returned v/\dA w' w.heap.size v l)
structure Nk(ws:List ByteArray)(w wr:World)(k:Nat)(l:List Int):Prop where
 b:Below w.heap.size w wr
 e:jI (ws.take k)=some l
 h:wr.ownsRow w.heap.size 3 1 (.slice (some ⟨w.heap.size,0,none⟩) ws.length ws.length) ws.length (l.map (Value.int .i64)++List.replicate (ws.length-k) (Value.int .i64 0))
def Nk.j{wr:A1}(h:Nk ws w wr k l)(d:k<ws.length)(f:sQ ws[k]=some n)(a:Below wr.heap.size wr w2):Nk ws w (w2.setCell (aA w.heap.size k) (iI n)) (k+1) (l++[n]):=by
 have c:=kU _ _ h.e;rw[cu,Nat.min_eq_left (by omega)]at c;refine⟨(h.b.trans (a.mono h.b.size)).setCell (p:=(aA w.heap.size k)) (aa _) _,?_,?_⟩;rw[bF d,uW _ _ _ h.e,f];rfl;have g:=Cache.bD h.h a;have r3:=g.stored k (iI n);have e:(l.map (Value.int .i64)++List.replicate (ws.length-k) (Value.int .i64 0)).set k (iI n)=(l++[n]).map (Value.int .i64)++List.replicate (ws.length-(k+1)) (Value.int .i64 0):=by
  rw[show ws.length-k=(ws.length-(k+1))+1 by omega,lT,dQ,bQ,List.set_append_right _ _ (by rw[bH];omega),bH,c,j4];rfl
 rw[e]at r3;exact r3.1
def QI{n:Nat}:(madeCells (Value.int IntKind.i64 0).cells (n*1)).toList=([]:List Int).map (Value.int .i64)++List.replicate (n-0) (Value.int .i64 0):=by
 show (madeCells #[Value.int IntKind.i64 0] (n*1)).toList=_;rw[Nat.mul_one,toList_madeCells_one];rfl
theorem IY{B:Nat}{v:Value}{ws:List ByteArray}(many:Int){w:World}(h:oD B w)(hv:X9 w v ws)(hs:∀x∈ws,x.size<=1000000)(hl:ws.length<=1000000):
  Calls prog 145 #[v,iI many] w (fZ ws many w):=by
 obtain⟨ao,c,rfl,hc,hv⟩:=hv
 by_cases hm:(ws.length:Int)=many
 .subst hm
  have hn:=oS ao c ws.length w
  let ⟨i0,hi,hz0,hz1,hz2⟩:=dw (P:=prog) (e:=3) (show (prog.info? 3).map (λi=>(i.zero,i.size,i.bytes))=some (some (iI 0),1,8) by kernel_rfl)
  go_enter func145,ntmps145
  go_wp2_with fail
  apply hn.mono
  rintro e w2⟨rfl,hw2⟩
  rw[hw2]

  go_wp2_with (refine wpList_make_full _ rfl _ _ 26 rfl w.heap.size 3 i0 _ 1 underlying26 hi hz0 hz1 .i64 .i64 _ _ ws.length rfl rfl rfl rfl (by rw[hz2];omega) (by unfold maxLen;omega) (aa _) ?_;intro w3 hrow hg)
  have hN0:Nk ws w w3 0 []:=⟨(au _ w).grown hg (aa _) (λk e=>by cases e),rfl,by
   rw[show (madeCells (Value.int IntKind.i64 0).cells (ws.length*1)).toList=([]:List Int).map (Value.int .i64)++List.replicate (ws.length-0) (Value.int .i64 0) from QI]at hrow
   exact hrow⟩
  have HV:Hid (0<ws.length->∃g o,ao=some (aA g o)/\g<w.heap.size/\∀i (hi:i<ws.length),cC w (aA g (o+i)) (.string ws[i])):=hv
  have HS:Hid (∀x∈ws,x.size<=1000000):=hs
  have HB:Hid (oD B w):=h
  have HN:Hid (Nk ws w w3 0 []):=hN0

  go_loopw [15] (λi wr=>∃(k:Nat) (l:List Int),k<=ws.length/\i=iI k/\Nk ws w wr k l) (λi _=>ws.length-(intOf i).toNat)
  case atStart=>exact⟨0,[],by omega,rfl,HN.out⟩
  case round=>
   obtain⟨k,l,hk,rfl,D⟩:=hrel
   by_cases hlt:k<ws.length
   .obtain⟨g,o,rfl,hg,hcell⟩:=HV.out (by omega)
    have hltz:(k:Int)<(ws.length:Int):=by omega
    let ⟨x,hx⟩:∃x,ws[k]'hlt=x:=⟨_,rfl⟩
    have hc:cC wr (aA g (o+k)) (.string x):=by rw[<-hx];exact(D.b.cell (p:=(aA g (o+k))) hg).trans (hcell k hlt)
    have hnum:=LC x (HB.out.on D.b) (by rw[<-hx];exact HS.out _ (bA hlt))
    have HD:Hid (Nk ws w wr k l):=D
    have HL:Hid (k<ws.length):=hlt
    have HX:Hid (ws[k]'HL.out=x):=hx

    cases hn:sQ x with
    |none=>
     rw[hn]at hnum
     dsimp only at hnum
     have HE:Hid (∀w4,Below wr.heap.size wr w4->fZ ws ws.length w (cn 3) w4):=λw4 hb=>⟨HD.out.b.trans (hb.mono HD.out.b.size),.inl ⟨by
      unfold cm
      rw[az rfl]
      have e:=oG (k+1) ws
      rw[<-e]
      apply Bz _ _
      rw[bF HL.out,uW _ _ _ HD.out.e,HX.out,hn]
      rfl,rfl⟩⟩

     go_wp2_with fail
     apply hnum.mono
     rintro e w4⟨rfl,hb4⟩
     have HF:Hid (fZ ws ws.length w (cn 3) w4):=HE.out w4 hb4

     go_wp2_with fail
     exact⟨rfl,HF.out⟩
    |some n=>
     rw[hn]at hnum
     dsimp only at hnum
     have HE:Hid (∀w4,Below wr.heap.size wr w4->Nk ws w (w4.setCell (aA w.heap.size k) (iI n)) (k+1) (l++[n])):=λw4 hb=>HD.out.j HL.out (by rw[HX.out];exact hn) hb
     have HO:Hid (∀w4,Below wr.heap.size wr w4->w4.frozen? (aA w.heap.size k)=false/\∃v,cC w4 (aA w.heap.size k) v):=λw4 hb=>by
      have r2:=Cache.bD HD.out.h hb
      refine⟨r2.frozenAt k,?_⟩
      have h1:=r2.cellAt k (by have:=HL.out;omega)
      have h2:k<(l.map (Value.int .i64)++List.replicate (ws.length-k) (Value.int .i64 0)).length:=by
       have h3:=kU _ _ HD.out.e
       rw[cu]at h3
       rw[aM,bH,kz]
       have:=HL.out
       omega
      rw[aB h2]at h1
      exact⟨_,h1⟩

     go_wp2_with fail
     apply hnum.mono
     rintro e w4⟨rfl,hb4⟩
     have HF:Hid (Nk ws w (w4.setCell (aA w.heap.size k) (iI n)) (k+1) (l++[n])):=HE.out w4 hb4
     let ⟨hfr,u,hu⟩:=HO.out w4 hb4

     go_wp2_with fail
     go_roundw
     case rel=>exact⟨k+1,_,by omega,by go_num,HF.out⟩
     case measure=>simp[intOf];omega
   .obtain rfl:k=ws.length:=by omega
    have hltz:¬(ws.length:Int)<(ws.length:Int):=by omega
    have HE:Hid (fZ ws ws.length w (.returned (.slice (some (aA w.heap.size 0)) ws.length ws.length)) wr):=by
     have h1:=D.e
     rw[gz]at h1
     have h2:=D.h
     have h3:=kU _ _ h1
     refine⟨D.b,.inr ⟨l,_,by unfold cm;rw[az rfl];exact h1,rfl,?_⟩⟩
     rw[j4,List.replicate_zero,dP]at h2
     unfold dA
     rw[h3]
     exact h2

    go_wp2_with fail
    go_ret
    exact HE.out
 .have hn:=oR ao c ws.length many w hm
  have HE:Hid (fZ ws many w (cn 3) w):=⟨au _ _,.inl ⟨by unfold cm;rw[ax hm],rfl⟩⟩
  go_enter func145,ntmps145
  go_wp2_with fail
  apply hn.mono
  rintro e w2⟨rfl,hw2⟩
  rw[hw2]
  go_wp2_with fail
  exact⟨rfl,HE.out⟩
abbrev mQ:=(ByteArray ⊕ Nat)×Wd
def uZ(e:Int)(t:ByteArray)(s:Wd):mQ:=(if e=0 then .inl t else .inr e.toNat,s)
def kJ(ws:List ByteArray)(s:Wd)(f:Int->mQ):mQ:=match cm ws 1 with
 |some (a::_)=>f a
 |_=>(.inr 3,s)
def qZ(ws:List ByteArray)(s:Wd)(f:Int->Int->mQ):mQ:=match cm ws 2 with
 |some (a::b::_)=>f a b
 |_=>(.inr 3,s)
def rE(ws:List ByteArray)(s:Wd)(r:mQ):mQ:=if ws.length=0 then r else (.inr 3,s)
def Wd.b5(s:Wd)(k o:Int):Int:=if s.aq k=true then (s.aI k.toNat).k.I o else 2
def Wd.b4(s:Wd)(k o:Int):Wd:=if s.aq k=true then (if (s.aI k.toNat).k.I o=0 then s.cf k.toNat o else s) else s
def Wd.bl(s:Wd)(k o:Int)(d:ByteArray):Int:=if s.aq k=true then (s.aI k.toNat).k.H o d else 2
def Wd.bk(s:Wd)(k o:Int)(d:ByteArray):Wd:=if s.aq k=true then (if (s.aI k.toNat).k.H o d=0 then s.ca k.toNat o d else s) else s
variable{s s':Wd}
def qS(tob tv td n:Int):Bool:=Bt tob tv td&&decide (1<=n/\n<=4)
def lH(n:Int):ByteArray:=⟨(Lib.itoa n).toArray⟩
def lJ(d:ByteArray)(v:Int):ByteArray:=(if d=⟨#[]⟩ then ⟨#[95]⟩ else d)++⟨#[32]⟩++lH v
def oQ(e:Ev):ByteArray:=
 if e.Hy=false then (if e.m9=2 then ⟨#[119,114,105,116,101,32]⟩ else ⟨#[114,101,97,100,32]⟩)++(lH e.b++⟨#[32]⟩++lH e.rG)++⟨#[32,111,112,101,110]⟩
 else if e.Zk=true then (if e.m9=2 then ⟨#[119,114,105,116,101,32]⟩ else ⟨#[114,101,97,100,32]⟩)++(lH e.b++⟨#[32]⟩++lH e.rG)++(⟨#[32]⟩++lJ e.d e.yO)++⟨#[32,104,105,116]⟩
 else (if e.m9=2 then ⟨#[119,114,105,116,101,32]⟩ else ⟨#[114,101,97,100,32]⟩)++(lH e.b++⟨#[32]⟩++lH e.rG)++(⟨#[32]⟩++lJ e.d e.yO)
def pu(ws:List ByteArray)(s:Wd):mQ:=if ws.length=3 then qZ (ws.take 2) s λk o=>uZ (s.bl k o (ws.getD 2 ⟨#[]⟩)) ⟨#[119,114,105,116,101]⟩ (s.bk k o (ws.getD 2 ⟨#[]⟩)) else (.inr 3,s)
def I64.ab:gv 0:=⟨by omega,by omega⟩
def KO(e:Ev):Prop:=gv e.b/\gv e.rG/\gv e.yO/\e.d.size<=20
def YF(t:TypeId):Bool:=t==81||(t==90||(t==45||(t==162||(t==144||(t==296||(t==301||(t==138||(t==129||(t==201||t==168)))))))))
def LF:Obj->Bool
 |.cells _ t _=>!YF t
 |.map _ _=>false
 |_=>true
def Du(w:World)(k:Nat):Prop:=∃o,w.heap[k]?=some o/\LF o=true
def Du.h(h:Du w k):k<w.heap.size:=by
 let ⟨o,h,_⟩:=h
 exact(am.1 h).1
def Du.e(h:Du w k)(e:w'.heap[k]?=w.heap[k]?):Du w' k:=by unfold Du;rw[e];exact h
def rD.h(h:rD w k t)(b:YF t=true):¬Du w k:=by
 rintro⟨o,a,c⟩;let ⟨d,f,h⟩:=h
 rw[h]at a;injection a with a
 subst a;simp[LF,b]at c
def yx{H:Type}{P:Bo}{k:Bi}{R:Bg->Option (DataW H×List MemPlace)}{b n:Nat}{D:DataW H}(h:w.ownsMap P k R b n D):¬Du w b:=by
 rintro⟨o,a,d⟩;let ⟨e,c,h,_⟩:=h
 rw[h]at a;injection a with a
 subst a;cases d
def bt.aU{m:Nat}{k:K}(h:bt w c m k):¬Du w m:=h.p.elim λ_ s=>yx s.1
def cx.a2{a:Ad}{s:Sv}(h:cx w a s)(c:¬Du w a.q)(d:fy w a k):¬Du w k:=by
 rcases h.ag d with f|f|f|f|f|f|f
 rw[f];exact c;rw[f];exact yx h.p.b;exact f.h rfl;exact f.h rfl;exact f.h rfl;exact f.h rfl;exact f.h rfl
def bM.ae(h:bM w A s)(f:wfoot w A s k):¬Du w k:=by
 rcases f with f|f|⟨v,c,d⟩|⟨i,e,f⟩|⟨i,e,f⟩|⟨c,d⟩
 rw[f];exact h.b.h.h rfl;rw[f];exact h.u.h rfl;let ⟨l,a,g⟩:=h.x
 rw[c]at a;injection a with a
 subst a;exact(dg g d).2.h rfl;rw[f];exact(h.o i e).ac.h rfl;rw[f];exact(h.o i e).aU;let ⟨v,j⟩:=aV.1 c
 have u:=h.t v j;exact u.b.a2 (by rw[u.q];exact h.b.h.h rfl) d
structure Dz(N d:Nat)(w w':World):Prop where
 p:w'.os=w.os
 j:w'.tape=w.tape
 e:w'.output=w.output
 i:w.heap.size<=w'.heap.size
 o:∀k,k<N->k≠d->w'.heap[k]?=w.heap[k]?
 b:∀k,Du w k->w'.heap[k]?=w.heap[k]?
def Dz.h{x y z:A1}(h:Dz N d x y)(k:Dz N d y z):Dz N d x z:=
 ⟨k.p.trans h.p,k.j.trans h.j,k.e.trans h.e,aP h.i k.i,λi a hd=>(k.o i a hd).trans (h.o i a hd),λi a=>(k.b i (a.e (h.b i a))).trans (h.b i a)⟩
def Dz.V(h:bM w A s)(f:Fz A s w A' s' w')(c:FX N w A s):Dz N d w w':=by
 exact⟨f.t,f.o,f.b,f.i,λk a _=>(f.I c h.I).block k a,λk a=>f.H a.h (λq=>h.ae q a) (λq=>q.h rfl a)⟩
def Dz.O(h:Dz N d w w')(a:B<=N)(hd:B<=d):Below B w w':=⟨h.p,h.j,h.e,h.i,λk b=>h.o k (by omega) (by omega)⟩
def FX.h{a:Nat}(h:FX N w A s)(b:a<=N):FX a w A s:=λk c=>aP b (h k c)
structure Ds(B N d:Nat)(M:Value)(w:World)(A:Wa)(s:Wd)(C:Nat):Prop where
 b:yN w d M A s
 x:∀i,w.frozen? ⟨d,i,none⟩=false
 t:FX N w A s
 j:oD B w
 u:B<=d
 o:d<N
 p:N<=w.heap.size
 h:f9 s C
def Ds.ab{M:Bg}(h:Ds B N d M w A s C):FX 1 w A s:=h.t.h (by have:=h.o;omega)
def Ds.I{M:Bg}(h:Ds B N d M w A s C):jC w:=h.j.b
def Ds.fz{M:Bg}(h:Ds B N d M w A s C)(c:bM w' A' s')(f:Fz A s w A' s' w')(g:f9 s' C'):Ds B N d M w' A' s' C'/\Dz N d w w':=by
 have z:Dz N d w w':=Dz.V h.b.b f h.t;exact⟨⟨h.b.j c f,λi=>(aJ (a:=(aA d i)) (Fz.O h.b.b f h.b.e)).trans (h.x i),h.t.e f h.p,h.j.e (z.O (by have:=h.u;have:=h.o;omega) h.u),h.u,h.o,aP h.p f.i,g⟩,z⟩
def Ds.e{M:Bg}(h:Ds B N d M w A s C)(a:Below w.heap.size w w'):Ds B N d M w' A s C/\Dz N d w w':=by
 let ⟨x,y⟩:=h.b.b.h a
 exact h.fz x y h.h
def Ds.O{M:Bg}(h:Ds B N d M w A s C)(a:C<=C'):Ds B N d M w A s C':=⟨h.b,h.x,h.t,h.j,h.u,h.o,h.p,h.h.e a⟩
def ui(B N d:Nat)(M:Value)(w:World)(C:Nat)(r:mQ)(e:Ending)(w':World):Prop:=
 e=(match r.1 with|.inl t=>.returned (.string t)|.inr n=>cn n)/\∃A,Ds B N d M w' A r.2 C/\Dz N d w w'
def ui.h{M:Bg}(h:Ds B N d M w A s C)(a:C<=C')(b:Below w.heap.size w w'){r:Bh ⊕ Nat}:ui B N d M w C' (r,s) (match r with|.inl t=>.returned (.string t)|.inr n=>cn n) w':=by
 let ⟨x,z⟩:=h.e b
 exact⟨rfl,A,x.O a,z⟩
def js{k:Int}(h:s.aq k=true):((k.toNat:Nat):Int)=k/\k.toNat<s.n:=by
 have:=ek h;omega
def Op(A:Wa)(s:Wd)(w:World)(n:Int)(s':Wd)(e:Ending)(w':World):Prop:=e=.returned (eV n)/\∃A',bM w' A' s'/\Fz A s w A' s' w'
def Op.e(h:bM w A s)(a:Below w.heap.size w w'):Op A s w 2 s (.returned (.iface 59 (iI 2))) w':=by
 let ⟨x,y⟩:=h.h a
 exact⟨rfl,A,x,y⟩
def Vm(k o:Int)(h:bM w A s)(a:f9 s C)(f:C<=1000000000):
  Calls prog 16 #[tp A.Q,iI k,iI o] w (Op A s w (s.b5 k o) (s.b4 k o)):=by
 unfold Wd.b5 Wd.b4;cases hk:s.aq k with
 |true=>
  let ⟨b,c⟩:=js hk
  have hc:=QU o h c a (by omega);rw[b]at hc;apply hc.mono;rintro e w'⟨rfl,x,y⟩;exact⟨rfl,A,x,y⟩
 |false=>
  apply (Vo k o h hk).mono;rintro e w'⟨rfl,d⟩;exact Op.e h d
def Ra(k o:Int){d:Bh}(h:bM w A s)(a:f9 s C)(g:C<=1000000000)(hd:d.size<=1000000):
  Calls prog 23 #[tp A.Q,iI k,iI o,.string d] w (Op A s w (s.bl k o d) (s.bk k o d)):=by
 unfold Wd.bl Wd.bk;cases hk:s.aq k with
 |true=>
  let ⟨b,c⟩:=js hk
  have hc:=L9 o d h c a (by omega) hd;rw[b]at hc;apply hc.mono;rintro e w'⟨rfl,x,y⟩;exact⟨rfl,A,x,y⟩
 |false=>
  apply (Rb k o d h hk).mono;rintro e w'⟨rfl,f⟩;exact Op.e h f
def wv(h0:0<=n)(b:Bare.jC w):
  Calls prog 144 #[eV n] w λe w'=>e=(if n=0 then .returned (.tuple #[]) else cn n)/\Below w.heap.size w w':=by
 by_cases a:n=0;subst a;apply (DF w).mono;rintro e w'⟨rfl,rfl⟩;exact⟨rfl,au _ _⟩;rw[ax a,show eV n=.iface 59 (iI n) from ax a];exact xE b
def Bk.ag(h:f9 s C)(k o:Int):f9 (s.b4 k o) (C+3):=by
 unfold Wd.b4;split;rename_i d;split;rename_i f;have a:=h.o k.toNat (js d).2;have c:=I0 a.k o a.b a.e;unfold K.ai at c;rw[az f]at c;exact h.aw (js d).2 c;exact h.e (by omega);exact h.e (by omega)
def Bk.ab(h:f9 s C)(k o:Int){d:Bh}:f9 (s.bk k o d) (C+3):=by
 unfold Wd.bk;split;rename_i f;split;rename_i g;have a:=h.o k.toNat (js f).2;have c:=D3 a.k o d a.b a.e;unfold K.af at c;rw[az g]at c;exact h.aw (js f).2 c;exact h.e (by omega);exact h.e (by omega)
def Bk.j{tob tv td:Int}(h:qS tob tv td n=true)(C:Nat):f9 (Wd.h tob tv td n.toNat).start C:=by
 unfold qS Bt at h;simp at h;obtain⟨⟨a,b,c,d,f⟩,g,i⟩:=h;exact((f9.a8 a b c d f).start (by simp[Wd.h])).e (jx _)
def K.a4(k:K){o:Int}:0<=k.I o:=by
 unfold K.I;split;omega;split<;>omega
def Wd.cj(s:Wd)(k o:Int):0<=s.b5 k o:=by
 unfold Wd.b5;split;exact K.a4 _;omega
def Wd.ch(s:Wd)(k o:Int){d:Bh}:0<=s.bl k o d:=by
 unfold Wd.bl K.H;split;split;exact K.a4 _;split<;>omega;omega
def Ds.Z{M:Bg}{w3 w4:A1}(h:Ds B N d M w A s C)(b:Below w.heap.size w w2)(c:bM w3 A' s')(f:Fz A s w2 A' s' w3)(g:f9 s' C')(a:Below w3.heap.size w3 w4):Ds B N d M w4 A' s' C'/\Dz N d w w4:=by
 let ⟨i,j⟩:=h.e b
 let ⟨k,l⟩:=i.fz c f g
 let ⟨m,n⟩:=k.e a
 exact⟨m,j.h (l.h n)⟩
def dJ(w:A1):Below w.heap.size w w.drew:=(au _ _).drew
def mG(h:cm ws 1=some l):∃a,l=[a]:=by
 unfold cm at h;split at h;rename_i c;have b:=kU _ _ h;match l,b with
 | [a],_=>exact⟨a,rfl⟩
 | [],b=>simp at b;omega
 |_::_::_,b=>simp at b;omega
 cases h
def Zl(d:Nat)(w w':World):Prop:=w'.cell? ⟨d,0,none⟩=w.cell? ⟨d,0,none⟩/\∀(X:Nat) (a:Array Value) (t:TypeId) (f:Nat×Nat),w.heap[X]?=some (.cells a t f)->(t=3\/t=9)->w'.heap[X]?=w.heap[X]?
def Zl.e{v:Bg}(h:Zl d w w')(b:dA w B v l):dA w' B v l:=bp b λg a=>by
 rcases b.2 with⟨rfl,_⟩|⟨j,c,f,rfl,k,i,_⟩
 simp[Value.ownBlock]at a;simp[Value.ownBlock]at a;subst a;exact h.2 _ _ _ _ i (.inl rfl)
def wF(h:cm ws 2=some l):∃a b,l=[a,b]:=by
 unfold cm at h;split at h;rename_i d;have c:=kU _ _ h;match l,c with
 | [a,b],_=>exact⟨a,b,rfl⟩
 | [],c=>simp at c;omega
 | [_],c=>simp at c;omega
 |_::_::_::_,c=>simp at c;omega
 cases h
def kR{v:Bg}(h:dA w B v l)(b:0<l.length):∃g c,v=.slice (some (aA g 0)) l.length c/\∀i (f:i<l.length),cC w (aA g i) (iI l[i]):=by
 obtain⟨ao,c,rfl,hc⟩:=h.e;let ⟨g,d,a⟩:=hc b
 subst d;exact⟨g,c,rfl,a⟩
def QW{q:Nat}{v:Bg}(R R':Int->A1->Prop)(hd:d<w.heap.size)(c0:cC w (aA d 0) (tp q))(i:Calls prog 145 #[v,iI 2] w (fZ ws 2 w))(t:∀w2 a b,Below w.heap.size w w2->cm ws 2=some [a,b]->Calls prog 16 #[tp q,iI a,iI b] w2 (λe w3=>(∃n,e=.returned (eV n)/\R n w3)/\Zl d w2 w3))(u:∀n w3,R n w3->Calls prog 144 #[eV n] w3 (λe w4=>e=(if n=0 then .returned (.tuple #[]) else cn n)/\R' n w4))(x:cm ws 2=none->∀w2,Below w.heap.size w w2->Post (cn 3) w2)(j:∀n w4,R' n w4->Post (if n=0 then .returned (.string ⟨#[114,101,97,100]⟩) else cn n) w4):
  Calls prog 90 #[tp d,v] w Post:=by
 have F :Hid _:= t;have G :Hid _:= u;have H :Hid _:= x;have I :Hid _:= j;go_enter func90,ntmps90;go_wp2_with fail
 apply i.mono;rintro e w2⟨y,(⟨h,rfl⟩|⟨l,N,h,rfl,k⟩)⟩
 .have m :Hid _:= H.out h w2 y;go_wp2_with fail
  exact⟨rfl,m.out⟩
 obtain⟨a,b,rfl⟩:=wF h;have z:= y.drew;have D:= (y.cell (p:=(aA d 0)) hd).trans c0;obtain⟨g,O,rfl,f⟩:=kR k (by simp);have J:= f 0 (by simp);have A:= f 1 (by simp);have L :Hid _:= k;go_upto_region 2 with fail
 refine Gen.start (S:=λw'=>w'.cell? ⟨d,0,none⟩=some (tp q)/\w'.cell? ⟨g,0,none⟩=some (.int .i64 a)/\w'.cell? ⟨g,1,none⟩=some (.int .i64 b)) (by kernel_rfl) ⟨D,J,A⟩ (λc=>?_);apply tk 0 1 c

 apply tk 1 2 c

 apply tk 2 3 c

 apply tk 3 10 c

 apply tk 4 5 c

 apply tk 5 6 c

 apply tk 6 10 c

 apply tk 7 8 c

 apply tk 8 9 c

 apply tk 9 10 c

 refine on 10 λK B=>?_;go_simp;apply (F.out w2.drew a b z h).mono;rintro e w3⟨⟨n,rfl,M⟩,E⟩;have s3:= E.1.trans D;have o:=Zl.e (w:=w2.drew) E L.out

 refine B.out _ _ ⟨s3,by rw[bJ o 0 (by simp)];rfl,by rw[bJ o 1 (by simp)];rfl⟩ (λc=>?_)

 refine la 11 λK B=>?_;go_simp;apply (G.out n w3 M).mono;rintro e w4⟨r,C⟩;have s:=I.out n w4 C;by_cases h:n=0
 .rw[az h]at r s;subst r;have m :Hid _:= s

  apply B.out _ _;go_wp2_with fail
  exact m.out
 rw[ax h]at r s;subst r;have m :Hid _:= s

 exact⟨rfl,m.out⟩
def Ma{q j o:Nat}{x:Bh}(ws:List Bh)(R R':Int->A1->Prop)(hd:d<w.heap.size)(c0:cC w (aA d 0) (tp q))(T:3<=c)(k:∃cs f,w.heap[j]?=some (.cells cs 9 f))(U:cC w (aA j (o+2)) (.string x))(t:Calls prog 145 #[.slice (some (aA j o)) 2 c,iI 2] w (fZ (ws.take 2) 2 w))(m:∀w2 a b,Below w.heap.size w w2->cm (ws.take 2) 2=some [a,b]->Calls prog 23 #[tp q,iI a,iI b,.string x] w2 (λe w3=>(∃n,e=.returned (eV n)/\R n w3)/\Zl d w2 w3))(r:∀n w3,R n w3->Calls prog 144 #[eV n] w3 (λe w4=>e=(if n=0 then .returned (.tuple #[]) else cn n)/\R' n w4))(G:cm (ws.take 2) 2=none->∀w2,Below w.heap.size w w2->Post (cn 3) w2)(u:∀n w4,R' n w4->Post (if n=0 then .returned (.string ⟨#[119,114,105,116,101]⟩) else cn n) w4):
  Calls prog 97 #[tp d,.slice (some (aA j o)) 3 c] w Post:=by
 have V :Hid _:= m;have W :Hid _:= r;have X :Hid _:= G;have Y :Hid _:= u;have H:=oS (some (aA j o)) c 3 w;go_enter func97,ntmps97;go_wp2_with fail
 apply H.mono;rintro e w1⟨rfl,I⟩;rw[I];go_wp2_with fail
 apply t.mono;rintro e w2⟨v,(⟨s,rfl⟩|⟨l,v2,s,rfl,y⟩)⟩
 .have z :Hid _:= X.out s w2 v;go_wp2_with fail
  exact⟨rfl,z.out⟩
 obtain⟨a,b,rfl⟩:=wF s;have J:= v.drew;have Q:= (v.cell (p:=(aA d 0)) hd).trans c0;have m:=V.out w2.drew a b J s;obtain⟨g,cc,rfl,i⟩:=kR y (by simp);have Z:= i 0 (by simp);have L:= i 1 (by simp);have HV :Hid _:= y;let ⟨cs,f,k⟩:=k
 have A:= (am.1 k).1;have B:=(v.block j A).trans k;have C:= (v.cell (p:=(aA j (o+2))) A).trans U;go_upto_region 3 with fail
 refine Gen.start (S:=λw'=>w'.cell? ⟨d,0,none⟩=some (tp q)/\w'.cell? ⟨g,0,none⟩=some (.int .i64 a)/\w'.cell? ⟨g,1,none⟩=some (.int .i64 b)/\w'.cell? ⟨j,o+2,none⟩=some (.string x)) (by kernel_rfl) ⟨Q,Z,L,C⟩ (λh=>?_);apply tk 0 1 h

 apply tk 1 2 h

 apply tk 2 3 h

 apply tk 3 13 h

 apply tk 4 5 h

 apply tk 5 6 h

 apply tk 6 13 h

 apply tk 7 8 h

 apply tk 8 9 h

 apply tk 9 13 h

 apply tk 10 11 h

 apply tk 11 12 h

 apply tk 12 13 h

 refine on 13 λK M=>?_;go_simp;apply m.mono;rintro e w3⟨⟨n,rfl,hr⟩,N⟩;have s3:= N.1.trans Q;have D:=Zl.e (w:=w2.drew) N HV.out;have O:= (aj (a:=⟨j,o+2,none⟩) (N.2 _ _ _ _ B (.inr rfl))).trans C;have r:=W.out n w3 hr

 refine M.out _ _ ⟨s3,by rw[bJ D 0 (by simp)];rfl,by rw[bJ D 1 (by simp)];rfl,O⟩ (λh=>?_)

 refine la 14 λK M=>?_;go_simp;apply r.mono;rintro e w4⟨E,P⟩;have F:=Y.out n w4 P;by_cases s:n=0
 .rw[az s]at E F;subst E;have z :Hid _:= F

  apply M.out _ _;go_wp2_with fail
  exact z.out
 rw[ax s]at E F;subst E;have z :Hid _:= F

 exact⟨rfl,z.out⟩
def DE{q:Nat}{v:Bg}(hd:d<w.heap.size)(c0:cC w (aA d 0) (tp q))(h:Calls prog 145 #[v,iI 1] w (fZ ws 1 w))(m:∀w2 (a:Nat),Below w.heap.size w w2->cm ws 1=some [(a:Int)]->a<=200->Calls prog 12 #[tp q,iI a] w2 (λe w3=>e=.returned (.tuple #[])/\Post (.returned (.string ⟨#[99,97,108,109]⟩)) w3))(n:cm ws 1=none->∀w2,Below w.heap.size w w2->Post (cn 3) w2)(i:∀a w2,cm ws 1=some [a]->(a<0\/200<a)->Below w.heap.size w w2->Post (cn 2) w2):
  Calls prog 82 #[tp d,v] w Post:=by
 have t :Hid _:= m;have u :Hid _:= n;have s :Hid _:= i;go_enter func82,ntmps82;go_wp2_with fail
 apply h.mono;rintro e w2⟨j,(⟨f,rfl⟩|⟨l,A,f,rfl,o⟩)⟩
 .have b :Hid _:= u.out f w2 j;go_wp2_with fail
  exact⟨rfl,b.out⟩
 obtain⟨a,rfl⟩:=mG f;obtain⟨g,B,rfl,c⟩:=kR o (by simp);have C:= c 0 (by simp);have D:= (j.cell (p:=(aA d 0)) hd).trans c0;by_cases h0:a<0
 .have b :Hid _:= s.out a w2 f (.inl h0) j;have x:= aR h0;go_wp2_with fail
  exact⟨rfl,b.out⟩
 .have x:= aK h0;by_cases r:200<a
  .have b :Hid _:= s.out a w2 f (.inr r) j;have y:= aR r;go_wp2_with fail
   exact⟨rfl,b.out⟩
  .have y:= aK r;obtain⟨k,rfl⟩:∃k:Nat,a=k:=⟨a.toNat,by omega⟩;go_wp2_with fail
   apply (t.out w2 k j f (by omega)).mono;rintro e w3⟨rfl,z⟩;have b :Hid _:= z;go_wp2_with fail
   exact b.out
end Wld
end Go.Proofs.YtbebfliimjjohabGreatDoor
