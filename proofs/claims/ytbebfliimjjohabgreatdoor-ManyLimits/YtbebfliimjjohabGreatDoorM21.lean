/- Parts of the proof. -/
import Derived.Test.YtbebfliimjjohabGreatDoorM20
set_option maxRecDepth 100000
set_option maxHeartbeats 8000000
set_option linter.all false
open Go.Proofs.Tryz
namespace Go.Proofs.YtbebfliimjjohabGreatDoor
open Go.RowKit Go.ChangeShapes Go.WideShapes Go.ChangeAt Go.Maps
open Num (BP Ba Dh M PA rp Hk dD m6 ko iC)
open Lease (Ob gv gV de cP mx bX eE m5 yL gv.e)
open Cache (cq E tp kp fq)
namespace Wire
variable{d s:Bh}{k0 k1 k2 k3 k4 k5 k6:Int}{l zs:List Int}{m:M}{B:Nat}{t:Bi}{u0 u1 u2 u3 u4 u5 u6 u7 u8 v2 v1:Bg}{w w' a W w1 w3:A1}
def sH.e{C:Nat}{v:Bg}(h:sH w B v l)(d:Below C w w')(t:B<=C):sH w' B v l:=by
 let ⟨ao,c,f,g,i,k,m⟩:=h
 refine⟨ao,c,f,g,i,k,λn=>?_⟩;let ⟨b,a,o,q,r⟩:=m n
 exact⟨b,a,o,q,λj s=>(d.cell (p:=(aA b (a+j))) (by show b<C;omega)).trans (r j s)⟩
def Ug(ao:Option Addr)(c:Nat)(w:A1):
  Calls prog 181 #[.slice ao 0 c] w λe w'=>e=.returned (.tuple #[.int .i64 0,.slice none 0 0,.bool false])/\w'=w:=by
 go_enter func181,ntmps181;go_wp2;apply wp_loop_rounds 1;rw[rounds_succ];go_wp2;go_ret3;exact⟨rfl,rfl⟩
def T9(w:World)(B:Nat)(l:List Int)(x:Int)(v:Value)(rest:List Int):Prop:=rest.length<=l.length/\Ba l x rest/\sH w B v rest
def X1{v:Bg}(h:sH w B v l)(a:l.length<=300):
  Calls prog 181 #[v] w λe w'=>∃x f ok,e=.returned (.tuple #[.int .i64 x,f,.bool ok])/\Below w.heap.size w w'/\(ok=false->Dh l)/\(ok=true->∃rest,T9 w B l x f rest):=by
 obtain⟨ao,c,rfl,j,k,m,o⟩:=h;by_cases p:l.length=0;have:= dG p;subst this;apply (Ug ao c w).mono;rintro e w'⟨rfl,rfl⟩;refine⟨_,_,_,rfl,au _ _,λ_ n r h=>?_,λh=>by cases h⟩;have:=bY List.length h;have F:=Num.aa0 n;simp at this;omega;obtain⟨b,q,rfl,s,t⟩:=o (by omega);apply (Uh (by omega) a j k m t).mono;rintro e w'⟨i,⟨rfl,g⟩|⟨x,f,rfl,rest,ao,u,rfl,y,z,r3,r4,r5,A⟩⟩;exact⟨_,_,_,rfl,i,λ_=>g,λh=>by cases h⟩;refine⟨_,_,_,rfl,i,λh=>absurd h (by decide),λ_=>⟨rest,y,z,ao,u,rfl,r3,r4,r5,λC=>?_⟩⟩;let ⟨d,D,E⟩:=A C
 exact⟨b,d,D,s,E⟩
def Box(w:World)(q:Nat)(zs:List Int):Prop:=
 zs.length=7/\(∀i,i<7->w.cell? ⟨q,i,none⟩=some (.int .i64 (zs.getD i 0)))/\w.cell? ⟨q,7,none⟩=some (.bool false)/\w.cell? ⟨q,8,none⟩=some (.string ByteArray.empty)/\(∀i,w.frozen? ⟨q,i,none⟩=false)/\q<w.heap.size
def At(w wr:World)(q B:Nat)(l:List Int)(v:Value)(j:Nat)(zs rest:List Int):Prop:=
 Box wr q zs/\sH wr B v rest/\rest.length<=l.length/\PA l j (zs.take j) rest/\Below w.heap.size w wr
def Box.h{q:Nat}(h:Box w q zs)(d:Below w.heap.size w w'):Box w' q zs:=by
 let ⟨e,b,f,g,c,a⟩:=h
 let ⟨hc,j⟩:=i5 d
 exact⟨e,λi k=>(hc _ _ a).trans (b i k),(hc _ _ a).trans f,(hc _ _ a).trans g,λi=>(j _ _ a).trans (c i),by have:=d.size;omega⟩
def Box.e{q:Nat}(h:Box w q zs)(j:Nat)(x:Int):
  ∃u0 u1 u2 u3 u4 u5 u6 u7 u8,(w.setCell ⟨q,j,none⟩ (.int .i64 x)).cell? ⟨q,0,none⟩=some u0/\(w.setCell ⟨q,j,none⟩ (.int .i64 x)).cell? ⟨q,1,none⟩=some u1/\(w.setCell ⟨q,j,none⟩ (.int .i64 x)).cell? ⟨q,2,none⟩=some u2/\(w.setCell ⟨q,j,none⟩ (.int .i64 x)).cell? ⟨q,3,none⟩=some u3/\(w.setCell ⟨q,j,none⟩ (.int .i64 x)).cell? ⟨q,4,none⟩=some u4 /\
   (w.setCell ⟨q,j,none⟩ (.int .i64 x)).cell? ⟨q,5,none⟩=some u5/\(w.setCell ⟨q,j,none⟩ (.int .i64 x)).cell? ⟨q,6,none⟩=some u6/\(w.setCell ⟨q,j,none⟩ (.int .i64 x)).cell? ⟨q,7,none⟩=some u7/\(w.setCell ⟨q,j,none⟩ (.int .i64 x)).cell? ⟨q,8,none⟩=some u8:=by
 let ⟨_,a,b,c,_,_⟩:=h
 let ⟨u0,d⟩:=dO (w:=w) (p:=(aA q j)) (x:=iI x) (a 0 (by omega))
 let ⟨u1,f⟩:=dO (w:=w) (p:=(aA q j)) (x:=iI x) (a 1 (by omega))
 let ⟨u2,g⟩:=dO (w:=w) (p:=(aA q j)) (x:=iI x) (a 2 (by omega))
 let ⟨u3,i⟩:=dO (w:=w) (p:=(aA q j)) (x:=iI x) (a 3 (by omega))
 let ⟨u4,k⟩:=dO (w:=w) (p:=(aA q j)) (x:=iI x) (a 4 (by omega))
 let ⟨u5,l⟩:=dO (w:=w) (p:=(aA q j)) (x:=iI x) (a 5 (by omega))
 let ⟨u6,m⟩:=dO (w:=w) (p:=(aA q j)) (x:=iI x) (a 6 (by omega))
 let ⟨u7,n⟩:=dO (w:=w) (p:=(aA q j)) (x:=iI x) b
 let ⟨u8,o⟩:=dO (w:=w) (p:=(aA q j)) (x:=iI x) c
 exact⟨u0,u1,u2,u3,u4,u5,u6,u7,u8,d,f,g,i,k,l,m,n,o⟩
def mC:M:=⟨0,0,0,0,0,0,0,false,⟨#[]⟩⟩
def lE{q:Nat}:∀(b:List Bg) (o:Nat) (w:A1),Below q a w->Below q a (w.setCells q o b)
 | [],_,_,h=>h
 |v::b,o,w,h=>by
  rw[World.setCells];exact lE b (o+1) _ (h.setCell (aa _) _)
def tF{q:Nat}(v0 v1 v2 a b c d e f:Bg)(g0:w.cell? ⟨q,0,none⟩=some u0)(g1:w.cell? ⟨q,1,none⟩=some u1)(k:w.cell? ⟨q,2,none⟩=some u2)(l:w.cell? ⟨q,3,none⟩=some u3)(m:w.cell? ⟨q,4,none⟩=some u4)(n:w.cell? ⟨q,5,none⟩=some u5)(o:w.cell? ⟨q,6,none⟩=some u6)(p:w.cell? ⟨q,7,none⟩=some u7)(r:w.cell? ⟨q,8,none⟩=some u8):
  ∀j (g:j<9),(w.setCells q 0 [v0,v1,v2,a,b,c,d,e,f]).cell? ⟨q,j,none⟩=some ([v0,v1,v2,a,b,c,d,e,f][j]'g):=by
 intro j g;have h:=World.cell?_setCells_in q [v0,v1,v2,a,b,c,d,e,f] 0 w (λi s=>by
  rw[b9];match i,s with
  |0,_=>rw[g0];rfl
  |1,_=>rw[g1];rfl
  |2,_=>rw[k];rfl
  |3,_=>rw[l];rfl
  |4,_=>rw[m];rfl
  |5,_=>rw[n];rfl
  |6,_=>rw[o];rfl
  |7,_=>rw[p];rfl
  |8,_=>rw[r];rfl) j g
 rw[b9]at h;exact h
def iO(w:World)(q:Nat):World:=w.setCells q 0 [.int .i64 0,.int .i64 0,.int .i64 0,.int .i64 0,.int .i64 0,.int .i64 0,.int .i64 0,.bool false,.string ⟨#[]⟩]
def kO{q:Nat}(h:Below q a w):Below q a (iO w q):=lE _ _ _ h
def kP{q:Nat}(g0:w.cell? ⟨q,0,none⟩=some u0)(g1:w.cell? ⟨q,1,none⟩=some u1)(a:w.cell? ⟨q,2,none⟩=some u2)(b:w.cell? ⟨q,3,none⟩=some u3)(c:w.cell? ⟨q,4,none⟩=some u4)(d:w.cell? ⟨q,5,none⟩=some u5)(e:w.cell? ⟨q,6,none⟩=some u6)(f:w.cell? ⟨q,7,none⟩=some u7)(g:w.cell? ⟨q,8,none⟩=some u8):
  (iO w q).cell? ⟨q,0,none⟩=some (.int .i64 0)/\(iO w q).cell? ⟨q,1,none⟩=some (.int .i64 0)/\(iO w q).cell? ⟨q,2,none⟩=some (.int .i64 0)/\(iO w q).cell? ⟨q,3,none⟩=some (.int .i64 0)/\(iO w q).cell? ⟨q,4,none⟩=some (.int .i64 0) /\
   (iO w q).cell? ⟨q,5,none⟩=some (.int .i64 0)/\(iO w q).cell? ⟨q,6,none⟩=some (.int .i64 0)/\(iO w q).cell? ⟨q,7,none⟩=some (.bool false)/\(iO w q).cell? ⟨q,8,none⟩=some (.string ⟨#[]⟩):=by
 have h:=tF (iI 0) (iI 0) (iI 0) (iI 0) (iI 0) (iI 0) (iI 0) (.bool false) (.string ⟨#[]⟩) g0 g1 a b c d e f g;exact⟨h 0 (by decide),h 1 (by decide),h 2 (by decide),h 3 (by decide),h 4 (by decide),h 5 (by decide),h 6 (by decide),h 7 (by decide),h 8 (by decide)⟩
def mB(w:World)(q:Nat)(k0 k1 k2 k3 k4 k5 k6:Int)(l:Bool)(d:ByteArray):World:=
 (((w.setCell ⟨q,7,none⟩ (.bool l)).setCell ⟨q,8,none⟩ (.string d)).setCells q 0 [.int .i64 k0,.int .i64 k1,.int .i64 k2,.int .i64 k3,.int .i64 k4,.int .i64 k5,.int .i64 k6,.bool l,.string d]).drew
def yo{q:Nat}{l:Bool}(h:Below q a w):Below q a (mB w q k0 k1 k2 k3 k4 k5 k6 l d):=
 (lE _ _ _ ((h.setCell (aa _) _).setCell (aa _) _)).drew
def yp{q:Nat}(l:Bool)(d:Bh)(g0:w.cell? ⟨q,0,none⟩=some u0)(g1:w.cell? ⟨q,1,none⟩=some u1)(b:w.cell? ⟨q,2,none⟩=some u2)(c:w.cell? ⟨q,3,none⟩=some u3)(e:w.cell? ⟨q,4,none⟩=some u4)(f:w.cell? ⟨q,5,none⟩=some u5)(g:w.cell? ⟨q,6,none⟩=some u6)(i:w.cell? ⟨q,7,none⟩=some u7)(j:w.cell? ⟨q,8,none⟩=some u8):
  (mB w q k0 k1 k2 k3 k4 k5 k6 l d).cell? ⟨q,0,none⟩=some (.int .i64 k0)/\(mB w q k0 k1 k2 k3 k4 k5 k6 l d).cell? ⟨q,1,none⟩=some (.int .i64 k1)/\(mB w q k0 k1 k2 k3 k4 k5 k6 l d).cell? ⟨q,2,none⟩=some (.int .i64 k2)/\(mB w q k0 k1 k2 k3 k4 k5 k6 l d).cell? ⟨q,3,none⟩=some (.int .i64 k3) /\
   (mB w q k0 k1 k2 k3 k4 k5 k6 l d).cell? ⟨q,4,none⟩=some (.int .i64 k4)/\(mB w q k0 k1 k2 k3 k4 k5 k6 l d).cell? ⟨q,5,none⟩=some (.int .i64 k5)/\(mB w q k0 k1 k2 k3 k4 k5 k6 l d).cell? ⟨q,6,none⟩=some (.int .i64 k6)/\(mB w q k0 k1 k2 k3 k4 k5 k6 l d).cell? ⟨q,7,none⟩=some (.bool l)/\(mB w q k0 k1 k2 k3 k4 k5 k6 l d).cell? ⟨q,8,none⟩=some (.string d):=by
 have a:∀(x:Addr) (u:Bg),cC w x u->∃k,cC ((w.setCell (aA q 7) (.bool l)).setCell (aA q 8) (.string d)) x k:=λx u h=>by
  let ⟨u1,m⟩:=dO (p:=(aA q 7)) (x:=.bool l) h
  exact dO (p:=(aA q 8)) (x:=.string d) m
 let ⟨_,n⟩:=a _ _ g0
 let ⟨_,o⟩:=a _ _ g1
 let ⟨_,r⟩:=a _ _ b
 let ⟨_,r3⟩:=a _ _ c
 let ⟨_,r4⟩:=a _ _ e
 let ⟨_,r5⟩:=a _ _ f
 let ⟨_,s⟩:=a _ _ g
 let ⟨_,t⟩:=a _ _ i
 let ⟨_,v⟩:=a _ _ j
 have h:=tF (iI k0) (iI k1) (iI k2) (iI k3) (iI k4) (iI k5) (iI k6) (.bool l) (.string d) n o r r3 r4 r5 s t v;unfold mB;simp;exact⟨h 0 (by decide),h 1 (by decide),h 2 (by decide),h 3 (by decide),h 4 (by decide),h 5 (by decide),h 6 (by decide),h 7 (by decide),h 8 (by decide)⟩
def At.e{wr w2:A1}{j:Nat}{rest a:List Int}{x:Int}(s:B<=w.heap.size)(f:Box w2 w.heap.size zs)(q:j<7)(hc:T9 wr B rest x v2 a)(g:Below wr.heap.size wr w2)(t:rest.length<=l.length)(k:PA l j (zs.take j) rest)(c:Below w.heap.size w wr):
  At w (w2.setCell ⟨w.heap.size,j,none⟩ (.int .i64 x)) w.heap.size B l v2 (j+1) (zs.set j x) a:=by
 obtain⟨r,b,u,v,n,o⟩:=f;have d:∀i,i≠j->(w2.setCell (aA w.heap.size j) (iI x)).cell? (aA w.heap.size i)=w2.cell? (aA w.heap.size i):=λi m=>
  ak _ _ _ _ (by intro h;injection h with _ y;exact m y.symm)
 refine⟨⟨by simpa using r,λi m=>?_,?_,?_,λi=>?_,?_⟩,(hc.2.2.e g (by have:=c.size;omega)).e ((au B w2).setCell (p:=(aA w.heap.size j)) s _) (aa _),by have:=hc.1;omega,?_,(c.trans (g.mono c.size)).setCell (aa _) _⟩;by_cases h:i=j;subst h;rw[ay _ _ _ (b i m)];simp[aG,r,q];rw[d i h,b i m];simp[aG,show j≠i by omega];rw[d 7 (by omega),u];rw[d 8 (by omega),v];simpa using n i;simpa using o;have e:(zs.set j x).take (j+1)=zs.take j++[x]:=by
  rw[bF (by simp;omega),oF,List.take_set_of_le (aa _)]
 rw[e];exact k.H q hc.2.1
def Ub(l:List Int)(w:World)(e:Ending)(w':World):Prop:=∃m ok,e=.returned (.tuple #[M.ab m,.bool ok])/\Below w.heap.size w w'/\(ok=false->rp l)/\(ok=true->Hk l m)
def Ub.h(a:Below w.heap.size w W)(h:rp l):Ub l w (.returned (.tuple #[M.ab mC,.bool false])) W:=⟨mC,false,rfl,a,λ_=>h,λh=>by cases h⟩
def Ub.e(a:Below w.heap.size w W)(h:Hk l m):Ub l w (.returned (.tuple #[M.ab m,.bool true])) W:=⟨m,true,rfl,a,λh=>absurd h (by decide),λ_=>h⟩
def KL{b a:Nat}(h:∀j,j<l.length->w.cell? ⟨b,a+j,none⟩=some (.int .u8 (l.getD j 0))):∀j v,((l.drop 2).map (Value.int .u8))[j]?=some v->w.drew.cell? ((⟨b,a+2,none⟩:Addr).add j)=some v:=by
 intro j v c;have f:j<(l.drop 2).length:=by
  have:=(aT.1 c).1;simpa using this
 rw[cK]at f;have d:=h (2+j) (by omega);rw[di,mU]at c;rw[aG]at d;obtain⟨y,g⟩:∃y,l[2+j]?=some y:=⟨_,aB (by omega)⟩;rw[g]at c d;simp at c d;subst c;rw[<-iZ]at d;have e:((aA b (a+2)):Addr).add j=(aA b (a+2+j)):=by unfold Addr.add;split<;>simp_all
 rw[e];exact d
def acW(h:zs.length=7):∃k0 k1 k2 k3 k4 k5 k6,zs=[k0,k1,k2,k3,k4,k5,k6]:=by
 match zs,h with
 | [k0,k1,k2,k3,k4,k5,k6],_=>exact⟨k0,k1,k2,k3,k4,k5,k6,rfl⟩
def At.start{v:Bg}(d:B<=w.heap.size)(h:sH w B v l)(a:Below (w.alloc (.cells #[.int .i64 0,.int .i64 0,.int .i64 0,.int .i64 0,.int .i64 0,.int .i64 0,.int .i64 0,.bool false,.string ⟨#[]⟩] t)).heap.size (w.alloc (.cells #[.int .i64 0,.int .i64 0,.int .i64 0,.int .i64 0,.int .i64 0,.int .i64 0,.int .i64 0,.bool false,.string ⟨#[]⟩] t)) w1):
  At w w1 w.heap.size B l v 0 (List.replicate 7 0) l:=by
 obtain⟨hc,f⟩:=i5 a;have c:=a.size;simp at c;have b:= ((au _ _).alloc (aa _) _).trans (a.mono (by simp));refine⟨⟨rfl,?_,?_,?_,?_,by omega⟩,h.e b d,aa _,Num.PA.start l,b⟩;intro i g;rw[hc _ _ (by simp)];revert i;apply Hv<;>simp;rw[hc _ _ (by simp)];simp;rw[hc _ _ (by simp)];simp;rfl;intro i;rw[f _ _ (by simp)];simp
theorem Ur{B:Nat}{v:Value}{l:List Int}{w:World}(h:sH w B v l)(h300:l.length<=300)(hB:B<=w.heap.size):
  Calls prog 128 #[v] w (Ub l w):=by
 go_enter func128,ntmps128
 go_wp2_with (go_at_call 180;refine(sI).mono ?_;rintro e w1⟨rfl,hb1⟩)
 have hidx:=Dp w.heap.size
 go_loopw [0,3,7] (λv o i wr=>∃(j:Nat) (zs rest:List Int) (ok:Bool),j<=7/\i=.int .i64 j/\o=.bool ok/\At w wr w.heap.size B l v j zs rest) (λ_ _ i _=>7-(intOf i).toNat)
 case atStart=>exact⟨0,List.replicate 7 0,l,false,by omega,rfl,rfl,At.start hB h hb1⟩
 case round=>
  obtain⟨j,zs,rest,ok,hj,rfl,rfl,hat⟩:=hrel

  by_cases hlt:j<7
  .have hij:=hidx j hlt

   let ⟨hbox,hsee,hrl,hpar,hbl⟩:=hat
   go_wp2_with (go_at_call 181;refine(X1 hsee (by omega)).mono ?_;rintro e w2⟨x,v2,o2,rfl,hb2,hno,hyes⟩;have hbox2:=hbox.h hb2;have hcj:=hbox2.2.1 j hlt;have hfz2:=hbox2.2.2.2.2.1;let ⟨u0,u1,u2,u3,u4,u5,u6,u7,u8,g0,g1,g2,g3,g4,g5,g6,g7,g8⟩:=hbox2.e j x)
   .have ho:(!o2)=true:=by assumption
    have ho':o2=false:=by simpa using ho
    change bodyPost _ _ _ _ _ (iO (w2.setCell ⟨w.heap.size,j,none⟩ (.int .i64 x)) w.heap.size)
    let ⟨z0,z1,z2,z3,z4,z5,z6,z7,z8⟩:=kP g0 g1 g2 g3 g4 g5 g6 g7 g8
    have hB2:Below w.heap.size w (iO (w2.setCell ⟨w.heap.size,j,none⟩ (.int .i64 x)) w.heap.size):=kO ((hbl.trans (hb2.mono hbl.size)).setCell (aa _) _)
    have hnm:=hpar.I hlt (hno ho')
    generalize iO (w2.setCell ⟨w.heap.size,j,none⟩ (.int .i64 x)) w.heap.size=W at *

    exact bz (v:=.tuple #[M.ab mC,.bool false]) (by simp[mC,results,results128,go_sem,M.ab,z0,z1,z2,z3,z4,z5,z6,z7,z8]) rfl (Ub.h hB2 hnm)
   .have ho:(!o2)=false:=by assumption
    have ho':o2=true:=by simpa using ho
    let ⟨rest',hr⟩:=hyes ho'
    have R:=At.e hB hbox2 hlt hr hb2 hrl hpar hbl
    go_roundw
    case rel=>exact⟨j+1,zs.set j x,rest',o2,by omega,by go_num,rfl,R⟩
    case measure=>simp[intOf];omega
  .obtain rfl:j=7:=by omega
   obtain⟨⟨hz,hcell,h7,h8,hfz,hsz⟩,⟨ao,cp,rfl,hc1,hc2,hby,hee⟩,hrl,hpar,hbl⟩:=hat
   obtain⟨k0,k1,k2,k3,k4,k5,k6,rfl⟩:=acW hz
   have g0:wr.cell? ⟨w.heap.size,0,none⟩=some (.int .i64 k0):=hcell 0 (by omega)
   have g1:wr.cell? ⟨w.heap.size,1,none⟩=some (.int .i64 k1):=hcell 1 (by omega)
   have g2:wr.cell? ⟨w.heap.size,2,none⟩=some (.int .i64 k2):=hcell 2 (by omega)
   have g3:wr.cell? ⟨w.heap.size,3,none⟩=some (.int .i64 k3):=hcell 3 (by omega)
   have g4:wr.cell? ⟨w.heap.size,4,none⟩=some (.int .i64 k4):=hcell 4 (by omega)
   have g5:wr.cell? ⟨w.heap.size,5,none⟩=some (.int .i64 k5):=hcell 5 (by omega)
   have g6:wr.cell? ⟨w.heap.size,6,none⟩=some (.int .i64 k6):=hcell 6 (by omega)
   have hpar':PA l 7 [k0,k1,k2,k3,k4,k5,k6] rest:=hpar

   have HP:Hid (PA l 7 [k0,k1,k2,k3,k4,k5,k6] rest):=hpar'
   by_cases hsh:rest.length<2
   .have hnm:=hpar'.h hsh

    go_wp2_with fail
    change bodyPost _ _ _ _ _ (iO wr w.heap.size)
    let ⟨z0,z1,z2,z3,z4,z5,z6,z7,z8⟩:=kP g0 g1 g2 g3 g4 g5 g6 h7 h8
    have hB2:Below w.heap.size w (iO wr w.heap.size):=kO hbl
    generalize iO wr w.heap.size=W at *

    exact bz (v:=.tuple #[M.ab mC,.bool false]) (by simp[mC,results,results128,go_sem,M.ab,z0,z1,z2,z3,z4,z5,z6,z7,z8]) rfl (Ub.h hB2 hnm)
   .obtain⟨b,off,rfl,hbB,hcl⟩:=hee (by omega)
    have hcl0:=hcl 0 (by omega)
    have hcl1:=hcl 1 (by omega)
    rw[lL]at hcl0
    let ⟨y0,hy0⟩:∃y,rest.getD 0 0=y:=⟨_,rfl⟩
    let ⟨y1,hy1⟩:∃y,rest.getD 1 0=y:=⟨_,rfl⟩
    have hyb:0<=y1/\y1<256:=by
     rw[<-hy1,aG,aB (by omega)]
     exact hby _ (bA _)
    let ⟨hyb0,hyb1⟩:=hyb
    rw[hy0]at hcl0
    rw[hy1]at hcl1
    by_cases hne:(rest.length:Int)-2=y1
    .have hne2:((rest.length:Int)-2 != y1)=false:=by simpa using hne
     have hread:=hpar'.j hrl
     rw[hy0]at hread
     have hby2:∀x∈rest.drop 2,0<=x/\x<256:=λx hx=>hby x (py hx)
     by_cases hcp:cp=2
     .have hl2:rest.length=2:=by omega
      have hdn:rest.drop 2=[]:=Zy (by omega)
      rw[hdn]at hread
      have hconv:(convert 61 9 (.slice (some ⟨b,off,none⟩) 0 0)).run prog wr.drew=.ok (.string (dD [])) wr.drew:=lY (w:=wr.drew) ⟨b,off,none⟩ [] 0 (λj v hj=>by simp at hj)
      obtain⟨st,hst⟩:∃st,dD []=st:=⟨_,rfl⟩
      rw[hst]at hconv hread
      clear hpar' hcl hby hby2 hy0 hy1 hst HP hdn
      subst hcp
      go_wp2_with fail
      go_region
      all_goals go_wp2
      change bodyPost _ _ _ _ _ (mB wr w.heap.size k0 k1 k2 k3 k4 k5 k6 (y0==1) st)
      obtain⟨z0,z1,z2,z3,z4,z5,z6,z7,z8⟩:=yp (y0==1) st g0 g1 g2 g3 g4 g5 g6 h7 h8
      have hB2:Below w.heap.size w (mB wr w.heap.size k0 k1 k2 k3 k4 k5 k6 (y0==1) st):=yo hbl
      generalize mB wr w.heap.size k0 k1 k2 k3 k4 k5 k6 (y0==1) st=W at *

      exact bz (v:=.tuple #[M.ab ⟨k0,k1,k2,k3,k4,k5,k6,y0==1,st⟩,.bool true]) (by simp[results,results128,go_sem,M.ab,z0,z1,z2,z3,z4,z5,z6,z7,z8]) rfl (Ub.e hB2 hread)
     .have hconv:(convert 61 9 (.slice (some ⟨b,off+2,none⟩) (rest.length-2) (cp-2))).run prog wr.drew=.ok (.string (dD (rest.drop 2))) wr.drew:=by
       have h9:=lY (w:=wr.drew) ⟨b,off+2,none⟩ (rest.drop 2) (cp-2) (KL hcl)
       rwa [cK]at h9
      let ⟨st,hst⟩:∃st,dD (rest.drop 2)=st:=⟨_,rfl⟩
      rw[hst]at hconv hread
      clear hpar' hcl hby hby2 hy0 hy1 hst HP
      go_wp2_with fail
      go_region
      all_goals go_wp2
      change bodyPost _ _ _ _ _ (mB wr w.heap.size k0 k1 k2 k3 k4 k5 k6 (y0==1) st)
      obtain⟨z0,z1,z2,z3,z4,z5,z6,z7,z8⟩:=yp (y0==1) st g0 g1 g2 g3 g4 g5 g6 h7 h8
      have hB2:Below w.heap.size w (mB wr w.heap.size k0 k1 k2 k3 k4 k5 k6 (y0==1) st):=yo hbl
      generalize mB wr w.heap.size k0 k1 k2 k3 k4 k5 k6 (y0==1) st=W at *

      exact bz (v:=.tuple #[M.ab ⟨k0,k1,k2,k3,k4,k5,k6,y0==1,st⟩,.bool true]) (by simp[results,results128,go_sem,M.ab,z0,z1,z2,z3,z4,z5,z6,z7,z8]) rfl (Ub.e hB2 hread)
    .have hnm:=hpar'.e (by rw[hy1];exact hne)

     have hneq:((rest.length:Int)-2 != y1)=true:=by simpa using hne
     go_wp2_with fail
     change bodyPost _ _ _ _ _ (iO wr w.heap.size)
     let ⟨z0,z1,z2,z3,z4,z5,z6,z7,z8⟩:=kP g0 g1 g2 g3 g4 g5 g6 h7 h8
     have hB2:Below w.heap.size w (iO wr w.heap.size):=kO hbl
     generalize iO wr w.heap.size=W at *

     exact bz (v:=.tuple #[M.ab mC,.bool false]) (by simp[mC,results,results128,go_sem,M.ab,z0,z1,z2,z3,z4,z5,z6,z7,z8]) rfl (Ub.h hB2 hnm)
def tC{v:Bg}(h:sH w B v l):(convert 61 9 v).run prog w=.ok (.string (dD l)) w:=by
 obtain⟨ao,c,rfl,_,_,_,k⟩:=h;by_cases m:0<l.length;obtain⟨b,g,rfl,_,n⟩:=k m;refine lY _ l c (λj v f=>?_);have d:j<l.length:=by
  have:=(aT.1 f).1;simpa using this
 have i:=n j d;rw[di,aB d]at f;rw[aG,aB d]at i;simp at f i;subst f;have e:((aA b g):Addr).add j=(aA b (g+j)):=by unfold Addr.add;split<;>simp_all
 rw[e];exact i;have:l=[]:=dG (by omega);subst this;cases ao with
 |none=>exact Ht
 |some a=>exact lY a [] c (λj v f=>by simp at f)
def P0(a:(convert 61 9 v1).run prog w=.ok (.string s) w)(b:(convert 61 9 v2).run prog w=.ok (.string s) w):
  Calls prog 130 #[v1,v2] w λe w'=>e=.returned (.bool true)/\w'=w:=by
 go_enter func130,ntmps130;go_wp2;go_ret;exact⟨rfl,rfl⟩
def Ue{t:Bh}(h:s≠t):(s.toList==t.toList)=false:=by
 rw[beq_eq_false_iff_ne];intro c;apply h;rw[iw,iw]at c;let ⟨⟨a⟩⟩:=s
 let ⟨⟨b⟩⟩:=t
 have d:a=b:=c;rw[d]
def Uk{t:Bh}(a:s≠t)(b:(convert 61 9 v1).run prog w=.ok (.string s) w)(c:(convert 61 9 v2).run prog w=.ok (.string t) w):
  Calls prog 130 #[v1,v2] w λe w'=>e=.returned (.bool false)/\w'=w:=by
 go_enter func130,ntmps130;go_wp2;go_ret;refine⟨?_,rfl⟩;show Ending.returned (.bool (s.toList==t.toList))=_;rw[Ue a]
def Ua(l:List Int)(w:World)(e:Ending)(w':World):Prop:=
 ∃m a,e=.returned (.tuple #[M.ab m,a])/\Below w.heap.size w w'/\((a=.nilIface/\iC m=true/\l=m.h)\/(a=.iface 59 (.int .i64 3)/\m=mC/\rp l))
def Ua.e(a:Below w.heap.size w W)(h:rp l):Ua l w (.returned (.tuple #[M.ab mC,.iface 59 (.int .i64 3)])) W:=⟨mC,_,rfl,a,.inr ⟨rfl,rfl,h⟩⟩
def Ua.h(a:Below w.heap.size w W)(b:iC m=true)(c:l=m.h):Ua l w (.returned (.tuple #[M.ab m,.nilIface])) W:=⟨m,_,rfl,a,.inl ⟨rfl,b,c⟩⟩
def KJ(w:World)(q:Nat):Prop:=
 w.cell? ⟨q,0,none⟩=some (.int .i64 0)/\w.cell? ⟨q,1,none⟩=some (.int .i64 0)/\w.cell? ⟨q,2,none⟩=some (.int .i64 0)/\w.cell? ⟨q,3,none⟩=some (.int .i64 0)/\w.cell? ⟨q,4,none⟩=some (.int .i64 0)/\w.cell? ⟨q,5,none⟩=some (.int .i64 0)/\w.cell? ⟨q,6,none⟩=some (.int .i64 0)/\w.cell? ⟨q,7,none⟩=some (.bool false)/\w.cell? ⟨q,8,none⟩=some (.string ⟨#[]⟩)/\∀i,w.frozen? ⟨q,i,none⟩=false
def KJ.start(a:Below (w.alloc (.cells #[.int .i64 0,.int .i64 0,.int .i64 0,.int .i64 0,.int .i64 0,.int .i64 0,.int .i64 0,.bool false,.string ⟨#[]⟩] t)).heap.size (w.alloc (.cells #[.int .i64 0,.int .i64 0,.int .i64 0,.int .i64 0,.int .i64 0,.int .i64 0,.int .i64 0,.bool false,.string ⟨#[]⟩] t)) w1):KJ w1 w.heap.size:=by
 have hc:=λi=>(i5 a).1 w.heap.size i (by simp);exact⟨by rw[hc];simp,by rw[hc];simp,by rw[hc];simp,by rw[hc];simp,by rw[hc];simp,by rw[hc];simp,by rw[hc];simp,by rw[hc];simp,by rw[hc];simp,λi=>by rw[(λi=>(i5 a).2 w.heap.size i (by simp))];simp⟩
def KJ.e{o:Obj}(h:KJ w1 w.heap.size)(a:w.heap.size<w1.heap.size)(c:Below w.heap.size w w1)(f:Below (w1.alloc o).heap.size (w1.alloc o) w3):KJ w3 w.heap.size/\Below w.heap.size w w3/\w1.heap.size<w3.heap.size:=by
 have b:= ((au _ _).alloc (aa _) _).trans (f.mono (by simp));let ⟨hc,g⟩:=i5 b
 let ⟨j,k,l,m,n,p,q,r,s,d⟩:=h
 have t:=f.size;simp at t;exact⟨⟨(hc _ _ a).trans j,(hc _ _ a).trans k,(hc _ _ a).trans l,(hc _ _ a).trans m,(hc _ _ a).trans n,(hc _ _ a).trans p,(hc _ _ a).trans q,(hc _ _ a).trans r,(hc _ _ a).trans s,λi=>(g _ _ a).trans (d i)⟩,c.trans (b.mono (by omega)),by omega⟩
def KJ.h{k c n e s o v:Int}{l:Bool}(a:Below (w1.alloc (.cells #[.int .i64 k,.int .i64 c,.int .i64 n,.int .i64 e,.int .i64 s,.int .i64 o,.int .i64 v,.bool l,.string d] t)).heap.size (w1.alloc (.cells #[.int .i64 k,.int .i64 c,.int .i64 n,.int .i64 e,.int .i64 s,.int .i64 o,.int .i64 v,.bool l,.string d] t)) w3):
  w3.cell? ⟨w1.heap.size,0,none⟩=some (.int .i64 k)/\w3.cell? ⟨w1.heap.size,1,none⟩=some (.int .i64 c)/\w3.cell? ⟨w1.heap.size,2,none⟩=some (.int .i64 n)/\w3.cell? ⟨w1.heap.size,3,none⟩=some (.int .i64 e)/\w3.cell? ⟨w1.heap.size,4,none⟩=some (.int .i64 s)/\w3.cell? ⟨w1.heap.size,5,none⟩=some (.int .i64 o)/\w3.cell? ⟨w1.heap.size,6,none⟩=some (.int .i64 v)/\w3.cell? ⟨w1.heap.size,7,none⟩=some (.bool l)/\w3.cell? ⟨w1.heap.size,8,none⟩=some (.string d):=by
 have hc:=λi=>(i5 a).1 w1.heap.size i (by simp);exact⟨by rw[hc];simp,by rw[hc];simp,by rw[hc];simp,by rw[hc];simp,by rw[hc];simp,by rw[hc];simp,by rw[hc];simp,by rw[hc];simp,by rw[hc];simp⟩
def KM(w:A1)(q:Nat):(iO w q).heap.size=w.heap.size:=by
 unfold iO;simp only[World.setCells,nJ]
def X3{v:Bg}(h:sH w B v l)(S:l.length<=300)(hB:B<=w.heap.size):
  Calls prog 64 #[v] w (Ua l w):=by
 have Y:∀x∈l,0<=x/\x<256:=by let ⟨_,_,_,_,_,h4,_⟩:=h;exact h4
 go_enter func64,ntmps64;go_wp2_with fail
 refine(Ur (h.e ((au _ _).alloc hB _) (aa _)) S (by simp;omega)).mono ?_;rintro e w1⟨⟨k0,k1,k2,k3,k4,k5,k6,c,a⟩,ok,rfl,D,Z,T⟩;dsimp only[M.ab];have E:w.heap.size<w1.heap.size:=by have:=D.size;simp at this;omega
 have F:Below w.heap.size w w1:=((au _ _).alloc (aa _) _).trans (D.mono (by simp));have hZ:=KJ.start D;cases ok with
 |false=>
  have g:=Z rfl;let ⟨G,H,I,J,K,L,N,O,P,Q⟩:=hZ

  go_wp2_with fail
  change bodyPost _ _ _ _ _ ((iO w1 w.heap.size).alloc _);let ⟨m,n,o,p,q,r,s,t,u⟩:=kP G H I J K L N O P
  have b:Below w.heap.size w (iO w1 w.heap.size):=kO F;have b:=b.alloc b.size (.cells #[iI k0,iI k1,iI k2,iI k3,iI k4,iI k5,iI k6,.bool c,.string a] 129);have d:w.heap.size<(iO w1 w.heap.size).heap.size:=by rw[KM];exact E
  generalize iO w1 w.heap.size=y at *;have m:=(aH y (.cells #[iI k0,iI k1,iI k2,iI k3,iI k4,iI k5,iI k6,.bool c,.string a] 129) (aA w.heap.size 0) d).trans m;have n:=(aH y (.cells #[iI k0,iI k1,iI k2,iI k3,iI k4,iI k5,iI k6,.bool c,.string a] 129) (aA w.heap.size 1) d).trans n;have o:=(aH y (.cells #[iI k0,iI k1,iI k2,iI k3,iI k4,iI k5,iI k6,.bool c,.string a] 129) (aA w.heap.size 2) d).trans o;have p:=(aH y (.cells #[iI k0,iI k1,iI k2,iI k3,iI k4,iI k5,iI k6,.bool c,.string a] 129) (aA w.heap.size 3) d).trans p;have q:=(aH y (.cells #[iI k0,iI k1,iI k2,iI k3,iI k4,iI k5,iI k6,.bool c,.string a] 129) (aA w.heap.size 4) d).trans q;have r:=(aH y (.cells #[iI k0,iI k1,iI k2,iI k3,iI k4,iI k5,iI k6,.bool c,.string a] 129) (aA w.heap.size 5) d).trans r;have s:=(aH y (.cells #[iI k0,iI k1,iI k2,iI k3,iI k4,iI k5,iI k6,.bool c,.string a] 129) (aA w.heap.size 6) d).trans s;have t:=(aH y (.cells #[iI k0,iI k1,iI k2,iI k3,iI k4,iI k5,iI k6,.bool c,.string a] 129) (aA w.heap.size 7) d).trans t;have u:=(aH y (.cells #[iI k0,iI k1,iI k2,iI k3,iI k4,iI k5,iI k6,.bool c,.string a] 129) (aA w.heap.size 8) d).trans u;generalize y.alloc (.cells #[.int .i64 k0,.int .i64 k1,.int .i64 k2,.int .i64 k3,.int .i64 k4,.int .i64 k5,.int .i64 k6,.bool c,.string a] 129)=W at *

  exact bz (v:=.tuple #[M.ab mC,.iface 59 (iI 3)]) (by simp[mC,results,results64,go_sem,M.ab,m,n,o,p,q,r,s,t,u]) rfl (Ua.e b g)
 |true=>
  have f:=T rfl;have U:a.size<=1000:=by have h3:a.size<=l.length:=f.1;omega
  go_wp2_with fail
  cases hok:iC ⟨k0,k1,k2,k3,k4,k5,k6,c,a⟩ with
  |false=>
   have g:rp l:=λm0 h0 X=>by
    have:=f.2 m0 h0 X;rw[<-this,hok]at h0;cases h0
   apply (M4 _ U hok).mono;rintro e w3⟨rfl,z⟩;let ⟨A,i,ad⟩:=KJ.e hZ E F z
   let ⟨G,H,I,J,K,L,N,O,P,Q⟩:=A
   go_wp2_with fail
   change bodyPost _ _ _ _ _ (iO w3 w.heap.size);let ⟨m,n,o,p,q,r,s,t,u⟩:=kP G H I J K L N O P
   have b:= kO i;generalize iO w3 w.heap.size=W at *;exact bz (v:=.tuple #[M.ab mC,.iface 59 (iI 3)]) (by simp[mC,results,results64,go_sem,M.ab,m,n,o,p,q,r,s,t,u]) rfl (Ua.e b g)
  |true=>
   apply (Uj _ U hok).mono;rintro e w3⟨v3,rfl,aI,z⟩;let ⟨A,i,ad⟩:=KJ.e hZ E F z
   have j:=Uf aI;have V:=tC (h.e i hB);have aS:=KJ.h z;go_wp2_with fail
   by_cases k:l=M.h ⟨k0,k1,k2,k3,k4,k5,k6,c,a⟩
   .rw[<-k]at j;apply (P0 j V).mono;rintro e R⟨rfl,rfl⟩;let ⟨G,H,I,J,K,L,N,O,P,Q⟩:=A
    let ⟨b0,b1,b2,b3,b4,b5,b6,b7,b8⟩:=aS
    go_wp2_with fail
    change bodyPost _ _ _ _ _ (R.setCells w.heap.size 0 [.int .i64 k0,.int .i64 k1,.int .i64 k2,.int .i64 k3,.int .i64 k4,.int .i64 k5,.int .i64 k6,.bool c,.string a]);have C:=tF (iI k0) (iI k1) (iI k2) (iI k3) (iI k4) (iI k5) (iI k6) (.bool c) (.string a) G H I J K L N O P;have b:=lE [iI k0,iI k1,iI k2,iI k3,iI k4,iI k5,iI k6,.bool c,.string a] 0 R i;generalize R.setCells w.heap.size 0 [.int .i64 k0,.int .i64 k1,.int .i64 k2,.int .i64 k3,.int .i64 k4,.int .i64 k5,.int .i64 k6,.bool c,.string a]=W at *;have m:=C 0 (by decide);have n:=C 1 (by decide);have o:=C 2 (by decide);have p:=C 3 (by decide);have q:=C 4 (by decide);have r:=C 5 (by decide);have s:=C 6 (by decide);have t:=C 7 (by decide);have u:=C 8 (by decide);simp only[List.getElem_cons_zero,List.getElem_cons_succ]at m n o p q r s t u;exact bz (v:=.tuple #[M.ab ⟨k0,k1,k2,k3,k4,k5,k6,c,a⟩,.nilIface]) (by simp[results,results64,go_sem,M.ab,m,n,o,p,q,r,s,t,u]) rfl (Ua.h b hok k)
   .have g:rp l:=λm0 h0 X=>by
     have:=f.2 m0 h0 X;rw[this]at k;exact k X
    have a0:dD (M.h ⟨k0,k1,k2,k3,k4,k5,k6,c,a⟩)≠dD l:=λhs=>k (Num.PE (Num.uH hok) Y hs).symm;apply (Uk a0 j V).mono;rintro e R⟨rfl,rfl⟩;let ⟨G,H,I,J,K,L,N,O,P,Q⟩:=A
    go_wp2_with fail
    change bodyPost _ _ _ _ _ (iO R w.heap.size);let ⟨m,n,o,p,q,r,s,t,u⟩:=kP G H I J K L N O P
    have b:= kO i;generalize iO R w.heap.size=W at *;exact bz (v:=.tuple #[M.ab mC,.iface 59 (iI 3)]) (by simp[mC,results,results64,go_sem,M.ab,m,n,o,p,q,r,s,t,u]) rfl (Ua.e b g)
end Wire
namespace Plain
def M1{a b A B:Int}(h0:0<=a)(d:a<=A)(c:0<=b)(e:b<=B):0<=a*b/\a*b<=A*B:=
 ⟨rI h0 c,Rj d e c (by omega)⟩
end Plain
namespace Clock
def Ks{n m:Int}{w:A1}(h0:0<=n)(a:n<=m):
  Calls prog 39 #[iI n,iI m] w λe w'=>e=.returned (.bool true)/\w'=w:=by
 go_enter func39,ntmps39;go_wp2;go_ret;exact⟨rfl,rfl⟩
def Db{d t:Int}{w:A1}(h0:0<=d)(i:d<=500)(c:0<=t)(f:t<=1099511627776):
  Calls prog 15 #[iI d,iI t] w λe w'=>e=.returned (.tuple #[iI (t*(1000-d)/(1000+d)),.nilIface])/\w'=w:=by
 obtain⟨g,h⟩:=(Plain.M1 (a:=t) (b:=1000-d) (A:=1099511627776) (B:=1000) c f (by omega) (by omega));go_enter func15,ntmps15;go_wp2_with (go_at_call 39;refine(Ks (by omega) (by omega)).mono ?_;rintro e w'⟨rfl,rfl⟩)
 go_ret2;exact⟨rfl,rfl⟩
end Clock
namespace Wld
variable{c m p i:Nat}{w w':A1}
structure K where
 id:Int
 Ff:Int
 KQ:Int
 mg:Int
 gY:Int
 io:Int
 d:ByteArray
 zk:Int
 gW:Bool
 H0:Bool
 qN:Int
 ft:Int
 dV:Int
 nk:Int
 ep:Int
 zi:Int
 Fg:Int
 fY:List E
 gZ:Int->Int
 n:Nat
def pcl(k:K):List Value:=[.int .i64 k.id,.int .i64 k.Ff,.int .i64 k.KQ,.int .i64 k.mg,.int .i64 k.gY,.int .i64 k.io,.string k.d,.int .i64 k.zk,.bool k.gW,.bool k.H0,.int .i64 k.qN,.int .i64 k.ft,.int .i64 k.dV,.int .i64 k.nk,.int .i64 k.ep,.int .i64 k.zi,.int .i64 k.Fg]
theorem uX(k:K):(pcl k).length=17:=rfl
def KR(D:Lease.ka)(f:Int->Int):Prop:=Tidy D/\∀o:Int,0<=o->o<=7->D.atKey (.int .i64 o) (Lease.Dc 0)=Lease.Dc (f o)
structure bt(w:World)(c m:Nat)(k:K):Prop where
 i:cq w c (pcl k) [.map (some m)] k.fY k.fY.length
 s:k.fY.Pairwise λa b=>a.o≠b.o
 p:∃D,w.ownsMap prog 3 (plainElem prog 3) m k.n D/\KR D k.gZ
def bt.H{k:K}(h:bt w c m k):c<w.heap.size/\m<w.heap.size:=⟨h.i.lt,h.p.elim λ_ h=>h.1.lt⟩
def bt.ae{k:K}(h:bt w c m k)(i:Nat):w.frozen? ⟨c,i,none⟩=false:=h.i.H i
def bt.O{k:K}(h:bt w c m k)(i:Nat)(a:i<17):w.cell? ⟨c,i,none⟩=(pcl k)[i]?:=by
 rw[bS _ _ _ _ _ _ h.i.e,bo,bQ,bn (by rw[uX];exact a)]
def bt.c0{k:K}(h:bt w c m k):w.cell? ⟨c,0,none⟩=some (.int .i64 k.id):=h.O 0 (by omega)
def bt.c1{k:K}(h:bt w c m k):w.cell? ⟨c,1,none⟩=some (.int .i64 k.Ff):=h.O 1 (by omega)
def bt.c2{k:K}(h:bt w c m k):w.cell? ⟨c,2,none⟩=some (.int .i64 k.KQ):=h.O 2 (by omega)
def bt.c3{k:K}(h:bt w c m k):w.cell? ⟨c,3,none⟩=some (.int .i64 k.mg):=h.O 3 (by omega)
def bt.c4{k:K}(h:bt w c m k):w.cell? ⟨c,4,none⟩=some (.int .i64 k.gY):=h.O 4 (by omega)
def bt.c5{k:K}(h:bt w c m k):w.cell? ⟨c,5,none⟩=some (.int .i64 k.io):=h.O 5 (by omega)
def bt.c6{k:K}(h:bt w c m k):w.cell? ⟨c,6,none⟩=some (.string k.d):=h.O 6 (by omega)
def bt.c7{k:K}(h:bt w c m k):w.cell? ⟨c,7,none⟩=some (.int .i64 k.zk):=h.O 7 (by omega)
def bt.c8{k:K}(h:bt w c m k):w.cell? ⟨c,8,none⟩=some (.bool k.gW):=h.O 8 (by omega)
def bt.c9{k:K}(h:bt w c m k):w.cell? ⟨c,9,none⟩=some (.bool k.H0):=h.O 9 (by omega)
def bt.av{k:K}(h:bt w c m k):w.cell? ⟨c,10,none⟩=some (.int .i64 k.qN):=h.O 10 (by omega)
def bt.ap{k:K}(h:bt w c m k):w.cell? ⟨c,11,none⟩=some (.int .i64 k.ft):=h.O 11 (by omega)
def bt.aw{k:K}(h:bt w c m k):w.cell? ⟨c,12,none⟩=some (.int .i64 k.dV):=h.O 12 (by omega)
def bt.a2{k:K}(h:bt w c m k):w.cell? ⟨c,13,none⟩=some (.int .i64 k.nk):=h.O 13 (by omega)
def bt.ai{k:K}(h:bt w c m k):w.cell? ⟨c,14,none⟩=some (.int .i64 k.ep):=h.O 14 (by omega)
def bt.al{k:K}(h:bt w c m k):w.cell? ⟨c,15,none⟩=some (.int .i64 k.zi):=h.O 15 (by omega)
def bt.aq{k:K}(h:bt w c m k):w.cell? ⟨c,16,none⟩=some (.int .i64 k.Fg):=h.O 16 (by omega)
def bt.an{k:K}(h:bt w c m k):w.cell? ⟨c,42,none⟩=some (.map (some m)):=by
 have a:(pcl k++(fq k.fY++[Value.int .i64 (k.fY.length:Int)])).length=42:=by rw[aM,uX,aM,Cache.ff h.i.b];rfl
 rw[bS _ _ _ _ _ _ h.i.e,bo,aQ (by omega),a];rfl
def bt.ne{k:K}(h:bt w c m k):c≠m:=h.p.elim λ_ s=>eE s.1 h.an
def bt.j{k:K}(h:bt w c m k)(hc:w'.heap[c]?=w.heap[c]?)(a:w'.heap[m]?=w.heap[m]?):bt w' c m k:=
 ⟨⟨h.i.b,h.i.i,hc.trans h.i.e⟩,h.s,h.p.imp λ_ s=>⟨bX s.1 a,s.2⟩⟩
def bt.ab{k:K}(h:bt w c m k)(a:Below w.heap.size w w'):bt w' c m k:=h.j (a.block c h.H.1) (a.block m h.H.2)
def bt.I{k:K}(h:bt w c m k):bt w.drew c m k:=h.j rfl rfl
def bt.e{k:K}(h:bt w c m k){j:Nat}:bt (w.drewN j) c m k:=h.j rfl rfl
def bt.h{k:K}(h:bt w c m k)(o:Obj):bt (w.alloc o) c m k:=h.ab ((au _ _).alloc (aa _) o)
def bt.V{k:K}(h:bt w c m k)(i:Nat){v:Bg}{a:K}(f:i<17)(g:pcl a=(pcl k).set i v)(d:a.fY=k.fY)(hs:a.gZ=k.gZ)(j:a.n=k.n):bt (w.setCell ⟨c,i,none⟩ v) c m a:=by
 refine⟨⟨by rw[d];exact h.i.b,rfl,?_⟩,by rw[d];exact h.s,?_⟩;rw[Cache.wi h.i.e,d,g,ar,bQ,List.set_append_left _ _ (by rw[uX];exact f),<-bQ];obtain⟨D,l,o⟩:=h.p;exact⟨D,by rw[j];exact l.setCell (λe=>h.ne e.symm) _,by rw[hs];exact o⟩
def bt.s3{k:K}(h:bt w c m k)(x:Int):bt (w.setCell ⟨c,3,none⟩ (.int .i64 x)) c m {k with mg:=x}:=h.V 3 (by omega) rfl rfl rfl rfl
def bt.s4{k:K}(h:bt w c m k)(x:Int):bt (w.setCell ⟨c,4,none⟩ (.int .i64 x)) c m {k with gY:=x}:=h.V 4 (by omega) rfl rfl rfl rfl
def bt.s5{k:K}(h:bt w c m k)(x:Int):bt (w.setCell ⟨c,5,none⟩ (.int .i64 x)) c m {k with io:=x}:=h.V 5 (by omega) rfl rfl rfl rfl
def bt.s6{k:K}(h:bt w c m k)(x:Bh):bt (w.setCell ⟨c,6,none⟩ (.string x)) c m {k with d:=x}:=h.V 6 (by omega) rfl rfl rfl rfl
def bt.s7{k:K}(h:bt w c m k)(x:Int):bt (w.setCell ⟨c,7,none⟩ (.int .i64 x)) c m {k with zk:=x}:=h.V 7 (by omega) rfl rfl rfl rfl
def bt.s8{k:K}(h:bt w c m k)(x:Bool):bt (w.setCell ⟨c,8,none⟩ (.bool x)) c m {k with gW:=x}:=h.V 8 (by omega) rfl rfl rfl rfl
def bt.s9{k:K}(h:bt w c m k)(x:Bool):bt (w.setCell ⟨c,9,none⟩ (.bool x)) c m {k with H0:=x}:=h.V 9 (by omega) rfl rfl rfl rfl
def bt.a5{k:K}(h:bt w c m k)(x:Int):bt (w.setCell ⟨c,10,none⟩ (.int .i64 x)) c m {k with qN:=x}:=h.V 10 (by omega) rfl rfl rfl rfl
def bt.a3{k:K}(h:bt w c m k)(x:Int):bt (w.setCell ⟨c,11,none⟩ (.int .i64 x)) c m {k with ft:=x}:=h.V 11 (by omega) rfl rfl rfl rfl
def bt.a6{k:K}(h:bt w c m k)(x:Int):bt (w.setCell ⟨c,12,none⟩ (.int .i64 x)) c m {k with dV:=x}:=h.V 12 (by omega) rfl rfl rfl rfl
def bt.a7{k:K}(h:bt w c m k)(x:Int):bt (w.setCell ⟨c,13,none⟩ (.int .i64 x)) c m {k with nk:=x}:=h.V 13 (by omega) rfl rfl rfl rfl
def bt.a8{k:K}(h:bt w c m k)(x:Int):bt (w.setCell ⟨c,14,none⟩ (.int .i64 x)) c m {k with ep:=x}:=h.V 14 (by omega) rfl rfl rfl rfl
def bt.a9{k:K}(h:bt w c m k)(x:Int):bt (w.setCell ⟨c,15,none⟩ (.int .i64 x)) c m {k with zi:=x}:=h.V 15 (by omega) rfl rfl rfl rfl
def bt.a4{k:K}(h:bt w c m k)(x:Int):bt (w.setCell ⟨c,16,none⟩ (.int .i64 x)) c m {k with Fg:=x}:=h.V 16 (by omega) rfl rfl rfl rfl
def Ob.ae{bs:List Nat}(h:Cache.Ob bs w w'):Ob bs w w':=⟨h.p,h.o,h.h,h.i,h.b⟩
def bt.ag{k:K}(h:bt w c m k){L:List E}(d:cq w' c (pcl k) [.map (some m)] L L.length)(e:L.Pairwise λa b=>a.o≠b.o)(f:Cache.Ob [c] w w'):bt w' c m {k with fY:=L}:=
 ⟨d,e,h.p.imp λ_ s=>⟨bX s.1 (f.b m h.H.2 (by have:=h.ne;simp;omega)),s.2⟩⟩
def bt.Z{k:K}{v:Bg}(h:bt w c m k)(hc:p≠c)(a:p≠m):bt (w.setCell ⟨p,i,none⟩ v) c m k:=
 h.j (aX w (aA p i) v c (λe=>hc e.symm)) (aX w (aA p i) v m (λe=>a e.symm))
def Ob.ab{bs:List Nat}{a b:A1}{v:Bg}(h:Ob bs a b)(f:a.heap.size<=p):Ob bs a (b.setCell ⟨p,i,none⟩ v):=
 ⟨h.s,h.p,h.o,by simpa using h.i,λk c d=>(aX b (aA p i) v k (λe=>by have g:k=p:=e;omega)).trans (h.b k c d)⟩
def KR.e{D:Lease.ka}{f:Int->Int}(h:KR D f){o x:Int}:KR (D.put (.int .i64 o) (Lease.Dc x)) (gV f o x):=by
 have a:WideAt.IsKeyLit (.int .i64 o):=aE;refine⟨h.1.put a _,λy h0 b=>?_⟩;by_cases e:y=o;subst e;rw[atKey_put_same h.1.isMap a,de];rw[atKey_put_other (by simpa using e),cP e];exact h.2 y h0 b
def K.h(k:K):Bool:=decide (k.gY≠0)&&!k.gW
def sR{k:K}(h:bt w c m k):
  Calls prog 141 #[tp c] w λe w'=>e=.returned (.bool k.h)/\w'=w:=by
 have c4:=h.c4;have c8:=h.c8;unfold K.h;by_cases h0:k.gY=0
 .rw[h0]at c4;go_enter func141,ntmps141;go_wp2;go_ret;exact⟨by simp[h0],rfl⟩
 .have a:(k.gY==0)=false:=by simpa using h0
  go_enter func141,ntmps141;go_wp2;go_ret;exact⟨by simp[h0],rfl⟩
def K.waits(k:K)(a number:Int):Bool:=k.h&&decide (k.gY=a)&&decide (k.mg=number)
def tK{k:K}(a number:Int)(h:bt w c m k):
  Calls prog 192 #[tp c,iI a,iI number] w λe w'=>e=.returned (.bool (k.waits a number))/\w'=w:=by
 have c4:=h.c4;have c3:=h.c3;have d:=sR h;unfold K.waits;obtain⟨b,i⟩:∃b,k.h=b:=⟨_,rfl⟩;rw[i]at d⊢;cases b with
 |false=>
  go_enter func192,ntmps192;go_wp2_with (go_at_call 141;refine d.mono ?_;rintro x w'⟨rfl,rfl⟩)
  go_ret;exact⟨rfl,rfl⟩
 |true=>
  by_cases f:k.gY=a
  .have g:(k.gY==a)=true:=by simpa using f
   rw[aR f];go_enter func192,ntmps192;go_wp2_with (go_at_call 141;refine d.mono ?_;rintro x w'⟨rfl,rfl⟩)
   go_ret;exact⟨rfl,rfl⟩
  .have g:(k.gY==a)=false:=by simpa using f
   rw[aK f];go_enter func192,ntmps192;go_wp2_with (go_at_call 141;refine d.mono ?_;rintro x w'⟨rfl,rfl⟩)
   go_ret;exact⟨rfl,rfl⟩
def eV(n:Int):Value:=if n=0 then .nilIface else .iface 59 (.int .i64 n)
def K.I(k:K)(o:Int):Int:=if k.h then 6 else if Lease.fg o then 0 else 2
def wy{k:K}(o:Int)(h:bt w c m k):
  Calls prog 74 #[tp c,iI o] w λe w'=>e=.returned (eV (k.I o))/\w'=w:=by
 have a:=sR h;unfold K.I;obtain⟨b,d⟩:∃b,k.h=b:=⟨_,rfl⟩;rw[d]at a⊢;cases b with
 |true=>
  rw[az rfl];go_enter func74,ntmps74;go_wp2_with (go_at_call 141;refine a.mono ?_;rintro x w'⟨rfl,rfl⟩)
  go_ret;exact⟨rfl,rfl⟩
 |false=>
  rw[ax (by decide)];by_cases h0:o<0
  .have e:Lease.fg o=false:=Num.kN (by omega);rw[e,ax (by decide)];go_enter func74,ntmps74;go_wp2_with (go_at_call 141;refine a.mono ?_;rintro x w'⟨rfl,rfl⟩)
   go_ret;exact⟨rfl,rfl⟩
  .by_cases f:8<=o
   .have e:Lease.fg o=false:=Num.kM (by omega);rw[e,ax (by decide)];go_enter func74,ntmps74;go_wp2_with (go_at_call 141;refine a.mono ?_;rintro x w'⟨rfl,rfl⟩)
    go_ret;exact⟨rfl,rfl⟩
   .have e:Lease.fg o=true:=Num.fX (by omega) (by omega);rw[e,az rfl];go_enter func74,ntmps74;go_wp2_with (go_at_call 141;refine a.mono ?_;rintro x w'⟨rfl,rfl⟩)
    go_ret;exact⟨rfl,rfl⟩
def K.O(k:K)(a ob:Int)(d:ByteArray)(v:Int)(b c:Bool)(now:Int):K:={k with mg:=k.mg+1,gY:=a,io:=ob,d:=d,zk:=v,gW:=b,H0:=c,qN:=now,ft:=0}
def DB{k:K}(a ob:Int)(d:Bh)(v:Int)(b f:Bool)(now:Int)(h:bt w c m k)(h0:0<=k.mg)(n:k.mg<=4611686018427387904):
  Calls prog 75 #[tp c,.agg #[iI a,iI ob,.string d,iI v,.bool b,.bool f],iI now] w λe w'=>e=.returned (.tuple #[])/\bt w' c m (k.O a ob d v b f now)/\Ob [c,m] w w':=by
 have F:= ((((((((((h.s3 (k.mg+1)).s4 a).s5 ob).s6 d).s7 v).s8 b).s9 f).a5 now).a3 0).h (.cells #[iI a,iI ob,.string d,iI v,.bool b,.bool f] 43));have c3:=h.c3;have c4:=h.c4;have c5:=h.c5;have c6:=h.c6;have c7:=h.c7;have c8:=h.c8;have c9:=h.c9;have g:=h.av;have i:=h.ap;have o:=h.ae;have j:=h.H.1;have l:c≠w.heap.size:=by omega
 go_enter func75,ntmps75;go_wp2;go_end0;refine⟨rfl,F,?_⟩;refine Ob.h ?_ _;repeat (refine Ob.H ?_ (by simp))
 exact Ob.V _ _
def K.an(k:K)(e s:Int):K:=if e=k.ep/\s=k.zi then {k with Fg:=k.nk+k.KQ} else k
variable{k:K}
def IN(e s:Int)(h:bt w c m k)(h0:-4611686018427387904<=k.nk+k.KQ)(b:k.nk+k.KQ<=4611686018427387904):
  Calls prog 190 #[tp c,.agg #[iI e,iI s]] w λr w'=>r=.returned (.tuple #[])/\bt w' c m (k.an e s)/\Ob [c,m] w w':=by
 have d:=h.a2;have c2:=h.c2;have f:=h.ai;have g:=h.al;have i:=h.aq;have o:=h.ae;have l:=h.H.1;have n:c≠w.heap.size:=by omega
 unfold K.an;by_cases a:e=k.ep/\s=k.zi
 .rw[az a];obtain⟨rfl,rfl⟩:=a;have F:= (((h.a4 (k.nk+k.KQ)).h (.cells #[iI k.ep,iI k.zi] 154)).e (j:=2));go_enter func190,ntmps190;go_wp2;go_region;all_goals go_wp2
  all_goals go_region
  all_goals go_end0
  all_goals exact⟨rfl,F,((((Ob.V [c,m] w).H (by simp)).h _).e (k:=2))⟩
 .rw[ax a];have F:=(h.h (.cells #[iI e,iI s] 154)).I;by_cases b:e=k.ep
  .have p:¬s=k.zi:=λq=>a ⟨b,q⟩;subst b;go_enter func190,ntmps190;go_wp2;go_region;all_goals go_wp2
   all_goals go_end0
   all_goals exact⟨rfl,F,(((Ob.V [c,m] w).h _).I)⟩
  .clear a;go_enter func190,ntmps190;go_wp2;go_region;all_goals go_wp2
   all_goals go_end0
   all_goals exact⟨rfl,F,(((Ob.V [c,m] w).h _).I)⟩
end Wld
end Go.Proofs.YtbebfliimjjohabGreatDoor
