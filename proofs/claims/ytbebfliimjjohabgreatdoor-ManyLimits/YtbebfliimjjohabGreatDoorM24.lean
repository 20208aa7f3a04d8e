/- Parts of the proof. -/
import Derived.Test.YtbebfliimjjohabGreatDoorM23
set_option maxRecDepth 100000
set_option maxHeartbeats 8000000
set_option linter.all false
open Go.Proofs.Tryz
namespace Go.Proofs.YtbebfliimjjohabGreatDoor open Gen (la on take tk)
open Go.RowKit
open Num (m6 gy dD)
open Wire (i5)
namespace Wal
variable{fails f:Bool}{s:Bh}{left torn:Int}{l:List Int}{b o i C B n:Nat}{t:Bi}{u:Bg}{w w' a:A1}
abbrev XV (b:Nat):Array Value:=#[.pointer (some ⟨b,0,none⟩),.pointer (some ⟨b,1,none⟩),.pointer (some ⟨b,2,none⟩),.pointer (some ⟨b,3,none⟩),.pointer (some ⟨b,5,none⟩)]
def PJ(i:Nat):Nat:=if i=4 then 5 else i
def yi(b:Nat):
  Calls prog 251 #[.pointer (some (aA b 0))] w λe w'=>e=.returned (.agg (XV b))/\Below w.heap.size w w':=by
 go_enter func251,ntmps251;go_wp2;go_still_tail 16,(by kernel_rfl);change wpList _ _ _ _ _ (World.drew (w.alloc _));go_wp2;refine bz (v:=.agg (XV b)) (by simp[XV,results,results251,go_sem]) rfl ⟨rfl,((au _ _).alloc (aa _) _).drew⟩
def B8{Q:Nat->Prop}(h0:Q 0)(a:Q 1)(b:Q 2)(c:Q 3)(d:Q 4):∀k,k<5->Q k:=by
 intro k e;match k,e with
 |0,_=>exact h0
 |1,_=>exact a
 |2,_=>exact b
 |3,_=>exact c
 |4,_=>exact d
def Dj(b:Nat):∀k:Nat,k<5->∀w,(Instr.index 330 (.agg (XV b)) (iI (k:Int))).run prog w=.ok (.pointer (some (aA b (PJ k)))) w:=by
 apply B8<;>(intro w;kernel_rfl)
def XP(x:Int)(j:Nat):x/2^(8*j)%256=jP x j:=by
 unfold jP;rw[Int.pow_mul];rfl
def Pl(w:World)(b o:Nat)(l:List Int):Prop:=l.length=62/\w.rangeAt b o (l.map (Value.int .u8))/\w.there b o 62
def Pl.h(h:Pl w b o l)(a:i<62):cC w (aA b (o+i)) (.int .u8 (l.getD i 0))/\w.frozen? (aA b (o+i))=false:=by
 let ⟨e,c,d⟩:=h
 refine⟨c i _ ?_,(d i a).2⟩;rw[di,aG,aB (by omega)];rfl
def Pl.V(h:Pl w b o l)(i:Nat)(x:Int):Pl (w.setCell (aA b (o+i)) (.int .u8 x)) b o (l.set i x):=by
 let ⟨m,n,f⟩:=h
 refine⟨by rw[qp];exact m,λj v c=>?_,λj k=>⟨?_,?_⟩⟩;rw[List.map_set,FY]at c;by_cases a:i=j;subst a;rw[az rfl]at c;split at c;rename_i g;rw[bH]at g;let ⟨u,d⟩:=aV.1 (f i (by omega)).1
 rw[ay _ _ _ d];exact c;cases c;rw[ax a]at c;rw[ak _ _ _ _ (by intro e;injection e with _ e;omega)];exact n j v c;let ⟨u,d⟩:=aV.1 (f j k).1
 by_cases a:i=j;subst a;rw[ay _ _ _ d];rfl;rw[ak _ _ _ _ (by intro e;injection e with _ e;omega),d];rfl;rw[bb];exact(f j k).2
def Pl.e(h:Pl w b o l)(a:Below C w w')(c:b<C):Pl w' b o l:=by
 obtain⟨g,i,d⟩:=h;exact⟨g,λj v k=>(a.cell (p:=(aA b (o+j))) c).trans (i j v k),λj f=>⟨by rw[a.cell (p:=(aA b (o+j))) c];exact(d j f).1,(a.frozen (p:=(aA b (o+j))) c).trans (d j f).2⟩⟩
def Pl.Z(w:A1)(t:Bi):Pl (w.alloc (.cells (Array.replicate 62 (.int .u8 0)) t)) w.heap.size 0 (Jm []):=by
 have hc:∀j,j<62->(w.alloc (.cells (Array.replicate 62 (.int .u8 0)) t)).cell? (aA w.heap.size (0+j))=some (.int .u8 0):=λj a=>by
  rw[bS _ _ _ _ _ _ (bw w _),VH,az (by omega)]
 refine⟨rfl,λj v b=>?_,λj a=>⟨by rw[hc j a];rfl,by simp⟩⟩;have a:j<62:=by have:=(aT.1 b).1;simpa[Jm] using this
 rw[hc j a,<-b,XT,List.map_replicate,dZ,az a]
def Pl.H{t:Nat}{F:List Int}{v:Int}(h:Pl w b 0 (Jm (F.take t)))(d:F.length=62)(e:t<62)(a:v=F.getD t 0):Pl (w.setCell (aA b t) (.int .u8 v)) b 0 (Jm (F.take (t+1))):=by
 have c:=h.V t v;rw[b9,a,XU d e]at c;rw[a];exact c
def xz(c:B<=b):∀(d:List Bg) (o:Nat) (w:A1),Below B a w->Below B a (w.setCells b o d)
 | [],_,_,h=>h
 |v::r,o,w,h=>xz c r (o+1) _ (h.setCell (by exact c) v)
def XX(d:Bh){m:Nat}(h:m<d.size):(gy d).getD m 0=((d[m]).toNat:Int):=by
 have a:= h;unfold Num.gy;rw[aG,di,fh,bj a];rfl
def oa:(prog.info? 71).map (·.size)=some 62:=by kernel_rfl
def PM{w1:A1}{r:R}{o:Obj}(a:Below ((w.alloc (.cells #[iI r.c,iI r.n,iI r.o,iI r.v,.string r.d,iI r.e] t)).alloc o).heap.size ((w.alloc (.cells #[iI r.c,iI r.n,iI r.o,iI r.v,.string r.d,iI r.e] t)).alloc o) w1):
  (∀i,i<5->w1.cell? (aA w.heap.size (PJ i))=some (iI ((kb r).getD i 0)))/\cC w1 (aA w.heap.size 4) (.string r.d):=by
 have hc:∀i,w1.cell? (aA w.heap.size i)=#[Value.int .i64 r.c,iI r.n,iI r.o,iI r.v,.string r.d,iI r.e][i]?:=λi=>by
  rw[a.cell (p:=(aA w.heap.size i)) (by simp;omega),aH _ _ (aA w.heap.size i) (by simp),bS _ _ _ _ _ _ (bw w _)]
 refine⟨?_,hc 4⟩;apply B8;exact hc 0;exact hc 1;exact hc 2;exact hc 3;exact hc 5
theorem ym(r:R){w:World}(hd:r.d.size<=20):
  Calls prog 220 #[r.H] w λx w'=>x=.returned (.agg ((fM r).map (Value.int .u8)).toArray)/\Below w.heap.size w w':=by
 have hF:=fD hd
 go_enter func220,ntmps220
 go_wp2_with fail
 apply (yi w.heap.size).mono
 rintro e w1⟨rfl,hb1⟩
 let ⟨hr,hs⟩:=PM hb1
 have hp:=(Pl.Z (w.alloc (.cells #[iI r.c,iI r.n,iI r.o,iI r.v,.string r.d,iI r.e] 138)) 71).e hb1 (by simp)
 rw[show (w.alloc (.cells #[iI r.c,iI r.n,iI r.o,iI r.v,.string r.d,iI r.e] 138)).heap.size=w.heap.size+1 by simp]at hp
 have hbw:Below w.heap.size w w1:=(((au _ _).alloc (aa _) _).alloc (by simp) _).trans (hb1.mono (by simp;omega))
 have hz1:w.heap.size+1<w1.heap.size:=by have:=hb1.size;simp at this;omega

 go_wp2_with fail
 go_loopw [8] (λs wr=>∃i:Nat,i<=5/\s=iI i/\Pl wr (w.heap.size+1) 0 (Jm ((fM r).take (i*8)))/\Below (w.heap.size+1) w1 wr) (λs _=>5-(intOf s).toNat)
 case atStart=>exact⟨0,by omega,rfl,hp,au _ _⟩
 case round=>
  obtain⟨i,hi,rfl,hP,hB⟩:=hrel
  by_cases hlt:i<5
  .have hix:=Dj w.heap.size i hlt
   have hri:=hr i hlt

   let ⟨x,hx⟩:∃x,(kb r).getD i 0=x:=⟨_,rfl⟩
   rw[hx]at hri
   have HX:Hid ((kb r).getD i 0=x):=hx

   go_wp2_with fail
   go_loopw [12] (λs wr=>∃j:Nat,j<=8/\s=iI j/\Pl wr (w.heap.size+1) 0 (Jm ((fM r).take (i*8+j)))/\Below (w.heap.size+1) w1 wr) (λs _=>8-(intOf s).toNat)
   case atStart=>exact⟨0,by omega,rfl,hP,hB⟩
   case round=>
    obtain⟨j,hj,rfl,hP,hB⟩:=hrel
    by_cases hjl:j<8
    .have hrj:=(hB.cell (p:=(aA w.heap.size (PJ i))) (by dsimp only;omega)).trans hri
     let ⟨hc0,hf0⟩:=hP.h (i:=i*8+j) (by omega)
     rw[b9]at hc0 hf0
     go_wp2_with fail
     refine⟨⟨j+1,by omega,by go_num,?_,hB.setCell (aa _) _⟩,by simp[intOf];omega⟩
     apply hP.H hF (by omega)
     rw[XP,Hp (by omega),show (i*8+j)/8=i by omega,show (i*8+j)%8=j by omega,HX.out]
    .obtain rfl:j=8:=by omega
     go_wp2_with fail
     exact⟨⟨i+1,by omega,by go_num,by rw[show (i+1)*8=i*8+8 by omega];exact hP,hB⟩,by simp[intOf];omega⟩
  .obtain rfl:i=5:=by omega
   have hsj:=(hB.cell (p:=(aA w.heap.size 4)) (by dsimp only;omega)).trans hs
   let ⟨hc0,hf0⟩:=hP.h (i:=40) (by omega)
   rw[b9]at hc0 hf0
   have hdi:(r.d.size:Int)<=20:=by omega
   go_wp2_with fail
   have hP1:=hP.H hF (by omega) (Ho (r:=r)).symm
   have hB1:=hB.setCell (p:=(aA (w.heap.size+1) 40)) (aa _) (.int .u8 r.d.size)
   generalize wr.setCell (aA (w.heap.size+1) 40) (.int .u8 r.d.size)=wt at *

   go_loopw [37] (λs wr=>∃m:Nat,m<=r.d.size/\s=iI m/\Pl wr (w.heap.size+1) 0 (Jm ((fM r).take (41+m)))/\Below (w.heap.size+1) w1 wr) (λs _=>r.d.size-(intOf s).toNat)
   case atStart=>exact⟨0,by omega,rfl,hP1,hB1⟩
   case round=>
    obtain⟨m,hm,rfl,hP,hB⟩:=hrel
    have hsj:=(hB.cell (p:=(aA w.heap.size 4)) (by dsimp only;omega)).trans hs
    by_cases hml:m<r.d.size
    .let ⟨hc0,hf0⟩:=hP.h (i:=41+m) (by omega)
     rw[b9]at hc0 hf0
     go_wp2_with fail
     refine⟨⟨m+1,by omega,by go_num,?_,hB.setCell (aa _) _⟩,by simp[intOf];omega⟩
     apply hP.H hF (by omega)
     rw[Dn hml]
     exact(XX r.d hml).symm
    .obtain rfl:m=r.d.size:=by omega
     let ⟨hc0,hf0⟩:=hP.h (i:=61) (by omega)
     rw[b9]at hc0 hf0
     have hP2:=hP.V 61 1
     rw[b9,XS hd]at hP2
     have hB2:=hB.setCell (p:=(aA (w.heap.size+1) 61)) (aa _) (.int .u8 1)
     have hsz:((fM r).map (Value.int .u8)).toArray.size=62:=by simp[hF]
     have hi:=oa
     rw[<-hF,<-bH (Value.int .u8)]at hi
     have hi2:=oa
     rw[<-hsz]at hi2
     have ht:=hP2.2.2
     have hone:((fM r).map (Value.int .u8)).toArray.all (·.oneCell')=true:=all_oneCell_toArray (ints_oneCell _ _)
     rw[<-hsz]at ht
     have hres:=run_loadVar_mid (P:=prog) _ (w.heap.size+1) 0 71 ((fM r).map (Value.int .u8)) _ (World.rangeAt_setCells_same _ _ _ _ (by rw[bH,hF];exact hP2.2.2)) underlying71 rfl hi
     have hB3:Below (w.heap.size+1) w1 ((wr.setCell (aA (w.heap.size+1) 61) (.int .u8 1)).setCells (w.heap.size+1) 0 ((fM r).map (Value.int .u8))):=xz (aa _) _ _ _ hB2
     go_wp2_with (first|(refine wpList_load_mid rfl 71 (.tmp 2) rfl _ _ rfl _ _ hP2.2.1 underlying71 rfl hi ?_)|(refine wpList_store_mid rfl 71 (.tmp 2) (.tmp 49) rfl _ _ _ rfl rfl ht hi2 hone ?_))
     generalize (wr.setCell (aA (w.heap.size+1) 61) (.int .u8 1)).setCells (w.heap.size+1) 0 ((fM r).map (Value.int .u8))=wz at *
     refine bz (v:=.agg ((fM r).map (Value.int .u8)).toArray) ?_ rfl ⟨rfl,?_⟩
     .simp only[Act.put,ar,aD,aC]
      simp[results,results220,asAddr,hres]
     .exact hbw.trans (hB3.mono (by omega))
def wo(w:World)(b:Nat)(l:List Int)(s:ByteArray):Prop:=(∀i,i<5->w.cell? ⟨b,PJ i,none⟩=some (.int .i64 (l.getD i 0)))/\w.cell? ⟨b,4,none⟩=some (.string s)/\∀i,w.frozen? ⟨b,i,none⟩=false
def XQ{k:Nat}(a:i<5)(b:k<5)(h:PJ i=PJ k):i=k:=by
 unfold PJ at h;split at h<;>split at h<;>omega
def TX(a:i<5):PJ i≠4:=by unfold PJ;split<;>omega
def wo.h(h:wo w b l s)(m:l.length=5)(c:i<5)(x:Int):wo (w.setCell (aA b (PJ i)) (iI x)) b (l.set i x) s:=by
 obtain⟨d,g,j⟩:=h;refine⟨λk f=>?_,?_,λk=>by rw[bb];exact j k⟩;by_cases e:i=k;subst e;rw[ay _ _ _ (d i c),aG,nL (by omega)];rfl;rw[ak _ _ _ _ (by intro a;injection a with _ a;exact e (XQ c f a)),d k f,aG,aG,lc e];rw[ak _ _ _ _ (by intro a;injection a with _ a;exact TX c a),g]
def wo.e(h:wo w b l s)(a:Below C w w')(c:b<C):wo w' b l s:=
 ⟨λi d=>(a.cell (p:=(aA b (PJ i))) c).trans (h.1 i d),(a.cell (p:=(aA b 4)) c).trans h.2.1,λi=>(a.frozen (p:=(aA b i)) c).trans (h.2.2 i)⟩
def PG(r:R)(i j:Nat):List Int:=(kb r).take i++kX ((kb r).getD i 0) j::List.replicate (4-i) 0
def yj(r:R)(i:Nat):List Int:=(kb r).take i++List.replicate (5-i) 0
def PN(r:R):∀i,i<5->yj r i=PG r i 0:=by apply B8<;>simp[yj,PG,PQ,List.replicate]
def PH(r:R):∀i,i<5->PG r i 8=yj r (i+1):=by apply B8<;>simp[yj,PG,T7,kb,List.replicate]
def KC(r:R):∀i,i<5->∀j,(PG r i j).length=5:=by apply B8<;>(intro j;simp[PG,kb])
def aa1(r:R)(j:Nat):∀i,i<5->(PG r i j).getD i 0=kX ((kb r).getD i 0) j:=by apply B8<;>simp[PG,kb]
def XN(r:R)(j:Nat):∀i,i<5->(PG r i j).set i (kX ((kb r).getD i 0) (j+1))=PG r i (j+1):=by apply B8<;>simp[PG,kb]
def PP(r:R):yj r 5=kb r:=by simp[yj,kb]
def XW(r:R)(w:A1)(t:Bi):wo (w.alloc (.cells #[iI 0,iI 0,iI 0,iI 0,.string ⟨#[]⟩,iI 0] t)) w.heap.size (yj r 0) ⟨#[]⟩:=by
 have hc:∀i,(w.alloc (.cells #[iI 0,iI 0,iI 0,iI 0,.string ⟨#[]⟩,iI 0] t)).cell? (aA w.heap.size i)=#[Value.int .i64 0,iI 0,iI 0,iI 0,.string ⟨#[]⟩,iI 0][i]?:=λi=>bS _ _ _ _ _ _ (bw w _);refine⟨?_,hc 4,λi=>by simp⟩;apply B8;exact hc 0;exact hc 1;exact hc 2;exact hc 3;exact hc 5
def Pl.j(a:l.length=62)(t:Bi):Pl (w.alloc (.cells (l.map (Value.int .u8)).toArray t)) w.heap.size 0 l:=by
 have hc:∀j,(w.alloc (.cells (l.map (Value.int .u8)).toArray t)).cell? (aA w.heap.size (0+j))=(l.map (Value.int .u8))[j]?:=λj=>by
  rw[bS _ _ _ _ _ _ (bw w _),b9,bo]
 refine⟨a,λj v b=>(hc j).trans b,λj c=>⟨?_,by simp⟩⟩;rw[hc j,aB (by simpa using by omega)];rfl
def R.h(r:R):List Value:=[.int .i64 r.c,.int .i64 r.n,.int .i64 r.o,.int .i64 r.v,.string r.d,.int .i64 r.e]
variable{rs:List R}{r:R}
theorem R.j(r:R):r.h.length=6:=rfl
def R.I(r:R):∀u∈r.h,u.oneCell'=true:=by
 intro u a;simp[R.h]at a;rcases a with rfl|rfl|rfl|rfl|rfl|rfl<;>rfl
def Hq:(prog.info? 138).map (·.size)=some 6:=by kernel_rfl
def PT(h:wo w b (kb r) s):(w.setCell (aA b 4) (.string r.d)).rangeAt b 0 r.h/\(w.setCell (aA b 4) (.string r.d)).there b 0 6:=by
 obtain⟨c,g,i⟩:=h;have f:(w.setCell (aA b 4) (.string r.d)).rangeAt b 0 r.h:=λj v a=>by
  rw[b9];have e:= (aT.1 a).1;match j,e,a with
  |0,_,a=>rw[ak _ _ _ _ (by simp)];exact(c 0 (by omega)).trans a
  |1,_,a=>rw[ak _ _ _ _ (by simp)];exact(c 1 (by omega)).trans a
  |2,_,a=>rw[ak _ _ _ _ (by simp)];exact(c 2 (by omega)).trans a
  |3,_,a=>rw[ak _ _ _ _ (by simp)];exact(c 3 (by omega)).trans a
  |4,_,a=>rw[ay _ _ _ g];exact a
  |5,_,a=>rw[ak _ _ _ _ (by simp)];exact(c 4 (by omega)).trans a
 exact⟨f,λj e=>⟨f.isSome j e,by rw[bb];exact i _⟩⟩
def PS:prog.underlying 71=some (.array (prog.arrayLen 71) (prog.elem 71)):=by kernel_rfl
def PR:prog.arrayLen 71=62:=by kernel_rfl
def KE(w:A1):(sizeOf (prog.elem 71)).run prog w=.ok 1 w:=by kernel_rfl
def KG(b n:Nat)(w:A1)(c:n<=20):(Instr.sliceAt 71 (.pointer (some (aA b 0))) (some (iI 41)) (some (iI (41+(n:Int)))) none).run prog w=.ok (.slice (some (aA b 41)) n 21) w:=by
 have a:=PR;rw[run_sliceAt_array_lh w _ (aA b 0) PS .i64 .i64 41 (41+(n:Int)) (by omega) (by omega) (by rw[a];omega),KE];simp only[vg,slicedAt,a];rw[ax (by decide),show (41+(n:Int)).toNat-(41:Int).toNat=n by omega];rfl
theorem T8{r:R}{w:World}(hd:r.d.size<=20)(hok:∀i,i<5->okN ((kb r).getD i 0)):
  Calls prog 215 #[.agg ((fM r).map (Value.int .u8)).toArray] w λx w'=>x=.returned r.H/\Below w.heap.size w w':=by
 have hF:=fD hd
 go_enter func215,ntmps215
 go_wp2_with fail
 apply (yi (w.heap.size+1)).mono
 rintro e w1⟨rfl,hb1⟩
 have hp0:=((Pl.j hF 71).e ((au (w.heap.size+1) (w.alloc (.cells ((fM r).map (Value.int .u8)).toArray 71))).alloc (by simp) (.cells #[iI 0,iI 0,iI 0,iI 0,.string ⟨#[]⟩,iI 0] 138)) (by omega)).e hb1 (by simp;omega)
 have hr0:=(XW r (w.alloc (.cells ((fM r).map (Value.int .u8)).toArray 71)) 138).e hb1 (by simp)
 rw[show (w.alloc (.cells ((fM r).map (Value.int .u8)).toArray 71)).heap.size=w.heap.size+1 by simp]at hr0
 have hbw:Below w.heap.size w w1:=(((au _ _).alloc (aa _) _).alloc (by simp) _).trans (hb1.mono (by simp;omega))
 have hz1:w.heap.size+1<w1.heap.size:=by have:=hb1.size;simp at this;omega

 go_wp2_with fail
 go_loopw [7] (λs wr=>∃i:Nat,i<=5/\s=iI i/\wo wr (w.heap.size+1) (yj r i) ⟨#[]⟩/\Below (w.heap.size+1) w1 wr) (λs _=>5-(intOf s).toNat)
 case atStart=>exact⟨0,by omega,rfl,hr0,au _ _⟩
 case round=>
  obtain⟨i,hi,rfl,hR,hB⟩:=hrel
  by_cases hlt:i<5
  .have hix:=Dj (w.heap.size+1) i hlt
   rw[PN r i hlt]at hR
   have hoki:=hok i hlt
   go_wp2_with fail
   go_loopw [11] (λs wr=>∃j:Nat,j<=8/\s=iI j/\wo wr (w.heap.size+1) (PG r i j) ⟨#[]⟩/\Below (w.heap.size+1) w1 wr) (λs _=>8-(intOf s).toNat)
   case atStart=>exact⟨0,by omega,rfl,hR,hB⟩
   case round=>
    obtain⟨j,hj,rfl,hR,hB⟩:=hrel
    by_cases hjl:j<8
    .have hn:=hR.1 i hlt
     rw[aa1 r j i hlt]at hn
     have hfz:=hR.2.2 (PJ i)
     have hpc:=((hp0.e hB (by omega)).h (i:=i*8+j) (by omega)).1
     rw[b9,Hp (by omega),show (i*8+j)/8=i by omega,show (i*8+j)%8=j by omega]at hpc
     have hS:=XR hoki hjl
     have hbb:=Dk ((kb r).getD i 0) j
     have hset:=hR.h (KC r i hlt j) hlt (kX ((kb r).getD i 0) (j+1))
     rw[XN r j i hlt]at hset
     have HSET:Hid (wo (wr.setCell (aA (w.heap.size+1) (PJ i)) (iI (kX ((kb r).getD i 0) (j+1)))) (w.heap.size+1) (PG r i (j+1)) ⟨#[]⟩):=hset

     let ⟨x,hx⟩:∃x,(kb r).getD i 0=x:=⟨_,rfl⟩
     rw[hx]at hn hpc hS hbb HSET

     let ⟨y,hy⟩:∃y,jP x j=y:=⟨_,rfl⟩
     rw[hy]at hpc hS hbb
     let ⟨u,hu⟩:∃u,kX x j=u:=⟨_,rfl⟩
     rw[hu]at hn hS
     have HS:Hid (bits .or .i64 u (wrap64 (y*2^(8*j)))=kX x (j+1)):=by
      show bits .or .i64 u (wrap64 (y*2^(8*j)))=kX x (j+1)
      unfold wrap64
      rw[IntKind.wrap_i64]at hS
      exact hS

     go_wp2_with fail
     go_region
     go_wp2_with fail
     rw[HS.out]
     exact⟨⟨j+1,by omega,by go_num,HSET.out.e (au (w.heap.size+1+1) _).drew (by omega),(hB.setCell (aa _) _).drew⟩,by simp[intOf];omega⟩
    .obtain rfl:j=8:=by omega
     rw[PH r i hlt]at hR
     go_wp2_with fail
     exact⟨⟨i+1,by omega,by go_num,hR,hB⟩,by simp[intOf];omega⟩
  .obtain rfl:i=5:=by omega
   rw[PP]at hR
   have hp:=hp0.e hB (by omega)
   have hpc:=(hp.h (i:=40) (by omega)).1
   rw[b9,Ho]at hpc
   have hdi:(r.d.size:Int)<=20:=by omega
   have hcv:(convert 61 9 (.slice (some (aA w.heap.size 41)) r.d.size 21)).run prog wr=.ok (.string r.d) wr:=by
    have h:=Wire.lY (w:=wr) (aA w.heap.size 41) (gy r.d) 21 (λj v hv=>?_)
    .rw[Num.dL,Num.qM]at h
     exact h
    .have hj:j<r.d.size:=by have:=(aT.1 hv).1;rw[bH,Num.dL]at this;exact this
     have hc:=(hp.h (i:=41+j) (by omega)).1
     rw[b9,Dn hj]at hc
     rw[Addr.add_mid,hc,<-hv,di,aG,aB (by rw[Num.dL];exact hj)]
     rfl
   have hsl:=KG w.heap.size r.d.size wr hd
   have hf4:=hR.2.2 4
   have hc4:=hR.2.1
   let ⟨hrg,hth⟩:=PT hR
   have hi:(prog.info? 138).map (·.size)=some r.h.length:=Hq
   have hi2:(prog.info? 138).map (·.size)=some r.h.toArray.size:=Hq
   have hone:r.h.toArray.all (·.oneCell')=true:=all_oneCell_toArray r.I
   have hres:=run_loadVar_mid (P:=prog) _ (w.heap.size+1) 0 138 r.h _ (World.rangeAt_setCells_same _ _ _ _ hth) underlying138 rfl hi
   have hB3:Below (w.heap.size+1) w1 ((wr.setCell (aA (w.heap.size+1) 4) (.string r.d)).setCells (w.heap.size+1) 0 r.h):=xz (aa _) _ _ _ (hB.setCell (aa _) _)
   go_wp2_with (first|(refine wpList_load_mid rfl 138 (.tmp 2) rfl _ _ rfl _ _ hrg underlying138 rfl hi ?_)|(refine wpList_store_mid rfl 138 (.tmp 2) (.tmp 38) rfl _ _ r.h.toArray rfl rfl hth hi2 hone ?_))
   generalize (wr.setCell (aA (w.heap.size+1) 4) (.string r.d)).setCells (w.heap.size+1) 0 r.h=wz at *
   refine bz (v:=r.H) ?_ rfl ⟨rfl,?_⟩
   .simp only[Act.put,ar,aD,aC]
    simp[results,results215,asAddr,hres]
    rfl
   .exact hbw.trans (hB3.mono (by omega))
def Ok(r:R):Prop:=r.d.size<=20/\∀i,i<5->okN ((kb r).getD i 0)
structure bW(w:World)(q:Nat)(rs:List R)(fails:Bool)(left:Int):Prop where
 j:∀k (h:k<rs.length),Pl w q (3+k*62) (fM rs[k])
 s:∀k,k<200->w.there q (3+k*62) 62
 u:∀k,rs.length<=k->k<200->w.cell? ⟨q,3+k*62+61,none⟩=some (.int .u8 0)
 b:w.cell? ⟨q,12403,none⟩=some (.bool fails)
 o:w.cell? ⟨q,12404,none⟩=some (.int .i64 left)
 p:∀i,w.frozen? ⟨q,i,none⟩=false
 t:rs.length<=200
 x:∀r∈rs,Ok r
def bW.e{q:Nat}(h:bW w q rs fails left)(a:Below C w w')(c:q<C):bW w' q rs fails left:=
 ⟨λk d=>(h.j k d).e a c,λk d j f=>⟨by rw[a.cell (p:=(aA q (3+k*62+j))) c];exact(h.s k d j f).1,(a.frozen (p:=(aA q (3+k*62+j))) c).trans (h.s k d j f).2⟩,
  λk g l=>(a.cell (p:=(aA q (3+k*62+61))) c).trans (h.u k g l),(a.cell (p:=(aA q 12403)) c).trans h.b,(a.cell (p:=(aA q 12404)) c).trans h.o,
  λi=>(a.frozen (p:=(aA q i)) c).trans (h.p i),h.t,h.x⟩
structure Oq(q:Nat)(w w':World):Prop where
 y:w'.os=w.os
 s:w'.tape=w.tape
 p:w'.output=w.output
 h:w.heap.size<=w'.heap.size
 b:∀k,k<w.heap.size->k≠q->w'.heap[k]?=w.heap[k]?
 o:∀i,q<w.heap.size->(i<3\/12405<=i)->w'.cell? ⟨q,i,none⟩=w.cell? ⟨q,i,none⟩
 u:∀i,q<w.heap.size->w'.frozen? ⟨q,i,none⟩=w.frozen? ⟨q,i,none⟩
 x:∀t,(∃cs f,w.heap[q]?=some (.cells cs t f))->∃cs f,w'.heap[q]?=some (.cells cs t f)
def db{u q:Nat}{v:Bg}(h:∃cs f,w.heap[u]?=some (.cells cs t f)):∃cs f,(w.setCell ⟨q,i,none⟩ v).heap[u]?=some (.cells cs t f):=by
 obtain⟨cs,f,h⟩:=h;by_cases e:q=u;subst e;refine⟨cs.setIfInBounds i v,f,?_⟩;simp[World.setCell,bU,h];exact⟨cs,f,(aX _ _ _ _ (λk=>e k.symm)).trans h⟩
def Oq.O{q:Nat}:Oq q w w:=⟨rfl,rfl,rfl,aa _,λ_ _ _=>rfl,λ_ _ _=>rfl,λ_ _=>rfl,λ_ h=>h⟩
def Oq.H{q:Nat}{b c:A1}(h:Oq q a b)(k:Oq q b c):Oq q a c:=
 ⟨k.y.trans h.y,k.s.trans h.s,k.p.trans h.p,aP h.h k.h,λi e d=>by rw[k.b i (aO e h.h) d,h.b i e d],
  λi d e=>(k.o i (aO d h.h) e).trans (h.o i d e),λi d=>(k.u i (aO d h.h)).trans (h.u i d),λt f=>k.x t (h.x t f)⟩
def Oq.e{q:Nat}{b:A1}(h:Below a.heap.size a b):Oq q a b:=⟨h.os,h.tape,h.output,h.size,λk f _=>h.block k f,
  λ_ d _=>aj (h.block q d),λ_ d=>aJ (h.block q d),λ_ c=>c.imp λ_ c=>c.imp λ_ c=>(h.block q (am.1 c).1).trans c⟩
def Oq.j{q:Nat}{b:A1}(h:Oq q a b)(h0:3<=i)(f:i<12405):Oq q a (b.setCell ⟨q,i,none⟩ u):=
 h.H ⟨rfl,rfl,rfl,by simp,λk _ c=>aX b (aA q i) u k c,λk _ g=>ak _ _ _ _ (by intro e;injection e with _ e;omega),λk _=>bb _ _ _ _,λ_ d=>db d⟩
def Oq.V{q:Nat}{b:A1}(h:Oq q a b):Oq q a b.drew:=⟨h.y,h.s,h.p,h.h,h.b,h.o,h.u,h.x⟩
def Oq.I{q:Nat}:∀(c:List Bg) (o:Nat) (b:A1),Oq q a b->3<=o->o+c.length<=12405->Oq q a (b.setCells q o c)
 | [],_,_,h,_,_=>h
 |v::r,o,b,h,h0,d=>by
  rw[World.setCells];rw[bT]at d;exact Oq.I r (o+1) _ (h.j (u:=v) h0 (by omega)) (by omega) (by omega)
def wq{q:Nat}(h:bW w q rs fails left):
  Calls prog 214 #[.pointer (some ⟨q,3,none⟩)] w λe w'=>e=.returned (.int .i64 rs.length)/\w'=w:=by
 have d:=h.t;go_enter func214,ntmps214;go_wp2_with fail
 go_loop [4] (λs=>∃k:Nat,k<=rs.length/\s=iI k) (λs=>200-(intOf s).toNat)
 case atStart=>exact⟨0,by omega,rfl⟩
 case round=>
  obtain⟨k,f,rfl⟩:=hrel;by_cases b:k<rs.length
  .have hc:=((h.j k b).h (i:=61) (by omega)).1;rw[Dl (h.x _ (bA b)).1]at hc;have a:(k:Int)<200:=by omega
   go_wp2_with fail
   go_round
   case rel=>exact⟨k+1,by omega,by go_num⟩
   case measure=>simp[intOf];omega
  .obtain rfl:k=rs.length:=by omega
   by_cases c:rs.length<200
   .have hc:=h.u rs.length (aa _) c;have a:(rs.length:Int)<200:=by omega
    go_wp2_with fail
    go_ret;exact⟨rfl,rfl⟩
   .have a:¬(rs.length:Int)<200:=by omega
    go_wp2_with fail
    go_ret;exact⟨by rw[show (rs.length:Int)=200 by omega];rfl,rfl⟩
def kq{q:Nat}(h:w.there q o n):(w.setCell ⟨b,i,none⟩ u).there q o n:=λj a=>by
 obtain⟨v,c⟩:=aV.1 (h j a).1;refine⟨?_,by rw[bb];exact(h j a).2⟩;by_cases e:(⟨b,i,none⟩:Addr)=⟨q,o+j,none⟩;rw[e,ay _ _ _ c];rfl;rw[ak _ _ _ _ e,c];rfl
def Pl.I{q:Nat}(h:Pl w q o l)(f:i<o\/o+62<=i):Pl (w.setCell ⟨q,i,none⟩ u) q o l:=by
 obtain⟨b,c,d⟩:=h;refine⟨b,λj v a=>?_,kq d⟩;have g:j<62:=by have:=(aT.1 a).1;rw[bH]at this;omega
 rw[ak _ _ _ _ (by intro e;injection e with _ e;omega)];exact c j v a
def bW.I{q:Nat}{l:Int}(h:bW w q rs f l)(m:3+rs.length*62<=i)(d:∀k,i≠3+k*62+61)(h0:i≠12403)(a:i≠12404):bW (w.setCell ⟨q,i,none⟩ u) q rs f l:=
 ⟨λk c=>(h.j k c).I (by right;omega),λk c=>kq (h.s k c),λk a g=>by rw[ak _ _ _ _ (by intro e;injection e with _ e;exact d k e)];exact h.u k a g,
  by rw[ak _ _ _ _ (by intro e;injection e with _ e;exact h0 e)];exact h.b,by rw[ak _ _ _ _ (by intro e;injection e with _ e;exact a e)];exact h.o,λi=>by rw[bb];exact h.p i,h.t,h.x⟩
def bW.H{q:Nat}{l:Int}(h:bW w q rs f l)(f':Bool):bW (w.setCell ⟨q,12403,none⟩ (.bool f')) q rs f' l:=
 ⟨λk a=>(h.j k a).I (by have:=h.t;right;omega),λk a=>kq (h.s k a),λk c d=>by rw[ak _ _ _ _ (by intro e;injection e with _ e;omega)];exact h.u k c d,
  by rw[ay _ _ _ h.b],by rw[ak _ _ _ _ (by simp)];exact h.o,λi=>by rw[bb];exact h.p i,h.t,h.x⟩
def bW.h{q:Nat}{l:Int}(h:bW w q rs f l)(c:Int):bW (w.setCell ⟨q,12404,none⟩ (.int .i64 c)) q rs f c:=
 ⟨λk a=>(h.j k a).I (by have:=h.t;right;omega),λk a=>kq (h.s k a),λk d g=>by rw[ak _ _ _ _ (by intro e;injection e with _ e;omega)];exact h.u k d g,
  by rw[ak _ _ _ _ (by simp)];exact h.b,by rw[ay _ _ _ h.o],λi=>by rw[bb];exact h.p i,h.t,h.x⟩
def bW.O{q:Nat}{l:Int}(h:bW w q rs f l)(t:rs.length<200)(g:Ok r):bW (w.setCells q (3+rs.length*62) ((fM r).map (Value.int .u8))) q (rs++[r]) f l:=by
 have n:((fM r).map (Value.int .u8)).length=62:=by rw[bH,fD g.1]
 have c:=h.s rs.length t;have a:∀i,(i<3+rs.length*62\/3+rs.length*62+62<=i)->(w.setCells q (3+rs.length*62) ((fM r).map (Value.int .u8))).cell? (aA q i)=w.cell? (aA q i):=λi v=>na q _ _ w (aA q i) (λ_ _=>by rw[n];exact v);refine⟨λk m=>?_,λk m=>World.there_setCells (h.s k m) _ _ _,λk y z=>?_,?_,?_,λi=>by rw[i8];exact h.p i,by simp;omega,λx d=>?_⟩;rw[aM,List.length_singleton]at m;by_cases e:k<rs.length;rw[VT e];obtain⟨A,B,C⟩:=h.j k e;refine⟨A,World.rangeAt_setCells_apart B _ _ _ (by right;left;rw[bH];omega),World.there_setCells C _ _ _⟩;obtain rfl:k=rs.length:=by omega
 rw[List.getElem_append_right (by omega)];simp;exact⟨fD g.1,World.rangeAt_setCells_same _ _ _ _ (by rw[n];exact c),World.there_setCells c _ _ _⟩;rw[aM,List.length_singleton]at y;rw[a _ (by right;omega)];exact h.u k (by omega) z;rw[a _ (by right;omega)];exact h.b;rw[a _ (by right;omega)];exact h.o;rcases bq.1 d with d|d
 exact h.x x d;obtain rfl:=aL.1 d;exact g
def M2{q:Nat}(left n:Int)(h:bW w q rs fails left):
  Calls prog 33 #[.pointer (some ⟨q,3,none⟩),.int .i64 n] w λe w'=>e=.returned (.tuple #[])/\bW w' q rs (decide (0<=n)) (max n 0)/\Oq q w w':=by
 have g:=h.p 12403;have i:=h.p 12404;have c0:=h.b;have c1:=h.o;by_cases d:0<=n
 .have a:= aR d;have F:=(h.H true).h n;have c:max n 0=n:=by omega
  rw[c,a];go_enter func33,ntmps33;go_wp2_with fail
  go_end0;exact⟨rfl,F,((Oq.O).j (by omega) (by omega)).j (by omega) (by omega)⟩
 .have a:= aK d;have c:max n 0=0:=by omega
  rw[c,a];have f:n<0:=by omega
  go_enter func33,ntmps33;go_wp2_with fail
  go_end0;exact⟨rfl,((h.H false).h 0),((Oq.O).j (by omega) (by omega)).j (by omega) (by omega)⟩
def Pl.O{q:Nat}(h:Pl w b o l)(a:b≠q):Pl (w.setCell (aA q i) u) b o l:=by
 let ⟨c,d,f⟩:=h
 refine⟨c,λj v g=>?_,kq f⟩;rw[ak _ _ _ _ (by intro e;injection e with e;exact a e.symm)];exact d j v g
def PW{q:Nat}(m:Nat)(h:bW w q rs true 0)(n:rs.length<200)(t:Ok r)(v:q<w.heap.size)(D:m<=61):
  Calls prog 219 #[.pointer (some (aA q 3)),iI rs.length,.agg ((fM r).map (Value.int .u8)).toArray,iI m] w λe w'=>e=.returned (.bool false)/\bW w' q rs true 0/\Oq q w w':=by
 have c:=(au w.heap.size w).alloc (aa _) (.cells ((fM r).map (Value.int .u8)).toArray 71);have a:=h.e c v;have d:=Pl.j (w:=w) (fD t.1) 71;have c0:=a.b;have c1:=a.o;have x:¬((m:Int)<0):=by omega
 have z:(m:Int)<=61:=by omega
 go_enter func219,ntmps219;go_wp2_with fail
 generalize w.alloc (.cells ((fM r).map (Value.int .u8)).toArray 71)=A at *;go_loopw [24] (λs f=>∃i:Nat,i<=m/\s=iI i/\bW f q rs true 0/\Pl f w.heap.size 0 (fM r)/\Oq q A f) (λs _=>m-(intOf s).toNat)
 case atStart=>exact⟨0,by omega,rfl,a,d,Oq.O⟩
 case round=>
  obtain⟨i,E,rfl,a,d,g⟩:=hrel;by_cases B:i<m
  .have hc:=(d.h (i:=i) (by omega)).1;rw[b9]at hc;let ⟨y,C⟩:∃y,(fM r).getD i 0=y:=⟨_,rfl⟩
   rw[C]at hc;let ⟨u,F⟩:=aV.1 (a.s rs.length n i (by omega)).1
   have G:=a.p (3+rs.length*62+i);have l:(rs.length:Int)<200:=by omega
   go_wp2_with fail
   go_region;all_goals go_wp2_with fail
   all_goals exact⟨⟨i+1,by omega,by go_num,(a.I (u:=.int .u8 y) (i:=3+rs.length*62+i) (by omega) (λk=>by omega) (by omega) (by omega)).e (au (q+1) _).drew (by omega),(d.O (u:=.int .u8 y) (i:=3+rs.length*62+i) (show w.heap.size≠q by omega)).e (au (w.heap.size+1) _).drew (by omega),(g.j (by omega) (by omega)).V⟩,by simp[intOf];omega⟩
  .go_wp2_with fail
   go_ret;exact⟨rfl,a,(Oq.e c).H g⟩
def KI{q:Nat}(h:bW w q rs true 0)(m:rs.length<200)(n:Ok r)(t:q<w.heap.size)(B:61<torn):
  Calls prog 219 #[.pointer (some (aA q 3)),iI rs.length,.agg ((fM r).map (Value.int .u8)).toArray,iI torn] w λe w'=>e=.returned (.bool false)/\bW w' q rs true 0/\Oq q w w':=by
 have c:=(au w.heap.size w).alloc (aa _) (.cells ((fM r).map (Value.int .u8)).toArray 71);have a:=h.e c t;have d:=Pl.j (w:=w) (fD n.1) 71;have c0:=a.b;have c1:=a.o;have v:¬(torn<0):=by omega
 go_enter func219,ntmps219;go_wp2_with fail
 generalize w.alloc (.cells ((fM r).map (Value.int .u8)).toArray 71)=x at *;go_loopw [24] (λs f=>∃i:Nat,i<=61/\s=iI i/\bW f q rs true 0/\Pl f w.heap.size 0 (fM r)/\Oq q x f) (λs _=>61-(intOf s).toNat)
 case atStart=>exact⟨0,by omega,rfl,a,d,Oq.O⟩
 case round=>
  obtain⟨i,C,rfl,a,d,g⟩:=hrel;by_cases z:i<61
  .have hc:=(d.h (i:=i) (by omega)).1;rw[b9]at hc;let ⟨y,A⟩:∃y,(fM r).getD i 0=y:=⟨_,rfl⟩
   rw[A]at hc;let ⟨u,D⟩:=aV.1 (a.s rs.length m i (by omega)).1
   have E:=a.p (3+rs.length*62+i);have l:(rs.length:Int)<200:=by omega
   go_wp2_with fail
   go_region;all_goals go_wp2_with fail
   all_goals exact⟨⟨i+1,by omega,by go_num,(a.I (u:=.int .u8 y) (i:=3+rs.length*62+i) (by omega) (λk=>by omega) (by omega) (by omega)).e (au (q+1) _).drew (by omega),(d.O (u:=.int .u8 y) (i:=3+rs.length*62+i) (show w.heap.size≠q by omega)).e (au (w.heap.size+1) _).drew (by omega),(g.j (by omega) (by omega)).V⟩,by simp[intOf];omega⟩
  .go_wp2_with fail
   go_ret;exact⟨rfl,a,(Oq.e c).H g⟩
def PV{q:Nat}(h:bW w q rs true 0)(g:Ok r)(k:q<w.heap.size)(n:torn<0):
  Calls prog 219 #[.pointer (some (aA q 3)),iI rs.length,.agg ((fM r).map (Value.int .u8)).toArray,iI torn] w λe w'=>e=.returned (.bool false)/\bW w' q rs true 0/\Oq q w w':=by
 have a:=(au w.heap.size w).alloc (aa _) (.cells ((fM r).map (Value.int .u8)).toArray 71);have c:=h.e a k;have f:=Pl.j (w:=w) (fD g.1) 71;have c0:=c.b;have c1:=c.o;go_enter func219,ntmps219;go_wp2_with fail
 generalize w.alloc (.cells ((fM r).map (Value.int .u8)).toArray 71)=l at *;go_loopw [24] (λs d=>∃i:Nat,i<=0/\s=iI i/\bW d q rs true 0/\Pl d w.heap.size 0 (fM r)/\Oq q l d) (λs _=>0-(intOf s).toNat)
 case atStart=>exact⟨0,by omega,rfl,c,f,Oq.O⟩
 case round=>
  obtain⟨i,p,rfl,c,f,m⟩:=hrel;obtain rfl:i=0:=by omega
  go_wp2_with fail
  go_ret;exact⟨rfl,c,(Oq.e a).H m⟩
def PX{q:Nat}(torn:Int)(h:bW w q rs true 0)(c:rs.length<200)(a:Ok r)(b:q<w.heap.size):
  Calls prog 219 #[.pointer (some (aA q 3)),iI rs.length,.agg ((fM r).map (Value.int .u8)).toArray,iI torn] w λe w'=>e=.returned (.bool false)/\bW w' q rs true 0/\Oq q w w':=by
 by_cases h0:torn<0;exact PV h a b h0;by_cases d:61<torn;exact KI h c a b d;obtain⟨m,rfl⟩:=vl (show 0<=torn by omega);exact PW m h c a b (by omega)
def KH{q:Nat}(w:A1)(h:bW w q rs false left)(i:rs.length<200)(f:Ok r)(p:q<w.heap.size):
  Calls prog 219 #[.pointer (some (aA q 3)),iI rs.length,.agg ((fM r).map (Value.int .u8)).toArray,iI torn] w λe w'=>e=.returned (.bool true)/\bW w' q (rs++[r]) false left/\Oq q w w':=by
 have a:=(au w.heap.size w).alloc (aa _) (.cells ((fM r).map (Value.int .u8)).toArray 71);have d:=h.e a p;have t:=Pl.j (w:=w) (fD f.1) 71;have g:Oq q w (w.alloc (.cells ((fM r).map (Value.int .u8)).toArray 71)):=Oq.e a;have c0:=d.b;have c1:=d.o;have k:(rs.length:Int)<200:=by omega
 have l:(0:Int)<=(rs.length:Int):=by omega
 have A:=underlying71;have c:((fM r).map (Value.int .u8)).length=62:=by rw[bH,fD f.1]
 have u:=oa;rw[<-c]at u;have m:=ints_oneCell .u8 (fM r);go_enter func219,ntmps219;go_wp2_with fail
 have v:=t.2.1;have x:=d.s rs.length i;have y:=(d.e (au (q+1) _).drew (by omega)).O i f;have z:=Oq.I ((fM r).map (Value.int .u8)) (3+rs.length*62) _ g.V (by omega) (by rw[c];omega);generalize (fM r).map (Value.int .u8)=n at *;generalize w.alloc (.cells n.toArray 71)=B at *;go_region_held3 (λw'=>w'.rangeAt w.heap.size 0 n/\w'.there q (3+rs.length*62) 62) (go_keep_ranges) (fail)
 all_goals go_wp2_with fail
 all_goals go_ret
 exact⟨rfl,y,z⟩
def PU{q:Nat}(h:bW w q rs true left)(m:rs.length<200)(k:Ok r)(n:q<w.heap.size)(z:0<left)(A:left<=9223372036854775807):
  Calls prog 219 #[.pointer (some (aA q 3)),iI rs.length,.agg ((fM r).map (Value.int .u8)).toArray,iI torn] w λe w'=>e=.returned (.bool true)/\bW w' q (rs++[r]) true (left-1)/\Oq q w w':=by
 have a:=(au w.heap.size w).alloc (aa _) (.cells ((fM r).map (Value.int .u8)).toArray 71);have d:=h.e a n;have l:=Pl.j (w:=w) (fD k.1) 71;have f:Oq q w (w.alloc (.cells ((fM r).map (Value.int .u8)).toArray 71)):=Oq.e a;have c0:=d.b;have c1:=d.o;have B:=d.p 12404;have C:(left==0)=false:=by simp;omega
 have t:(rs.length:Int)<200:=by omega
 have v:(0:Int)<=(rs.length:Int):=by omega
 have K:=underlying71;have g:((fM r).map (Value.int .u8)).length=62:=by rw[bH,fD k.1]
 have D:=oa;rw[<-g]at D;have x:=ints_oneCell .u8 (fM r);go_enter func219,ntmps219;go_wp2_with fail
 have c:(w.setCell (aA q 12404) (iI (left-1))).heap.size=w.heap.size:=by simp
 replace a:=(au w.heap.size (w.setCell (aA q 12404) (iI (left-1)))).alloc (by rw[c];exact aa _) (.cells ((fM r).map (Value.int .u8)).toArray 71);replace d:=(h.h (left-1)).e a n;replace l:=Pl.j (w:=w.setCell (aA q 12404) (iI (left-1))) (fD k.1) 71;rw[c]at l;replace f:=((Oq.O (q:=q) (w:=w)).j (i:=12404) (u:=iI (left-1)) (by omega) (by omega)).H (Oq.e (a.mono (by rw[c];exact aa _)));have E:=l.2.1;have F:=d.s rs.length m;have G:=(d.e (au (q+1) _).drew (by omega)).O m k;have J:=Oq.I ((fM r).map (Value.int .u8)) (3+rs.length*62) _ f.V (by omega) (by rw[g];omega);generalize (fM r).map (Value.int .u8)=y at *;generalize (w.setCell (aA q 12404) (iI (left-1))).alloc (.cells y.toArray 71)=L at *;go_region_held3 (λw'=>w'.rangeAt w.heap.size 0 y/\w'.there q (3+rs.length*62) 62) (go_keep_ranges) (fail)
 all_goals go_wp2_with fail
 all_goals go_ret
 exact⟨rfl,G,J⟩
def cY(rs:List R):List Value:=rs.flatMap R.h
def B9(rs:List R):(cY rs).length=rs.length*6:=by
 induction rs with
 |nil=>rfl
 |cons r rs a=>
  have e:cY (r::rs)=r.h++cY rs:=by simp[cY]
  rw[e,aM,a,bT,R.j];omega
def yl(rs:List R)(r:R):cY (rs++[r])=cY rs++r.h:=by simp[cY]
def KF(rs:List R):∀u∈cY rs,u.oneCell'=true:=by
 intro u a;simp only[cY,oU]at a;let ⟨r,_,h⟩:=a
 exact R.I r u h
structure dE(w:World)(u q:Nat)(rs:List R)(down:Bool):Prop where
 h:w.cell? ⟨u,0,none⟩=some (.pointer (some ⟨q,3,none⟩))
 p:∃v,w.cell? ⟨u,1,none⟩=some v/\w.ownsRow (u+1) 138 6 v rs.length (cY rs)
 b:w.cell? ⟨u,2,none⟩=some (.bool down)
 j:∀i,w.frozen? ⟨u,i,none⟩=false
 o:u<w.heap.size
 s:∃cs f,w.heap[u]?=some (.cells cs 296 f)
def pR{s:Nat}{e:Bi}{v:Bg}{xs:List Bg}(h:w.ownsRow B e s v n xs)(d:Below w.heap.size w w'):w'.ownsRow B e s v n xs:=by
 refine⟨h.1,?_⟩;rcases h.2 with h|⟨g,a,b,f,i,c,j⟩
 exact .inl h;exact .inr ⟨g,a,b,f,i,(d.block g (am.1 c).1).trans c,j⟩
def Fc{u:Nat}{v:Bg}(h:∃cs f,w.heap[u]?=some (.cells cs t f)):∃cs f,(w.setCell (aA u i) v).heap[u]?=some (.cells cs t f):=by
 let ⟨cs,f,h⟩:=h
 refine⟨cs.setIfInBounds i v,f,?_⟩;simp[World.setCell,bU,h]
def tB{e:Bi}{s:Nat}{v:Bg}{xs:List Bg}(h:w.ownsRow B e s v n xs):∃ao c,v=.slice ao n c/\n<=c/\(ao=none->n=0/\c=0):=by
 rcases h.2 with⟨rfl,rfl⟩|⟨g,a,b,rfl,_,_,d,_⟩
 exact⟨none,0,rfl,aa _,λ_=>⟨rfl,rfl⟩⟩;exact⟨_,a,rfl,d,λh=>by cases h⟩
def dE.e{u q:Nat}{a:Bool}(h:dE w u q rs a)(b:Below w.heap.size w w'):dE w' u q rs a:=by
 obtain⟨d,⟨v,f,g⟩,j,k,c,l⟩:=h;exact⟨(b.cell (p:=(aA u 0)) c).trans d,⟨v,(b.cell (p:=(aA u 1)) c).trans f,pR g b⟩,(b.cell (p:=(aA u 2)) c).trans j,λi=>(b.frozen (p:=(aA u i)) c).trans (k i),by have:=b.size;omega,l.imp λ_ h=>h.imp λ_ h=>(b.block u c).trans h⟩
def XY(w:A1)(q:Nat):dE (w.alloc (.cells #[.pointer (some (aA q 3)),.slice none 0 0,.bool false] 296)) w.heap.size q [] false:=
 ⟨by simp,⟨.slice none 0 0,by simp,jE _ _ _ _⟩,by simp,λi=>by simp,by simp,_,_,bw w _⟩
def Hr(w:A1)(r:R):∀j u,r.h[j]?=some u->(w.alloc (.cells #[iI r.c,iI r.n,iI r.o,iI r.v,.string r.d,iI r.e] 138)).cell? (((aA w.heap.size 0):Addr).add j)=some u:=by
 intro j u a;rw[Addr.add_mid,b9,bS _ _ _ _ _ _ (bw w _),<-a];exact bo
def sG:(prog.info? 138).map (λi=>(i.zero,i.size,i.bytes))=some (some (.agg #[iI 0,iI 0,iI 0,iI 0,.string ⟨#[]⟩,iI 0]),6,56):=by kernel_rfl
theorem TZ{q:Nat}{rs:List R}{fails:Bool}{left:Int}{w:World}(h:bW w q rs fails left)(hq:q<w.heap.size):
  Calls prog 172 #[.pointer (some (aA q 3))] w λe w'=>∃u,e=.returned (.tuple #[.pointer (some (aA u 0)),.nilIface])/\dE w' u q rs false/\w.heap.size<=u/\Below w.heap.size w w':=by
 have hlen:=h.t
 go_enter func172,ntmps172
 go_wp2_with fail
 have hbx:=(au w.heap.size w).alloc (aa _) (.cells #[.pointer (some ⟨q,3,none⟩),.slice none 0 0,.bool false] 296)
 have hW0:dE (w.alloc (.cells #[.pointer (some ⟨q,3,none⟩),.slice none 0 0,.bool false] 296)) w.heap.size q (rs.take 0) false:=XY w q
 refine(wq (h.e hbx hq)).mono ?_
 rintro e w'⟨rfl,hw'⟩
 rw[hw']
 clear hw'
 generalize w.alloc (.cells #[.pointer (some ⟨q,3,none⟩),.slice none 0 0,.bool false] 296)=wb at *
 go_wp2_with fail
 go_loopw [14] (λs wr=>∃k:Nat,k<=rs.length/\s=.int .i64 k/\dE wr w.heap.size q (rs.take k) false/\Below w.heap.size w wr) (λs _=>rs.length-(intOf s).toNat)
 case atStart=>exact⟨0,by omega,rfl,hW0,hbx⟩
 case round=>
  obtain⟨k,hk,rfl,hW,hB⟩:=hrel
  by_cases hlt:k<rs.length
  .have hD:=h.e hB hq
   have hP:=hD.j k hlt
   have hOk:=h.x _ (bA hlt)
   have hD2:=hW.h
   have hW2:=hW.b
   have hWf:=hW.j
   have hus:=hW.o
   have hty:=hW.s
   let ⟨v,hv,hrow⟩:=hW.p
   obtain⟨va,vc,rfl,hvc,_⟩:=tB hrow
   have htl:(rs.take k).length=k:=by rw[cu];omega
   have HT:Hid (rs.take (k+1)=rs.take k++[rs[k]]):=bF hlt
   rw[htl]at hv hrow
   generalize rs[k]=r at *
   generalize rs.take k=rk at *
   have hrg:=hP.2.1
   have hcl:((fM r).map (Value.int .u8)).length=62:=by rw[bH,fD hOk.1]
   have hi62:=oa
   rw[<-hcl]at hi62
   obtain⟨i0,hi,hy0,hy1,hy2⟩:=dw sG
   have hk0:(0:Int)<=(k:Int):=by omega
   have hk1:(k:Int)<200:=by omega
   have e3:k+1<=maxLen:=by unfold maxLen;omega
   have e4:(k+1)*56<=140737488355328:=by omega
   have hf1:=hWf 1
   have hqu:q≠w.heap.size:=by omega
   clear hP hD hW hW0 hbx
   go_wp2_with fail
   refine Gen.start (S:=λw'=>w'.cell? ⟨w.heap.size,1,none⟩=some (.slice va k vc)/\w'.rangeAt q (3+k*62) ((fM r).map (Value.int .u8))) (by kernel_rfl) ⟨hv,hrg⟩ (λhHeld=>?_)
   refine tk 0 14 hHeld ?_

   refine tk 1 2 hHeld ?_
   go_frame
   refine tk 2 3 hHeld ?_

   refine tk 3 4 hHeld ?_
   go_frame
   refine tk 4 13 hHeld ?_

   refine tk 5 7 hHeld ?_
   go_frame
   refine tk 6 9 hHeld ?_

   refine tk 7 8 hHeld ?_
   go_frame
   refine tk 8 9 hHeld ?_

   refine tk 9 10 hHeld ?_
   go_frame
   refine take (i:=10) (k:=11) (v:=_) rfl rfl (by kernel_rfl) (by kernel_rfl) (by kernel_rfl) (by kernel_rfl) (by kernel_rfl) (by kernel_rfl) (λ_ _ _ h=>h) (yieldsIf_load_mid (by rfl) 71 (.tmp 26) rfl _ _ rfl _ _ (λ_ h=>h.2) underlying71 rfl hi62) hHeld ?_
   simp only[Act.put,ar,aD,aC]
   refine on 11 λK hK=>?_
   go_simp
   apply (T8 hOk.1 hOk.2).mono
   rintro e w2⟨rfl,hb2⟩
   dsimp only
   have hs2:=hb2.size
   have hbr:Below wr.heap.size wr w2:=⟨hb2.os,hb2.tape,hb2.output,hb2.size,hb2.block⟩
   refine hK.out _ _ ⟨(hbr.cell (p:=⟨w.heap.size,1,none⟩) hus).trans hv,λj v hv=>(hbr.cell (p:=⟨q,3+k*62+j,none⟩) (by dsimp only;omega)).trans (hrg j v hv)⟩ (λhHeld=>?_)
   clear hK K
   try simp only[Act.put,ar,aD,aC]
   refine on 12 λK hK=>?_
   go_simp
   have hb3:Below wr.heap.size wr (w2.alloc (.cells #[.int .i64 r.c,.int .i64 r.n,.int .i64 r.o,.int .i64 r.v,.string r.d,.int .i64 r.e] 138)):=hbr.alloc hs2 _
   refine hK.out _ _ ⟨(hb3.cell (p:=⟨w.heap.size,1,none⟩) hus).trans hv,λj v hv=>(hb3.cell (p:=⟨q,3+k*62+j,none⟩) (by dsimp only;omega)).trans (hrg j v hv)⟩ (λhHeld=>?_)

   try simp only[Act.put,ar,aD,aC]
   refine on 13 λK hK=>?_
   refine wp_append_own _ (.tmp 21) (.tmp 29) 267 rfl (w.heap.size+1) 138 i0 (.agg #[.int .i64 0,.int .i64 0,.int .i64 0,.int .i64 0,.string ⟨#[]⟩,.int .i64 0]) 6 56 underlying267 hi hy0 hy1 hy2 rfl (by decide) _ _ _ (by rfl) (pR hrow hb3) ⟨w2.heap.size,0,none⟩ 1 1 r.h (by rfl) rfl (Hr w2 r) r.I e3 e4 (by have:=hb3.size;omega) ?_
   intro v1 w3 hown1 hg1 _
   rw[<-yl]at hown1
   obtain⟨va1,vc1,rfl,_,_⟩:=tB hown1
   have hb4:Below (w.heap.size+1) wr w3:=(hb3.mono (by omega)).grown hg1 (by have:=hb3.size;omega) (λk hk=>((pR hrow hb3).lt k hk).1)
   have m1:=(hb4.cell (p:=⟨w.heap.size,1,none⟩) (by dsimp only;omega)).trans hv
   have m2:w3.frozen? ⟨w.heap.size,1,none⟩=false:=(hb4.frozen (p:=⟨w.heap.size,1,none⟩) (by dsimp only;omega)).trans hf1
   refine hK.out _ _ ⟨m1,λj v hv=>(hb4.cell (p:=⟨q,3+k*62+j,none⟩) (by dsimp only;omega)).trans (hrg j v hv)⟩ (λhHeld=>?_)
   clear hK K
   try simp only[Act.put,ar,aD,aC]
   apply tk 14 15 hHeld
   go_frame
   refine tk 15 16 hHeld ?_
   go_frame
   refine la 16 λK hK=>?_
   go_simp
   apply hK.out _ _
   clear hK K hHeld
   have hWn:dE (w3.setCell ⟨w.heap.size,1,none⟩ (.slice va1 (k+1) vc1)) w.heap.size q (rk++[r]) false:=by
    refine⟨?_,⟨_,ay _ _ _ m1,?_⟩,?_,λi=>?_,by have:=hb4.size;simp;omega,Fc (hty.imp λ_ h=>h.imp λ_ h=>(hb4.block _ (by omega)).trans h)⟩
    .rw[ak _ _ _ _ (by simp)];exact(hb4.cell (p:=⟨w.heap.size,0,none⟩) (by dsimp only;omega)).trans hD2
    .rw[aM,htl]
     exact iB (a:=⟨w.heap.size,1,none⟩) hown1 (by dsimp only;omega) _
    .rw[ak _ _ _ _ (by simp)];exact(hb4.cell (p:=⟨w.heap.size,2,none⟩) (by dsimp only;omega)).trans hW2
    .rw[bb];exact(hb4.frozen (p:=⟨w.heap.size,i,none⟩) (by dsimp only;omega)).trans (hWf i)
   have hBn:Below w.heap.size w (w3.setCell ⟨w.heap.size,1,none⟩ (.slice va1 (k+1) vc1)):=(hB.trans (hb4.mono (by omega))).setCell (aa _) _
   generalize w3.setCell ⟨w.heap.size,1,none⟩ (.slice va1 (k+1) vc1)=w4 at *
   go_wp2_with fail
   exact⟨⟨k+1,by omega,by go_num,by rw[HT.out];exact hWn,hBn⟩,by simp[intOf];omega⟩
  .obtain rfl:k=rs.length:=by omega
   rw[gz]at hW
   go_wp2_with fail
   go_ret2
   exact⟨_,rfl,hW,aa _,hB⟩
end Wal
end Go.Proofs.YtbebfliimjjohabGreatDoor
