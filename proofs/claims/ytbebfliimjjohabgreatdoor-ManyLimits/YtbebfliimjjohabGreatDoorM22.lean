/- Parts of the proof. -/
import Derived.Test.YtbebfliimjjohabGreatDoorM21
import Derived.Great.BuildSlice
set_option maxRecDepth 100000
set_option maxHeartbeats 8000000
set_option linter.all false
open Go.Proofs.Tryz
namespace Go.Proofs.YtbebfliimjjohabGreatDoor
open Go.RowKit Go.Maps
open Lease (Ob gv gV de cP mx bX eE m5 yL gv.e lD mf nY)
open Cache (cq E tp kp fq lP qm)
open Num (M m6 nb ko jk gy iC m8)
namespace Wld
variable{x:E}{o:Int}{L:List E}{c m p B:Nat}{u0 u1:Bg}{w:A1}
structure MB(w:World)(b:Nat)(m:M):Prop where
 y:w.cell? ⟨b,0,none⟩=some (.int .i64 m.k)
 i:w.cell? ⟨b,1,none⟩=some (.int .i64 m.c)
 u:w.cell? ⟨b,2,none⟩=some (.int .i64 m.n)
 j:w.cell? ⟨b,3,none⟩=some (.int .i64 m.e)
 p:w.cell? ⟨b,4,none⟩=some (.int .i64 m.s)
 h:w.cell? ⟨b,5,none⟩=some (.int .i64 m.o)
 t:w.cell? ⟨b,6,none⟩=some (.int .i64 m.v)
 x:w.cell? ⟨b,7,none⟩=some (.bool m.l)
 A:w.cell? ⟨b,8,none⟩=some (.string m.d)
def K.ac(k:K):M:=if k.gY=2 then ⟨2,k.id,k.mg,0,0,k.io,0,false,k.d⟩ else ⟨1,k.id,k.mg,0,0,k.io,0,false,⟨#[]⟩⟩
def yy{k:K}(h:bt w c m k):
  Calls prog 179 #[tp c] w λe f=>e=.returned (Wire.M.ab k.ac)/\Below w.heap.size w f:=by
 have c0:=h.c0;have c3:=h.c3;have c4:=h.c4;have c5:=h.c5;have c6:=h.c6;have g:=h.H.1;have i:c≠w.heap.size:=by omega
 have b:c≠w.heap.size+1:=by omega
 unfold K.ac;by_cases a:k.gY=2
 .rw[az a];rw[a]at c4;go_enter func179,ntmps179;go_wp2_with fail
  go_region;all_goals go_wp2_with fail
  all_goals go_region
  all_goals go_wp2_with fail
  all_goals exact bz (v:=Wire.M.ab ⟨2,k.id,k.mg,0,0,k.io,0,false,k.d⟩) (by simp[results,results179,go_sem,Wire.M.ab]) rfl ⟨rfl,(((au _ _).alloc (aa _) _).alloc (by simp) _).drew.drew⟩
 .rw[ax a];have j:(k.gY==2)=false:=by simpa using a
  go_enter func179,ntmps179;go_wp2_with fail
  go_region;all_goals go_wp2_with fail
  all_goals exact bz (v:=Wire.M.ab ⟨1,k.id,k.mg,0,0,k.io,0,false,⟨#[]⟩⟩) (by simp[results,results179,go_sem,Wire.M.ab]) rfl ⟨rfl,(((au _ _).alloc (aa _) _).alloc (by simp) _).drew⟩
def K.ap(k:K)(now:Int):K:={k with dV:=k.dV+1,nk:=now}
def K.aw(k:K):M:=⟨3,k.id,k.dV+1,k.ep,k.zi,0,0,false,⟨#[]⟩⟩
def QX{k:K}(now:Int)(h:bt w c m k)(h0:0<=k.dV)(l:k.dV<=4611686018427387904):
  Calls prog 178 #[tp c,iI now] w λe a=>e=.returned (Wire.M.ab k.aw)/\bt a c m (k.ap now)/\Ob [c,m] w a:=by
 have c0:=h.c0;have b:=h.aw;have d:=h.a2;have f:=h.ai;have g:=h.al;have n:=h.ae;have i:=h.H.1;have j:c≠w.heap.size:=by omega
 unfold K.aw;go_enter func178,ntmps178;go_wp2_with fail
 go_region;all_goals go_wp2_with fail
 all_goals exact bz (v:=Wire.M.ab ⟨3,k.id,k.dV+1,k.ep,k.zi,0,0,false,⟨#[]⟩⟩) (by simp[results,results178,go_sem,Wire.M.ab]) rfl ⟨rfl,(λo=>(((h.a6 (k.dV+1)).a7 now).h o).I) _,((((Ob.V _ _).H (by simp)).H (by simp)).h _).I⟩
def K.ab(k:K)(d:ByteArray)(v:Int):K:={k with d:=d,zk:=v,gW:=true,gZ:=gV k.gZ k.io (mx (k.gZ k.io) v),n:=k.n+1}
def bt.ah{k:K}(h:bt w c m k)(h0:0<=o)(a:o<=7):(Instr.lookup 160 (.map (some m)) (iI o) false).run prog w=.ok (iI (k.gZ o)) w/\gv (k.gZ o):=by
 let ⟨D,b,d⟩:=h.p
 let ⟨e,_,r3⟩:=lD (t:=160) b m5 underlying160 (yL ⟨by omega,by omega⟩) (d.2 o h0 a)
 exact⟨e,r3⟩
def oy{k:K}(d:Bh){v:Int}(h:bt w c m k)(x:0<=k.io)(q:k.io<=7)(y:gv v)(J:k.n<1000000000000):
  Calls prog 77 #[tp c,.agg #[.string d,iI v]] w λe r=>e=.returned (.tuple #[])/\bt r c m (k.ab d v)/\Ob [c,m] w r:=by
 have f:=(((h.s6 d).s7 v).s8 true).h (.cells #[.string d,.int .i64 v] 41);have z:((((w.setCell ⟨c,6,none⟩ (.string d)).setCell ⟨c,7,none⟩ (.int .i64 v)).setCell ⟨c,8,none⟩ (.bool true)).alloc (.cells #[.string d,.int .i64 v] 41)).cell? ⟨w.heap.size,1,none⟩=some (.int .i64 v):=by
  have e:∀W:A1,W.heap.size=w.heap.size->(W.alloc (.cells #[.string d,.int .i64 v] 41)).cell? ⟨w.heap.size,1,none⟩=some (.int .i64 v):=λW A=>by rw[<-A];simp
  exact e _ (by simp)
 have B:Ob [c,m] w ((((w.setCell (aA c 6) (.string d)).setCell (aA c 7) (iI v)).setCell (aA c 8) (.bool true)).alloc (.cells #[.string d,iI v] 41)):=((((Ob.V _ _).H (by simp)).H (by simp)).H (by simp)).h _;have c6:=h.c6;have c7:=h.c7;have c8:=h.c8;have L:=h.ae;have C:=h.H.1;have E:c≠w.heap.size:=by omega
 go_enter func77,ntmps77;go_wp2_with fail
 generalize (((w.setCell (aA c 6) (.string d)).setCell (aA c 7) (iI v)).setCell (aA c 8) (.bool true)).alloc (.cells #[.string d,iI v] 41)=w1 at *;have d5:=f.c5;have F:=f.an;let ⟨j,l⟩:=f.I.ah x q
 dsimp only at j l d5;let ⟨D,t,u⟩:=f.p
 dsimp only at t u;go_still_tail 22,(by kernel_rfl);generalize G:(if k.gZ k.io<v then v else k.gZ k.io)=g;obtain rfl:mx (k.gZ k.io) v=g:=G;refine wpList_mapUpdate_in _ rfl _ _ _ 160 rfl 3 3 m5 underlying160 (plainElem prog 3) m k.n D rfl t (by unfold maxLen;omega) _ _ _ rfl rfl (yL ⟨by omega,by omega⟩) _ _ (plainElem_int underlying3 (nY l y).e) ?_;intro w2 o a;have e:= a.grown.block c f.H.1 (λe=>f.ne (by injection e));go_wp2;go_end0;exact⟨rfl,(⟨⟨f.i.b,rfl,e.trans f.i.e⟩,f.s,_,o,u.e⟩),(B.I.ab a (by simp))⟩
def K.aU(k:K)(e s:Int):K:=if e=k.ep/\s=k.zi then k else {k with ep:=e,zi:=s,Fg:=0,fY:=[]}
def UU{k:K}(h:bt w c m k):
  Calls prog 191 #[tp c,.agg #[iI k.ep,iI k.zi]] w λr a=>r=.returned (.tuple #[])/\bt a c m k/\Ob [c,m] w a:=by
 have b:=h.ai;have d:=h.al;have e:=h.H.1;have f:c≠w.heap.size:=by omega
 go_enter func191,ntmps191;go_wp2;go_region;all_goals go_wp2
 all_goals go_end0
 all_goals exact⟨rfl,((h.h (.cells #[iI k.ep,iI k.zi] 154)).I),(((Ob.V [c,m] w).h _).I)⟩
def Qs{k:K}{e s:Int}(h:bt w c m k)(d:¬(e=k.ep/\s=k.zi)):
  Calls prog 191 #[tp c,.agg #[iI e,iI s]] w λr f=>r=.returned (.tuple #[])/\bt f c m {k with ep:=e,zi:=s,Fg:=0,fY:=[]}/\Ob [c,m] w f:=by
 have n:=h.ai;have o:=h.al;have p:=h.aq;have v:=h.ae;have t:=h.H.1;have u:c≠w.heap.size:=by omega
 have F:=(((((h.a8 e).a9 s).a4 0).h (.cells #[iI e,iI s] 154)).I);have g:Ob [c,m] w ((((w.setCell (aA c 14) (iI e)).setCell (aA c 15) (iI s)).setCell (aA c 16) (iI 0)).alloc (.cells #[iI e,iI s] 154)).drew:=(((((Ob.V _ _).H (by simp)).H (by simp)).H (by simp)).h _).I;by_cases l:e=k.ep
 .have x:¬s=k.zi:=λq=>d ⟨l,q⟩;subst l;go_enter func191,ntmps191;go_wp2_with fail
  go_region;all_goals go_wp2_with fail
  generalize ((((w.setCell (aA c 14) _).setCell (aA c 15) _).setCell (aA c 16) _).alloc _).drew=w1 at *;apply (Cache.C9 F.i).mono;rintro r w2⟨rfl,b,a⟩;have G:=F.ag b .nil a;go_wp2_with fail
  go_end0;exact⟨rfl,G,g.j ((Ob.ae a).Z (by simp))⟩
 .clear d;go_enter func191,ntmps191;go_wp2_with fail
  go_region;all_goals go_wp2_with fail
  generalize ((((w.setCell (aA c 14) _).setCell (aA c 15) _).setCell (aA c 16) _).alloc _).drew=w1 at *;apply (Cache.C9 F.i).mono;rintro r w2⟨rfl,b,a⟩;go_wp2_with fail
  go_end0;exact⟨rfl,(F.ag b .nil a),g.j ((Ob.ae a).Z (by simp))⟩
def Qr{k:K}(e s:Int)(h:bt w c m k):
  Calls prog 191 #[tp c,.agg #[iI e,iI s]] w λr b=>r=.returned (.tuple #[])/\bt b c m (k.aU e s)/\Ob [c,m] w b:=by
 unfold K.aU;by_cases a:e=k.ep/\s=k.zi;rw[az a];obtain⟨rfl,rfl⟩:=a;exact UU h;rw[ax a];exact Qs h a
def K9(h:L.Pairwise λa b=>a.o≠b.o):(qm o L).Pairwise λa b=>a.o≠b.o:=h.filter _
def UQ:∀x∈qm o L,x.o≠o:=λ_ a=>Cache.G9 (gR.1 a).2
def Ns(h:L.Pairwise λa b=>a.o≠b.o){e:E}:(lP L e).Pairwise λa b=>a.o≠b.o:=by
 unfold lP;rw[eH];refine⟨?_,vp _ _,?_⟩;split;exact(K9 h).sublist (List.eraseIdx_sublist _ _);exact K9 h;intro a c b d;obtain rfl:=aL.1 d;split at c;exact UQ a ((List.eraseIdx_sublist _ _).subset c);exact UQ a c
def K.a2(k:K)(o:Int):Option E:=k.fY.find? λx=>decide (x.o=o)
def K.e(k:K)(o:Int):K:=match k.a2 o with
 |none=>k
 |some x=>{k with fY:=lP k.fY x}
def K.av(k:K)(o now:Int):Option E:=match k.a2 o with
 |none=>none
 |some x=>if x.u<=now\/k.Fg<=now\/x.v<k.gZ o then none else some x
def uT:Option E->Value
 |none=>.tuple #[.agg #[.string ⟨#[]⟩,.int .i64 0],.bool false]
 |some x=>.tuple #[.agg #[.string x.d,.int .i64 x.v],.bool true]
def Qp{k:K}(h:k.a2 o=none):∀x∈k.fY,x.o≠o:=λx a=>by
 have:=List.find?_eq_none.1 h x a;simpa using this
def Qq{k:K}(h:k.a2 o=some x):∃i,∃a:i<k.fY.length,k.fY[i]=x/\k.fY[i].o=o:=by
 have b:=eK h;have c:=List.find?_some h;let ⟨i,a,e⟩:=rg b
 exact⟨i,a,e,by rw[e];simpa using c⟩
def ac1(d:cC w (aA p 0) u0)(e:cC w (aA p 1) u1)(c:p<w.heap.size)(a b:Bg)(o:Obj):
  (((w.setCell (aA p 0) a).setCell (aA p 1) b).alloc o).cell? (aA p 0)=some a/\(((w.setCell (aA p 0) a).setCell (aA p 1) b).alloc o).cell? (aA p 1)=some b:=by
 have f:cC (w.setCell (aA p 0) a) (aA p 1) u1:=(ak _ _ _ _ (by simp)).trans e;exact⟨(aH _ _ (aA p 0) (by simpa using c)).trans ((ak _ _ _ _ (by simp)).trans (ay _ _ _ d)),(aH _ _ (aA p 1) (by simpa using c)).trans (ay _ _ _ f)⟩
def Zn(d:cC w (aA p 0) u0)(e:cC w (aA p 1) u1)(c:p<w.heap.size)(a b:Bg)(o:Obj)(j:Nat):
  ((((w.alloc o).drewN j).setCell (aA p 0) a).setCell (aA p 1) b).cell? (aA p 0)=some a/\((((w.alloc o).drewN j).setCell (aA p 0) a).setCell (aA p 1) b).cell? (aA p 1)=some b:=by
 have f:= (aH w o (aA p 0) c).trans d;have g:= (aH w o (aA p 1) c).trans e;exact⟨(ak _ _ _ _ (by simp)).trans (ay _ _ _ f),ay _ _ _ ((ak _ _ _ _ (by simp)).trans g)⟩
def UZ{k:K}{now:Int}(h:bt w c m k)(t:k.a2 o=none):
  Calls prog 76 #[tp c,iI o,iI now] w λe j=>e=.returned (uT none)/\bt j c m k/\Ob [c,m] w j:=by
 have u:=h.H;have l:=h.h (.cells #[.string ⟨#[]⟩,.int .i64 0] 41);have x:=(au w.heap.size w).alloc (aa _) (.cells #[.string ⟨#[]⟩,.int .i64 0] 41);have g:(w.alloc (.cells #[.string ⟨#[]⟩,.int .i64 0] 41)).cell? ⟨w.heap.size,0,none⟩=some (.string ⟨#[]⟩)/\(w.alloc (.cells #[.string ⟨#[]⟩,.int .i64 0] 41)).cell? ⟨w.heap.size,1,none⟩=some (.int .i64 0)/\(∀i,(w.alloc (.cells #[.string ⟨#[]⟩,.int .i64 0] 41)).frozen? ⟨w.heap.size,i,none⟩=false)/\w.heap.size<(w.alloc (.cells #[.string ⟨#[]⟩,.int .i64 0] 41)).heap.size:=by simp

 go_enter func76,ntmps76;go_wp2_with fail
 generalize w.alloc (.cells #[.string ⟨#[]⟩,iI 0] 41)=w1 at *;apply (Cache.Th l.i (Qp t)).mono;rintro e w2⟨rfl,d⟩;have n:=(d.cell (p:=(aA w.heap.size 0)) g.2.2.2).trans g.1;have q:=(d.cell (p:=(aA w.heap.size 1)) g.2.2.2).trans g.2.1;have y:=λi=>(d.frozen (p:=(aA w.heap.size i)) g.2.2.2).trans (g.2.2.1 i);have z:=d.size;have r:w.heap.size≠w2.heap.size:=by omega
 have f:w.heap.size<w2.heap.size:=by omega
 have s:c<w2.heap.size:=by omega
 go_wp2_with fail
 go_region;all_goals go_wp2_with fail
 all_goals
  refine bz (v:=uT none) (by simp[results,results76,go_sem,uT,(λa b o=>(ac1 n q f a b o).1),(λa b o=>(ac1 n q f a b o).2)]) rfl ⟨rfl,?_,?_⟩
  .repeat first|exact(l.ab d)|refine bt.I ?_|refine bt.h ?_ _|refine bt.Z ?_ (by omega) (by omega)
  .repeat first|exact(Ob.O (x.trans (d.mono (by omega))))|refine Ob.I ?_|refine Ob.h ?_ _|refine Ob.ab ?_ (aa _)
def Yo{k:K}(o now:Int)(h:bt w c m k)(X:k.a2 o=some x)(Y:0<=o)(D:o<=7){r:Option E}(t:Hid ((if x.u<=now\/k.Fg<=now\/x.v<k.gZ o then none else some x)=r)):
  Calls prog 76 #[tp c,iI o,iI now] w λe P=>e=.returned (uT r)/\bt P c m {k with fY:=lP k.fY x}/\Ob [c,m] w P:=by
 have ad:=h.H;have y:=h.h (.cells #[.string ⟨#[]⟩,iI 0] 41);have hB:=(au w.heap.size w).alloc (aa _) (.cells #[.string ⟨#[]⟩,iI 0] 41);have z:(w.alloc (.cells #[.string ⟨#[]⟩,iI 0] 41)).cell? (aA w.heap.size 0)=some (.string ⟨#[]⟩)/\(w.alloc (.cells #[.string ⟨#[]⟩,iI 0] 41)).cell? (aA w.heap.size 1)=some (iI 0)/\(∀i,(w.alloc (.cells #[.string ⟨#[]⟩,iI 0] 41)).frozen? (aA w.heap.size i)=false)/\w.heap.size<(w.alloc (.cells #[.string ⟨#[]⟩,iI 0] 41)).heap.size:=by simp
 let ⟨i,hi,Q,G⟩:=Qq X

 go_enter func76,ntmps76;go_wp2_with fail
 generalize w.alloc (.cells #[.string ⟨#[]⟩,iI 0] 41)=w1 at *;apply (Cache.Xq y.i y.s hi G).mono;rintro e w2⟨rfl,hC,d⟩;have F:=y.ag hC (Ns y.s) d;rw[Q]at F;simp only[Q]

 have J:w.heap.size∉[c]:=by simp;omega
 have L:=d.b w.heap.size z.2.2.2 J;have R:=(aj (a:=(aA w.heap.size 0)) L).trans z.1;have S:=(aj (a:=(aA w.heap.size 1)) L).trans z.2.1;have xf:=λi=>(aJ (a:=(aA w.heap.size i)) L).trans (z.2.2.1 i);have hz:=d.i;have f:Ob [c,m] w w2:=(Ob.O hB).j ((Ob.ae d).Z (by simp));have T:w.heap.size≠w2.heap.size:=by omega
 have g:w.heap.size<w2.heap.size:=by omega
 have U:c<w2.heap.size:=by omega
 have A:=λa b o j=>(Zn R S g a b o j).1;have B:=λa b o j=>(Zn R S g a b o j).2;have V:c≠w2.heap.size:=by omega
 have M:=F.aq;have aI:=F.an;have hL:=λo j=>(((F.h o).e (j:=j)).ah Y D).1;dsimp only at M hL;by_cases n:x.u<=now
 .have l :Hid _:= t.out.symm.trans (az (Or.inl n));have N:= aR n;go_wp2_with fail
  go_quiet (fail);all_goals go_wp2_with fail
  all_goals
   refine bz (v:=uT none) (by simp[results,results76,go_sem,uT,A,B]) rfl ⟨by rw[l.out],?_,?_⟩
   .repeat first|exact F|refine bt.I ?_|refine bt.e ?_|refine bt.h ?_ _|refine bt.Z ?_ (by omega) (by omega)
   .repeat first|exact f|refine Ob.I ?_|refine Ob.e ?_|refine Ob.h ?_ _|refine Ob.ab ?_ (aa _)
 .by_cases p:k.Fg<=now
  .have l :Hid _:= t.out.symm.trans (az (Or.inr (Or.inl p)));have N:= aK n;have W:= aR p;go_wp2_with fail
   go_quiet (fail);all_goals go_wp2_with fail
   all_goals
    refine bz (v:=uT none) (by simp[results,results76,go_sem,uT,A,B]) rfl ⟨by rw[l.out],?_,?_⟩
    .repeat first|exact F|refine bt.I ?_|refine bt.e ?_|refine bt.h ?_ _|refine bt.Z ?_ (by omega) (by omega)
    .repeat first|exact f|refine Ob.I ?_|refine Ob.e ?_|refine Ob.h ?_ _|refine Ob.ab ?_ (aa _)
  .by_cases C:x.v<k.gZ o
   .have l :Hid _:= t.out.symm.trans (az (Or.inr (Or.inr C)));have N:= aK n;have W:= aK p;have g3:= aR C;go_wp2_with fail
    go_quiet (fail);all_goals go_wp2_with fail
    all_goals
     refine bz (v:=uT none) (by simp[results,results76,go_sem,uT,A,B]) rfl ⟨by rw[l.out],?_,?_⟩
     .repeat first|exact F|refine bt.I ?_|refine bt.e ?_|refine bt.h ?_ _|refine bt.Z ?_ (by omega) (by omega)
     .repeat first|exact f|refine Ob.I ?_|refine Ob.e ?_|refine Ob.h ?_ _|refine Ob.ab ?_ (aa _)
   .have l :Hid _:= t.out.symm.trans (ax (by rintro(q|q|q);exact n q;exact p q;exact C q));have N:= aK n;have W:= aK p;have g3:= aK C;go_wp2_with fail
    go_quiet (fail);all_goals go_wp2_with fail
    all_goals
     refine bz (v:=uT (some x)) (by simp[results,results76,go_sem,uT,A,B]) rfl ⟨by rw[l.out],?_,?_⟩
     .repeat first|exact F|refine bt.I ?_|refine bt.e ?_|refine bt.h ?_ _|refine bt.Z ?_ (by omega) (by omega)
     .repeat first|exact f|refine Ob.I ?_|refine Ob.e ?_|refine Ob.h ?_ _|refine Ob.ab ?_ (aa _)
def Yn{k:K}(o now:Int)(h:bt w c m k)(d:0<=o)(a:o<=7):
  Calls prog 76 #[tp c,iI o,iI now] w λe b=>e=.returned (uT (k.av o now))/\bt b c m (k.e o)/\Ob [c,m] w b:=by
 unfold K.av K.e;cases hf:k.a2 o with
 |none=>exact UZ h hf
 |some x=>exact Yo o now h hf d a rfl
def K.ah(k:K)(m:M):Prop:=m.l=true/\k.ft<=m.v/\k.ep=m.e/\k.zi=m.s
instance (k:K) (m:M):Decidable (k.ah m):=by unfold K.ah;infer_instance
variable{l:List M}
def K.a3(k:K)(m:M):K:=
 if m.v<k.gZ k.io then k else
 (if k.ah m then {k with fY:=lP k.fY ⟨k.io,m.d,m.v,k.qN+k.Ff⟩} else k).ab m.d m.v
def Vj(w:World)(m:M):World:=(w.alloc (.cells #[.int .i64 m.k,.int .i64 m.c,.int .i64 m.n,.int .i64 m.e,.int .i64 m.s,.int .i64 m.o,.int .i64 m.v,.bool m.l,.string m.d] 129)).alloc (.cells #[.string m.d,.int .i64 m.v] 41)
structure RB(w w1:World)(m:M):Prop where
 i:w1.cell? ⟨w.heap.size,3,none⟩=some (.int .i64 m.e)
 j:w1.cell? ⟨w.heap.size,4,none⟩=some (.int .i64 m.s)
 o:w1.cell? ⟨w.heap.size,7,none⟩=some (.bool m.l)
 p:w1.cell? ⟨w.heap.size+1,0,none⟩=some (.string m.d)
 h:w1.cell? ⟨w.heap.size+1,1,none⟩=some (.int .i64 m.v)
 b:Below w.heap.size w w1
 t:w1.heap.size=w.heap.size+2
def FH(w:A1)(m:M):RB w (Vj w m) m:=by
 unfold Vj;refine⟨by simp,by simp,by simp,by simp,by simp,((au _ _).alloc (aa _) _).alloc (by simp) _,by simp⟩
def Vp{q:Nat}{k:K}{m:M}(h:bt w c q k)(i:0<=k.io)(a:k.io<=7)(hs:m.v<k.gZ k.io):
  Calls prog 193 #[tp c,Wire.M.ab m] w λe g=>e=.returned (.tuple #[])/\bt g c q k/\Ob [c,q] w g:=by
 have f:=FH w m;have F:=h.ab (f.b.mono (aa _));have p:=h.H.1;unfold Vj at *;unfold Wire.M.ab

 go_enter func193,ntmps193;go_wp2_with fail
 generalize (w.alloc (.cells #[iI m.k,iI m.c,iI m.n,iI m.e,iI m.s,iI m.o,iI m.v,.bool m.l,.string m.d] 129)).alloc (.cells #[.string m.d,iI m.v] 41)=w1 at *;have t:=λj=>((F.e (j:=j)).ah i a).1;have d5:=F.c5;have r:=F.an;have u:=f.h;have x:decide (m.v<k.gZ k.io)=true:=aR hs;go_quiet (fail);go_wp2_with fail
 exact bz (v:=.tuple #[]) (by simp[results,results193]) rfl ⟨rfl,F.e,(Ob.O f.b).e⟩
def U3{k:K}{m:M}(h:¬k.ah m):m.l=false\/(m.l=true/\¬k.ft<=m.v)\/(m.l=true/\k.ft<=m.v/\¬k.ep=m.e)\/(m.l=true/\k.ft<=m.v/\k.ep=m.e/\¬k.zi=m.s):=by
 unfold K.ah at h;cases hl:m.l with
 |false=>exact .inl rfl
 |true=>
  by_cases a:k.ft<=m.v;by_cases b:k.ep=m.e;by_cases c:k.zi=m.s;exact absurd ⟨hl,a,b,c⟩ h;exact .inr (.inr (.inr ⟨rfl,a,b,c⟩));exact .inr (.inr (.inl ⟨rfl,a,b⟩));exact .inr (.inl ⟨rfl,a⟩)
def LG{q:Nat}{k:K}{m:M}(h:bt w c q k)(r:0<=k.io)(f:k.io<=7)(u:gv m.v)(x:k.n<1000000000000)(hs:¬m.v<k.gZ k.io)(z:¬k.ah m):
  Calls prog 193 #[tp c,Wire.M.ab m] w λe A=>e=.returned (.tuple #[])/\bt A c q (k.ab m.d m.v)/\Ob [c,q] w A:=by
 have P:decide (m.v<k.gZ k.io)=false:=aK hs;have g:=FH w m;have F:=h.ab (g.b.mono (aa _));have D:=h.H.1;have E:Hid (¬k.ah m):=z;unfold Vj at *;unfold Wire.M.ab;clear h z hs;go_enter func193,ntmps193;go_wp2_with fail
 generalize (w.alloc (.cells #[iI m.k,iI m.c,iI m.n,iI m.e,iI m.s,iI m.o,iI m.v,.bool m.l,.string m.d] 129)).alloc (.cells #[.string m.d,iI m.v] 41)=w1 at *;have Q:=λj=>((F.e (j:=j)).ah r f).1;have d5:=F.c5;have I:=F.an;have J:=F.ap;have L:=F.ai;have N:=F.al;have R:=g.p;have S:=g.h;have b3:=g.i;have b4:=g.j;have b7:=g.o;have y:Ob [c,q] w w1:=Ob.O g.b;go_quiet (fail);go_wp2_with fail
 rcases U3 E.out with k1|⟨k1,t⟩|⟨k1,t,B⟩|⟨k1,t,B,T⟩
 .rw[k1]at b7;go_quiet (fail);go_wp2_with fail
  apply (oy m.d (F.e) r f u x).mono;rintro e w2⟨rfl,G,a⟩;go_wp2_with fail
  go_end0;exact⟨rfl,G,(y.e).j a⟩
 .rw[k1]at b7;have C:= aK t;go_quiet (fail);go_wp2_with fail
  apply (oy m.d (F.e) r f u x).mono;rintro e w2⟨rfl,G,a⟩;go_wp2_with fail
  go_end0;exact⟨rfl,G,(y.e).j a⟩
 .rw[k1]at b7;have C:= aR t;go_quiet (fail);go_wp2_with fail
  apply (oy m.d (F.e) r f u x).mono;rintro e w2⟨rfl,G,a⟩;go_wp2_with fail
  go_end0;exact⟨rfl,G,(y.e).j a⟩
 .rw[k1]at b7;have C:= aR t;rw[<-B]at b3;go_quiet (fail);go_wp2_with fail
  apply (oy m.d (F.e) r f u x).mono;rintro e w2⟨rfl,G,a⟩;go_wp2_with fail
  go_end0;exact⟨rfl,G,(y.e).j a⟩
def QV{q:Nat}{k:K}{m:M}(h:bt w c q k)(D:0<=k.io)(r:k.io<=7)(L:gv m.v)(N:k.n<1000000000000)(h0:-4611686018427387904<=k.qN+k.Ff)(h1:k.qN+k.Ff<=4611686018427387904)(hs:¬m.v<k.gZ k.io)(P:k.ah m):
  Calls prog 193 #[tp c,Wire.M.ab m] w λe E=>e=.returned (.tuple #[])/\bt E c q ((({k with fY:=lP k.fY ⟨k.io,m.d,m.v,k.qN+k.Ff⟩}:K)).ab m.d m.v)/\Ob [c,q] w E:=by
 have g1:decide (m.v<k.gZ k.io)=false:=aK hs;have u:=FH w m;have F:=h.ab (u.b.mono (aa _));have Q:=h.H.1;have R:Hid (k.ah m):=P;unfold Vj at *;unfold Wire.M.ab

 go_enter func193,ntmps193;go_wp2_with fail
 generalize (w.alloc (.cells #[iI m.k,iI m.c,iI m.n,iI m.e,iI m.s,iI m.o,iI m.v,.bool m.l,.string m.d] 129)).alloc (.cells #[.string m.d,iI m.v] 41)=w1 at *;have hL:=λj=>((F.e (j:=j)).ah D r).1;have d1:=F.c1;have d5:=F.c5;have S:=F.an;have x:=F.av;have T:=F.ap;have U:=F.ai;have V:=F.al;have ⟨b3,b4,b7,y,z,_,G⟩:=u





 let ⟨k1,X,Y,k4⟩:=R.out
 have g2:decide (k.ft<=m.v)=true:=aR X;rw[k1]at b7;rw[<-Y]at b3;rw[<-k4]at b4;go_quiet (fail);go_wp2_with fail
 go_quiet (fail);go_wp2_with fail
 generalize t:(w1.drewN _).drewN _=W;have f:bt W c q k:=by rw[<-t];exact(F.e).e
 have A:Ob [c,q] w W.drew:=by rw[<-t];exact(((Ob.O u.b).e).e).I
 have y:cC W (aA (w.heap.size+1) 0) (.string m.d):=by rw[<-t];exact y
 have z:cC W (aA (w.heap.size+1) 1) (iI m.v):=by rw[<-t];exact z
 have G:W.heap.size=w.heap.size+2:=by rw[<-t];exact G
 have d1:=f.c1;have d5:=f.c5;have x:=f.av;have g:=Cache.MQ k.io m.d m.v (k.qN+k.Ff) f.I.i f.I.s;go_still_tail 18,(by kernel_rfl);go_wp2_with fail
 apply g.mono;rintro e w3⟨rfl,B,p⟩;have J:=p.b (w.heap.size+1) (by show _<W.heap.size;omega) (by simp;omega);have z0:= (aj (a:=(aA (w.heap.size+1) 0)) J).trans y;have z1:= (aj (a:=(aA (w.heap.size+1) 1)) J).trans z;go_wp2_with fail
 apply (oy m.d (f.I.ag B (Ns f.s) p) D r L N).mono;rintro e w4⟨rfl,G2,C⟩;go_wp2_with fail
 go_end0;exact⟨rfl,G2,(A.j ((Ob.ae p).Z (by simp))).j C⟩
def Vn{q:Nat}{k:K}(m:M)(h:bt w c q k)(f:0<=k.io)(a:k.io<=7)(g:gv m.v)(i:k.n<1000000000000)(h0:-4611686018427387904<=k.qN+k.Ff)(l:k.qN+k.Ff<=4611686018427387904):
  Calls prog 193 #[tp c,Wire.M.ab m] w λe j=>e=.returned (.tuple #[])/\bt j c q (k.a3 m)/\Ob [c,q] w j:=by
 unfold K.a3;by_cases b:m.v<k.gZ k.io;rw[az b];exact Vp h f a b;rw[ax b];by_cases d:k.ah m;rw[az d];exact QV h f a g i h0 l b d;rw[ax d];exact LG h f a g i b d
def f8(m:M):List Value:=[.int .i64 m.k,.int .i64 m.c,.int .i64 m.n,.int .i64 m.e,.int .i64 m.s,.int .i64 m.o,.int .i64 m.v,.bool m.l,.string m.d]
def dK(l:List M):List Value:=l.flatMap f8
def iy(w:World)(B:Nat)(v:Value)(l:List M):Prop:=w.ownsRow B 129 9 v l.length (dK l)
theorem fP(m:M):(f8 m).length=9:=rfl
def kT(m:M)(l:List M):dK (m::l)=f8 m++dK l:=by simp[dK]
def IU(m:M)(l:List M):dK (l++[m])=dK l++f8 m:=by simp[dK]
def ij(l:List M):(dK l).length=l.length*9:=by
 induction l with
 |nil=>rfl
 |cons m l a=>rw[kT,aM,a,bT,fP];omega
def jZ{m:M}:∀u∈f8 m,u.oneCell'=true:=by
 intro u a;simp[f8]at a;rcases a with rfl|rfl|rfl|rfl|rfl|rfl|rfl|rfl|rfl<;>rfl
def Bv(l:List M):∀u∈dK l,u.oneCell'=true:=by
 intro u a;simp only[dK,oU]at a;let ⟨m,_,h⟩:=a
 exact jZ u h
def Bu:∀(l:List M) (i j:Nat) (h:i<l.length),j<9->(dK l)[i*9+j]?=(f8 l[i])[j]?
 |m::l,0,j,_,a=>by rw[kT,Ga,b9,bn (by rw[fP];exact a)];rfl
 |m::l,i+1,j,h,a=>by
  rw[kT,aQ (by rw[fP];omega)];have e:(i+1)*9+j-(f8 m).length=i*9+j:=by rw[fP];omega
  rw[e];exact Bu l i j (by simpa using h) a
def iy.h:iy w B (.slice none 0 0) []:=jE _ _ _ _
def iy.j{w':A1}{v:Bg}(h:iy w B v l)(a:Below w.heap.size w w'):iy w' B v l:=Cache.bD h a
def iy.H{B':Nat}{v:Bg}(h:iy w B v l)(e:B'<=B):iy w B' v l:=by
 refine⟨h.1,?_⟩;rcases h.2 with h|⟨g,a,b,c,f,d⟩
 exact .inl h;exact .inr ⟨g,a,b,c,by omega,d⟩
def kw:(prog.info? 129).map (λi=>(i.zero,i.size,i.bytes))=some (some (.agg #[iI 0,iI 0,iI 0,iI 0,iI 0,iI 0,iI 0,.bool false,.string ⟨#[]⟩]),9,80):=by kernel_rfl
def II{m:M}:Instr.fill (λi=>some (i*9,9)) ((Array.range (1*9)).map ((Value.agg #[iI 0,iI 0,iI 0,iI 0,iI 0,iI 0,iI 0,.bool false,.string ⟨#[]⟩]).cells[· % (Value.agg #[iI 0,iI 0,iI 0,iI 0,iI 0,iI 0,iI 0,.bool false,.string ⟨#[]⟩]).cells.size]!)) [(0,Wire.M.ab m)]=some #[iI m.k,iI m.c,iI m.n,iI m.e,iI m.s,iI m.o,iI m.v,.bool m.l,.string m.d]:=by
 have h0:Array.range 0=#[]:=rfl;simp[Instr.fill,Wire.M.ab,Value.cells,Array.range_succ,h0]
def ej{f:Array Oper}{rest:List Oper}{o:Oper}{a:Act}{Q:Exit->Act->A1->Prop}(i:o.guard=none)(t:Nat)(j:o.op=.buildSlice 141 1 #[(0,.tmp t)])(m:M)(p:a.eval (.tmp t)=Wire.M.ab m)(h:wpList prog f Q rest (a.put o.dst (.slice (some (aA w.heap.size 0)) 1 1)) (w.alloc (.cells #[iI m.k,iI m.c,iI m.n,iI m.e,iI m.s,iI m.o,iI m.v,.bool m.l,.string m.d] 129))):wpList prog f Q (o::rest) a w:=by
 obtain⟨q,r,g,b,u⟩:=dw kw;refine wpList_buildSlice i 141 129 1 _ j _ q _ underlying141 r g (by rw[b];decide) (by rw[b];decide) ?_ h;rw[b];simp only[i7,cE,jw,p];exact II
def iy.one(w:A1)(m:M)(a:B<=w.heap.size):iy (w.alloc (.cells #[iI m.k,iI m.c,iI m.n,iI m.e,iI m.s,iI m.o,iI m.v,.bool m.l,.string m.d] 129)) B (.slice (some (aA w.heap.size 0)) 1 1) [m]:=by
 refine⟨by rw[ij],.inr ⟨w.heap.size,1,_,rfl,a,bw w _,aa _,by unfold maxLen;omega,rfl,rfl⟩⟩
def K.ao(k:K)(m:M):K:=if k.h=true/\k.io=m.o then {k with fY:=qm m.o k.fY,ft:=mx k.ft m.v} else {k with fY:=qm m.o k.fY}
def K.a5(k:K)(m:M):M:=⟨4,k.id,0,m.e,0,m.o,m.v,false,⟨#[]⟩⟩
variable{k:K}
def Lg{q:Nat}(m:M)(h:bt w c q k){k':K}(HK:Hid (k.ao m=k')):
  Calls prog 189 #[tp c,Wire.M.ab m] w λe N=>∃v,e=.returned v/\iy N w.heap.size v [k.a5 m]/\bt N c q k'/\Ob [c,q] w N:=by
 have aS:=h.H.1;have F:=h.h (.cells #[iI m.k,iI m.c,iI m.n,iI m.e,iI m.s,iI m.o,iI m.v,.bool m.l,.string m.d] 129);have hB:Below w.heap.size w (w.alloc (.cells #[iI m.k,iI m.c,iI m.n,iI m.e,iI m.s,iI m.o,iI m.v,.bool m.l,.string m.d] 129)):=(au _ _).alloc (aa _) _;have hx:(w.alloc (.cells #[iI m.k,iI m.c,iI m.n,iI m.e,iI m.s,iI m.o,iI m.v,.bool m.l,.string m.d] 129)).cell? (aA w.heap.size 3)=some (iI m.e)/\(w.alloc (.cells #[iI m.k,iI m.c,iI m.n,iI m.e,iI m.s,iI m.o,iI m.v,.bool m.l,.string m.d] 129)).cell? (aA w.heap.size 5)=some (iI m.o)/\(w.alloc (.cells #[iI m.k,iI m.c,iI m.n,iI m.e,iI m.s,iI m.o,iI m.v,.bool m.l,.string m.d] 129)).cell? (aA w.heap.size 6)=some (iI m.v)/\w.heap.size<(w.alloc (.cells #[iI m.k,iI m.c,iI m.n,iI m.e,iI m.s,iI m.o,iI m.v,.bool m.l,.string m.d] 129)).heap.size:=by simp
 unfold Wire.M.ab;clear h;go_enter func189,ntmps189;go_wp2_with fail
 generalize w.alloc (.cells #[.int .i64 m.k,.int .i64 m.c,.int .i64 m.n,.int .i64 m.e,.int .i64 m.s,.int .i64 m.o,.int .i64 m.v,.bool m.l,.string m.d] 129)=w1 at *;obtain⟨x3,x5,x6,a0⟩:=hx;have x:=Cache.G8 m.o F.I.i F.I.s;go_region_with (go_at_call 230;refine x.mono ?_;rintro e w2⟨rfl,P,y⟩)
 have G:=F.I.ag P (K9 F.s) y;have eb:=y.b w.heap.size (by show _<w1.heap.size;omega) (by simp;omega);have C:w2.cell? (aA w.heap.size 3)=some (iI m.e):=(aj (a:=(aA w.heap.size 3)) eb).trans x3;have D:w2.cell? (aA w.heap.size 5)=some (iI m.o):=(aj (a:=(aA w.heap.size 5)) eb).trans x5;have E:w2.cell? (aA w.heap.size 6)=some (iI m.v):=(aj (a:=(aA w.heap.size 6)) eb).trans x6;have a1:=y.i;have hO:Ob [c,q] w w2:=((Ob.O hB).I).j ((Ob.ae y).Z (by simp));clear F hB x3 x5 x6 x P y eb;have r:=λj=>(sR (G.e (j:=j))).mono (R':=λe N=>e=.returned (.bool k.h)/\∃n,N=(w2.drewN j).drewN n) (λe N h=>⟨h.1,0,h.2⟩);have d0:=G.c0;have d5:=G.c5;have A:=G.ap;dsimp only at d0 d5 A;have hf:=G.ae;obtain⟨b,hb⟩:∃b,k.h=b:=⟨_,rfl⟩;have Q:Hid (k.h=b):=hb;rw[hb]at r;clear hb;by_cases hc:b=true/\k.io=m.o
 .have hk:Hid (k' = {k with fY:=qm m.o k.fY,ft:=mx k.ft m.v}):=HK.out.symm.trans (az ⟨Q.out.trans hc.1,hc.2⟩);obtain⟨rfl,hc⟩:=hc;rw[hc]at d5;clear hc;go_wp2_with fail
  go_quiet (first|(go_at_call 141;refine Calls.quiet_of (r _)));go_wp2_with fail
  generalize p:w2.drewN _=W;have t:bt W c q {k with fY:=qm m.o k.fY}:=by rw[<-p];exact G.e
  have f:Ob [c,q] w W:=by rw[<-p];exact hO.e
  have C:W.cell? (aA w.heap.size 3)=some (iI m.e):=by rw[<-p];exact C
  have D:W.cell? (aA w.heap.size 5)=some (iI m.o):=by rw[<-p];exact D
  have E:W.cell? (aA w.heap.size 6)=some (iI m.v):=by rw[<-p];exact E
  clear p;have L:=t.ap;have R:=t.ae 11;dsimp only at L;go_still_tail 10,(by kernel_rfl);generalize hg:(if k.ft<m.v then m.v else k.ft)=g;obtain rfl:mx k.ft m.v=g:=hg;have G4:=t.I.a3 (mx k.ft m.v);have S:=f.I.H (q:=c) (i:=11) (by simp) (u:=iI (mx k.ft m.v));have ba:c≠w.heap.size:=by omega
  have z3:(W.drew.setCell (aA c 11) (iI (mx k.ft m.v))).cell? (aA w.heap.size 3)=some (iI m.e):=(ak _ _ _ _ (by intro e;injection e with e;omega)).trans C;have z5:(W.drew.setCell (aA c 11) (iI (mx k.ft m.v))).cell? (aA w.heap.size 5)=some (iI m.o):=(ak _ _ _ _ (by intro e;injection e with e;omega)).trans D;have z6:(W.drew.setCell (aA c 11) (iI (mx k.ft m.v))).cell? (aA w.heap.size 6)=some (iI m.v):=(ak _ _ _ _ (by intro e;injection e with e;omega)).trans E;have T:W.drew.frozen? (aA c 11)=false:=R;have U:W.drew.cell? (aA c 11)=some (iI k.ft):=L;go_wp2_with fail
  have G5:bt (W.setCell (aA c 11) (iI (mx k.ft m.v))).drew c q {k with fY:=qm m.o k.fY,ft:=mx k.ft m.v}:=G4;have aI:Ob [c,q] w (W.setCell (aA c 11) (iI (mx k.ft m.v))).drew:=S;have C:(W.setCell (aA c 11) (iI (mx k.ft m.v))).drew.cell? (aA w.heap.size 3)=some (iI m.e):=z3;have D:(W.setCell (aA c 11) (iI (mx k.ft m.v))).drew.cell? (aA w.heap.size 5)=some (iI m.o):=z5;have E:(W.setCell (aA c 11) (iI (mx k.ft m.v))).drew.cell? (aA w.heap.size 6)=some (iI m.v):=z6;clear G4 S z3 z5 z6 T U r hf d5 A R L;generalize (W.setCell ⟨c,11,none⟩ (.int .i64 (mx k.ft m.v))).drew=W2 at *;clear t f;have t:=G5;have f:=aI;have V:=t.c0;dsimp only at V;have X:=f.i;go_still_tail 11,(by kernel_rfl);refine ej rfl 43 rfl ⟨4,k.id,0,m.e,0,m.o,m.v,false,⟨#[]⟩⟩ rfl ?_;have J:=iy.one W2 (B:=w.heap.size) ⟨4,k.id,0,m.e,0,m.o,m.v,false,⟨#[]⟩⟩ (by show _<=W2.heap.size;omega);have Y:=(t.h (.cells #[iI 4,iI k.id,iI 0,iI m.e,iI 0,iI m.o,iI m.v,.bool false,.string ⟨#[]⟩] 129)).I;have z:=(f.h (.cells #[iI 4,iI k.id,iI 0,iI m.e,iI 0,iI m.o,iI m.v,.bool false,.string ⟨#[]⟩] 129)).I;dsimp only at J;go_wp2_with fail
  go_ret;exact⟨_,rfl,J,by rw[hk.out];exact Y,z⟩
 .have hk:Hid (k' = {k with fY:=qm m.o k.fY}):=HK.out.symm.trans (ax λe=>hc ⟨Q.out.symm.trans e.1,e.2⟩);cases b with
  |false=>
   clear hc;go_wp2_with fail
   go_quiet (first|(go_at_call 141;refine Calls.quiet_of (r _)));go_wp2_with fail
   generalize p:w2.drewN _=W;have t:bt W c q {k with fY:=qm m.o k.fY}:=by rw[<-p];exact G.e
   have f:Ob [c,q] w W:=by rw[<-p];exact hO.e
   have C:W.cell? (aA w.heap.size 3)=some (iI m.e):=by rw[<-p];exact C
   have D:W.cell? (aA w.heap.size 5)=some (iI m.o):=by rw[<-p];exact D
   have E:W.cell? (aA w.heap.size 6)=some (iI m.v):=by rw[<-p];exact E
   clear p;have V:=t.c0;dsimp only at V;have X:=f.i;clear r hf d5 A;go_still_tail 11,(by kernel_rfl);refine ej rfl 43 rfl ⟨4,k.id,0,m.e,0,m.o,m.v,false,⟨#[]⟩⟩ rfl ?_;have J:=iy.one W (B:=w.heap.size) ⟨4,k.id,0,m.e,0,m.o,m.v,false,⟨#[]⟩⟩ (by show _<=W.heap.size;omega);have Y:=(t.h (.cells #[iI 4,iI k.id,iI 0,iI m.e,iI 0,iI m.o,iI m.v,.bool false,.string ⟨#[]⟩] 129)).I;have z:=(f.h (.cells #[iI 4,iI k.id,iI 0,iI m.e,iI 0,iI m.o,iI m.v,.bool false,.string ⟨#[]⟩] 129)).I;dsimp only at J;go_wp2_with fail
   go_ret;exact⟨_,rfl,J,by rw[hk.out];exact Y,z⟩
  |true=>
   have ad:¬k.io=m.o:=λe=>hc ⟨rfl,e⟩;have bc:(k.io==m.o)=false:=by simpa using ad
   clear hc ad;go_wp2_with fail
   go_quiet (first|(go_at_call 141;refine Calls.quiet_of (r _)));go_wp2_with fail
   generalize p:w2.drewN _=W;have t:bt W c q {k with fY:=qm m.o k.fY}:=by rw[<-p];exact G.e
   have f:Ob [c,q] w W:=by rw[<-p];exact hO.e
   have C:W.cell? (aA w.heap.size 3)=some (iI m.e):=by rw[<-p];exact C
   have D:W.cell? (aA w.heap.size 5)=some (iI m.o):=by rw[<-p];exact D
   have E:W.cell? (aA w.heap.size 6)=some (iI m.v):=by rw[<-p];exact E
   clear p;have V:=t.c0;dsimp only at V;have X:=f.i;clear r hf d5 A;go_still_tail 11,(by kernel_rfl);refine ej rfl 43 rfl ⟨4,k.id,0,m.e,0,m.o,m.v,false,⟨#[]⟩⟩ rfl ?_;have J:=iy.one W (B:=w.heap.size) ⟨4,k.id,0,m.e,0,m.o,m.v,false,⟨#[]⟩⟩ (by show _<=W.heap.size;omega);have Y:=(t.h (.cells #[iI 4,iI k.id,iI 0,iI m.e,iI 0,iI m.o,iI m.v,.bool false,.string ⟨#[]⟩] 129)).I;have z:=(f.h (.cells #[iI 4,iI k.id,iI 0,iI m.e,iI 0,iI m.o,iI m.v,.bool false,.string ⟨#[]⟩] 129)).I;dsimp only at J;go_wp2_with fail
   go_ret;exact⟨_,rfl,J,by rw[hk.out];exact Y,z⟩
def Lf{q:Nat}(m:M)(h:bt w c q k):
  Calls prog 189 #[tp c,Wire.M.ab m] w λe a=>∃v,e=.returned v/\iy a w.heap.size v [k.a5 m]/\bt a c q (k.ao m)/\Ob [c,q] w a:=Lg m h rfl
end Wld
open Wire (uJ i5)
namespace Net
variable{B:Nat}{t:Bi}{a b c:A1}
def cF(a:List (Int×ByteArray)):List Value:=a.flatMap λp=>[.int .i64 p.1,.string p.2]
def jB(a:List (Int×Bh)):(cF a).length=a.length*2:=by
 induction a with
 |nil=>rfl
 |cons p a b=>
  have e:cF (p::a)=[iI p.1,.string p.2]++cF a:=by simp[cF]
  rw[e,aM,b,bT];simp;omega
def Hh(a:List (Int×Bh))(p:Int×Bh):cF (a++[p])=cF a++[iI p.1,.string p.2]:=by simp[cF]
def Kx(b:List (Int×Bh)):∀u∈cF b,u.oneCell'=true:=by
 intro u a;simp only[cF,oU]at a;let ⟨p,_,h⟩:=a
 simp at h;rcases h with rfl|rfl<;>rfl
def A9:∀(a:List (Int×Bh)) (k:Nat) (h:k<a.length),(cF a)[k*2]?=some (iI a[k].1)/\(cF a)[k*2+1]?=some (.string a[k].2)
 |p::a,0,_=>by
  have e:cF (p::a)=[iI p.1,.string p.2]++cF a:=by simp[cF]
  rw[e];simp
 |p::a,k+1,h=>by
  have e:cF (p::a)=[iI p.1,.string p.2]++cF a:=by simp[cF]
  rw[e,aQ (by simp;omega),aQ (by simp;omega)];have b:(k+1)*2-[Value.int .i64 p.1,Value.string p.2].length=k*2:=by simp;omega
  have c:(k+1)*2+1-[Value.int .i64 p.1,Value.string p.2].length=k*2+1:=by simp;omega
  rw[b,c];simpa using (A9 a k (by simpa using h))
structure ik(B:Nat)(t:TypeId)(q:Nat)(w w':World):Prop where
 x:w'.os=w.os
 p:w'.tape=w.tape
 j:w'.output=w.output
 h:w.heap.size<=w'.heap.size
 b:∀k,k<w.heap.size->k≠q->(k<B\/∀c f,w.heap[k]?≠some (.cells c t f))->w'.heap[k]?=w.heap[k]?
 o:∀i,q<w.heap.size->q<B->(i<12405\/12406<i)->w'.cell? ⟨q,i,none⟩=w.cell? ⟨q,i,none⟩
 s:∀i,q<w.heap.size->q<B->w'.frozen? ⟨q,i,none⟩=w.frozen? ⟨q,i,none⟩
 u:∀e,q<B->(∃cs f,w.heap[q]?=some (.cells cs e f))->∃cs f,w'.heap[q]?=some (.cells cs e f)
def ik.O{q:Nat}{w:A1}:ik B t q w w:=⟨rfl,rfl,rfl,aa _,λ_ _ _ _=>rfl,λ_ _ _ _=>rfl,λ_ _ _=>rfl,λ_ _ h=>h⟩
def ik.V{q:Nat}(h:ik B t q a b)(k:ik B t q b c):ik B t q a c:=
 ⟨k.x.trans h.x,k.p.trans h.p,k.j.trans h.j,aP h.h k.h,λi g d l=>by
  have e:=h.b i g d l;rw[k.b i (aO g h.h) d (by rw[e];exact l),e],
  λi d f g=>(k.o i (aO d h.h) f g).trans (h.o i d f g),λi d f=>(k.s i (aO d h.h) f).trans (h.s i d f),λe f l=>k.u e f (h.u e f l)⟩
def ik.I{q:Nat}(h:ik B t q a b)(l:c.os=b.os)(m:c.tape=b.tape)(n:c.output=b.output)(hs:b.heap.size<=c.heap.size)(i:∀k,k<b.heap.size->(k<B\/∀d f,b.heap[k]?≠some (.cells d t f))->c.heap[k]?=b.heap[k]?):ik B t q a c:=
 h.V ⟨l,m,n,hs,λk o _ e=>i k o e,λ_ j g _=>aj (i q j (.inl g)),λ_ j g=>aJ (i q j (.inl g)),λ_ g e=>e.imp λ_ e=>e.imp λ_ e=>(i q (am.1 e).1 (.inl g)).trans e⟩
def ik.e{q:Nat}(h:ik B t q a b){o:Obj}:ik B t q a (b.alloc o):=
 h.I rfl rfl rfl (by simp) (λi c _=>fJ b o i c)
def ik.ac{q:Nat}(h:ik B t q a b):ik B t q a b.drew:=⟨h.x,h.p,h.j,h.h,h.b,h.o,h.s,h.u⟩
def ik.H{q i:Nat}(h:ik B t q a b){u:Bg}(h0:12405<=i)(j:i<=12406):ik B t q a (b.setCell (aA q i) u):=
 h.V ⟨rfl,rfl,rfl,by simp,λk _ d _=>aX b (aA q i) u k d,λk _ _ l=>ak _ _ _ _ (by intro e;injection e with _ e;omega),λk _ _=>bb _ _ _ _,λe _ c=>by
  obtain⟨g,f,c⟩:=c;exact⟨g.setIfInBounds i u,f,by simp[World.setCell,bU,c]⟩⟩
def ik.ab{q s n:Nat}{v:Bg}{xs:List Bg}(h:ik B t q a b)(i:b.ownsRow B t s v n xs)(d:b.grownBy c v.ownBlock):ik B t q a c:=
 h.I d.os d.tape d.output d.size (λk j f=>d.block k j (λe=>by
  rcases i.2 with⟨rfl,_⟩|⟨g,l,m,rfl,p,o,_⟩
  simp[Value.ownBlock]at e;simp[Value.ownBlock]at e;subst e;rcases f with f|f
  omega;exact f _ _ o))
structure fm(w:World)(B q:Nat)(ps:List (Int×ByteArray)):Prop where
 b:∃v,w.cell? ⟨q,12405,none⟩=some v/\w.ownsRow B 201 2 v ps.length (cF ps)
 o:∃l,w.cell? ⟨q,12406,none⟩=some (.int .i64 l)
 h:∀i,w.frozen? ⟨q,i,none⟩=false
 s:q<B
 p:B<=w.heap.size
 j:ps.length<=200
def yh:(prog.info? 201).map (λi=>(i.zero,i.size,i.bytes))=some (some (.agg #[iI 0,.string ⟨#[]⟩]),2,24):=by kernel_rfl
end Net
namespace Wire
def Us{P:Bo}{b:Array Oper}{o:Oper}{a:Act}{w:A1}{K:Act->A1->Prop}{Q:Exit->Act->A1->Prop}{E:Prop}(c:o.guard=none)(h:Oper.wp P o a w K Q):if Region.wanted o (yielded b a.tmps)=true then Oper.wp P o a w K Q else E:=by
 rw[az (by simp[Region.wanted,c])];exact h
end Wire
end Go.Proofs.YtbebfliimjjohabGreatDoor
