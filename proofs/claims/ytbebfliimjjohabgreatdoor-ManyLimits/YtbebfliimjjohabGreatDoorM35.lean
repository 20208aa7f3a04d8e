/- Parts of the proof. -/
import Derived.Test.YtbebfliimjjohabGreatDoorM34
import Derived.Laws.CopyOwn
set_option maxRecDepth 100000
set_option maxHeartbeats 8000000
set_option linter.all false
open Go.Proofs.Tryz
namespace Go.Proofs.YtbebfliimjjohabGreatDoor open Gen (la on tk)
open Go.RowKit Go.Maps
open Lease (Ob gv gV cL ji fV fg dA bX eE mx)
open Cache (tp bp bD)
open Wal (R dE bW Oq Fw cY)
open Num (M iC dD gy)
open Net (fm ik cF)
namespace Wld
variable{now b:Int}{l:List Int}{m:M}{k C B:Nat}{f:Nat->Int}{A A':Wa}{w w' wr:A1}
def uV:(prog.info? 45).map (λi=>(i.zero,i.size,i.bytes))=some (some (.agg #[iI 0,iI 0,iI 0,.string ⟨#[]⟩,iI 0,.bool false,.bool false,iI 0,iI 0,iI 0]),10,80):=by kernel_rfl
def Qk(e:Ev):∀u∈eZ e,u.oneCell'=true:=by
 intro u a;unfold eZ at a;simp at a;rcases a with rfl|rfl|rfl|rfl|rfl|rfl|rfl|rfl|rfl|rfl<;>rfl
def Ym{e:Ev}:Instr.fill (λi=>some (i*10,10)) ((Array.range (1*10)).map ((Value.agg #[iI 0,iI 0,iI 0,.string ⟨#[]⟩,iI 0,.bool false,.bool false,iI 0,iI 0,iI 0]).cells[· % (Value.agg #[iI 0,iI 0,iI 0,.string ⟨#[]⟩,iI 0,.bool false,.bool false,iI 0,iI 0,iI 0]).cells.size]!)) [(0,.agg (eZ e).toArray)]=some (eZ e).toArray:=by
 have h0:Array.range 0=#[]:=rfl;simp[Instr.fill,eZ,Value.cells,Array.range_succ,h0]
def VD{o:Oper}{a:Act}{K:Act->A1->Prop}{Q:Exit->Act->A1->Prop}(t:Nat)(d:o.op=.buildSlice 38 1 #[(0,.tmp t)])(e:Ev)(f:a.eval (.tmp t)=.agg (eZ e).toArray)(h:K (a.put o.dst (.slice (some (aA w.heap.size 0)) 1 1)) (w.alloc (.cells (eZ e).toArray 45))):o.wp prog a w K Q:=by
 obtain⟨g,i,c,b,j⟩:=dw uV;refine wp_buildSlice 38 45 1 _ d _ g _ underlying38 i c (by rw[b];decide) (by rw[b];decide) ?_ h;rw[b];simp only[i7,cE,jw,f];exact Ym
def Yl(w:A1)(e:Ev):∀j u,(eZ e)[j]?=some u->(w.alloc (.cells (eZ e).toArray 45)).cell? (((aA w.heap.size 0):Addr).add j)=some u:=by
 intro j u a;rw[Net.E8,bS _ _ _ _ _ _ (bw w _),b9,bo];exact a
def LW{X:Type}(f:Nat->X)(k:Nat)(a b:X):bB (bB f k a) k b=bB f k b:=by
 funext j;unfold bB;split<;>rfl
def Bj{s:Wd}{f:Nat}{X:Array Bg}{c:K}{er:Int}(h:bM w A s)(hk:k<s.n)(hB:f9 s C)(hC:C<=10000000000)(ck:KB c (C+2))(bO:er≠0->c=(s.aI k).k)(ds:∀args w,(callFunc f args).run prog w=.ok (.enter f args) w)(E:Calls prog f (#[.pointer (some (aA A.G (k*4)))]++X) w λe w'=>e=.returned (eV er)/\Hx w w' A s k c):
  Calls prog 40 #[tp A.Q,iI k,.func (.func f) #[] X] w λe w'=>e=.returned (eV er)/\bM w' A (if er=0 then s.ao k c else s)/\Fz A s w A (if er=0 then s.ao k c else s) w':=by
 have hh:=lG k h;have bR:s.aq k=true:=by
  unfold Wd.aq;exact aR ⟨by omega,by omega⟩
 rw[bR]at hh;have cl:=h.b.e;have dt:(0:Int)<=(k:Int):=by omega
 have dv:(k:Int)<(s.n:Int):=by omega
 have n4:=h.B;have HC:Hid (er≠0->c=(s.aI k).k):=bO;clear bO bR;by_cases he:er=0
 .subst he;rw[az rfl];rw[show eV 0=.nilIface from rfl]at E⊢;have dy:IntKind.i64.wrap (s.bK+1)=s.bK+1:=jJ (by have:=hB.J;omega) (by have:=hB.O;omega);go_enter func40,ntmps40;go_wp2_with fail
  refine hh.mono ?_;rintro e w2⟨rfl,rfl⟩;go_wp2_with fail
  refine E.mono ?_;rintro e w3⟨rfl,B3⟩;obtain⟨Y,x2⟩:=B3;have b1:=Y.b.j;have co:=Y.b.b 12411;obtain⟨y1,y2⟩:=Y.j (s.bK+1);have b2:(s.ab k c).bK=s.bK:=rfl;rw[b2]at b1;clear E hh h;go_upto_region 8 with fail
  generalize w3.setCell ⟨A.Q,12411,none⟩ (.int .i64 (s.bK+1))=w4 at *;obtain⟨v,hv,P⟩:=y1.x;obtain⟨ao,cp,cs,ct,cv⟩:=Net.cZ P;subst cs;have d3:=(y1.e k hk).j;have fG:=y1.C (k*4+3);obtain⟨U,z2⟩:=y1.ai hk s.ba.length;have cw:({s.ab k c with bK:=s.bK+1}:Wd).ba=s.ba:=rfl;rw[cw]at hv P;clear ct cv b1 co cl;go_upto_region 9 with fail
  generalize w4.setCell ⟨A.G,k*4+3,none⟩ (.int .i64 (s.ba.length:Nat))=r at *;obtain⟨v5,F,l⟩:=U.x;have z:=U.b.j;have d2:=(U.e k hk).o;dsimp only at F l z d2;rw[cy]at d2;dsimp only at d2;obtain⟨i0,hi,cA,cG,cM⟩:=dw uV;obtain⟨a5,c5,cT,cW,_⟩:=Net.cZ l;subst cT;have dz:=hB.Z;have da:((s.ab k c).aI k).fN=(s.aI k).fN:=by unfold Wd.ab;dsimp only;rw[cy]
  rw[da]at d2;obtain⟨ne,cb⟩:∃ne:Ev,ne=⟨k,0,0,⟨#[]⟩,0,false,false,s.bK+1,0,(s.aI k).fN⟩:=⟨_,rfl⟩;have a1:=U.I;have cc:=U.u.H;have M:∀g,(Value.slice a5 s.ba.length c5).ownBlock=some g->g≠A.Q/\g≠A.G:=λg hg=>⟨by have:=(dg l hg).1;omega,(dg l hg).2.j U.u (by decide)⟩;have ad:(s.ab k c).ba=s.ba:=rfl;refine Gen.start (S:=λw'=>w'.cell? (aA A.Q 12410)=some (.slice a5 s.ba.length c5)/\w'.cell? (aA A.Q 12411)=some (iI (s.bK+1))/\w'.cell? (aA A.G (k*4+2))=some (iI (s.aI k).fN)) (by kernel_rfl) ⟨F,z,d2⟩ (λd=>?_);refine tk 0 17 d ?_;go_frame;refine tk 1 2 d ?_;go_frame;refine tk 2 3 d ?_;go_frame;refine tk 3 4 d ?_;go_frame;refine tk 4 16 d ?_;go_frame;refine tk 5 14 d ?_;go_frame;refine tk 6 7 d ?_;go_frame;refine tk 7 8 d ?_;go_frame;refine tk 8 9 d ?_;go_frame;refine tk 9 14 d ?_;go_frame;refine tk 10 11 d ?_;go_frame;refine tk 11 12 d ?_;go_frame;refine tk 12 13 d ?_;go_frame;refine tk 13 14 d ?_;go_frame;refine tk 14 15 d ?_;go_frame;refine on 15 λK hK=>?_;refine VD 55 rfl ne (by rw[cb];rfl) ?_;have b6:Below r.heap.size r (r.drew.alloc (.cells (eZ ne).toArray 45)):=by
   have:=((au r.drew.heap.size r.drew).alloc (aa _) (.cells (eZ ne).toArray 45));exact⟨this.os,this.tape,this.output,this.size,this.block⟩
  have q1:=(b6.cell (p:=(aA A.Q 12410)) a1).trans F;have q2:=(b6.cell (p:=(aA A.Q 12411)) a1).trans z;have q3:=(b6.cell (p:=(aA A.G (k*4+2))) cc).trans d2;refine hK.out _ _ ⟨q1,q2,q3⟩ (λd=>?_);clear hK K;try simp only[Act.put,ar,aD,aC]
  refine on 16 λK hK=>?_;refine App.nD _ _ rfl underlying38 hi cA cG cM rfl (by decide) rfl (rH l.drew _) (aA r.heap.size 0) 1 1 rfl rfl (Yl r.drew ne) (Qk ne) (by rw[ad];unfold maxLen;omega) (by rw[ad];omega) (by have:r.drew.heap.size=r.heap.size:=rfl;simp;omega) ?_;intro D t L N R;obtain⟨a7,c7,dd,_,_⟩:=Net.cZ L;have dM:=N.size;have dN:(r.drew.alloc (.cells (eZ ne).toArray 45)).heap.size=r.heap.size+1:=by simp
  have V:∀y,y<r.heap.size->(Value.slice a5 s.ba.length c5).ownBlock≠some y->t.heap[y]?=r.heap[y]?:=λy hy hn=>(N.block y (by omega) (λe=>hn e.symm)).trans (fJ r.drew _ y hy);have m:=V A.Q a1 (λe=>(M _ e).1 rfl);have aS:=V A.G cc (λe=>(M _ e).2 rfl);have r1:=(aj (a:=(aA A.Q 12410)) m).trans F;have r2:=(aj (a:=(aA A.Q 12411)) m).trans z;have r3:=(aj (a:=(aA A.G (k*4+2))) aS).trans d2;have df:t.frozen? (aA A.Q 12410)=false:=(aJ (a:=(aA A.Q 12410)) m).trans (U.b.b 12410);have HX:Hid (bM (t.setCell (aA A.Q 12410) D) A (s.ag k c)/\Fz A s w2 A (s.ag k c) (t.setCell (aA A.Q 12410) D)):=by
   have o8:∀y,y≠A.Q->(t.setCell (aA A.Q 12410) D).heap[y]?=t.heap[y]?:=λy hy=>aX t (aA A.Q 12410) D y hy;have e1:∀y,y<r.heap.size->y≠A.Q->(∀v,r.cell? (aA A.Q 12410)=some v->v.ownBlock≠some y)->(t.setCell (aA A.Q 12410) D).heap[y]?=r.heap[y]?:=λy hy dk dl=>(o8 y dk).trans (V y hy (dl _ F));have e2:∀i,i≠12410->(t.setCell (aA A.Q 12410) D).cell? (aA A.Q i)=r.cell? (aA A.Q i):=λi hi=>(ak _ _ _ _ (by intro q;injection q with _ q;exact hi q.symm)).trans (aj m);have e3:∀i,(t.setCell (aA A.Q 12410) D).frozen? (aA A.Q i)=r.frozen? (aA A.Q i):=λi=>(bb _ _ _ _).trans (aJ m);have e4:rD (t.setCell (aA A.Q 12410) D) A.Q 81:=Wal.db (U.b.h.e m);have e5:(t.setCell (aA A.Q 12410) D).cell? (aA A.Q 12410)=some D:=ay _ _ _ r1;have cd:∀g,D.ownBlock=some g->g≠A.Q:=λg hg e=>by
    rcases R g hg with q|q
    exact(M g q).1 e;omega
   have e6:(t.setCell (aA A.Q 12410) D).ownsRow (A.Q+1) 45 10 D (s.ba++[ne]).length (fS (s.ba++[ne])):=by
    rw[aM,Iz];exact bp L λg hg=>o8 g (cd g hg)
   have e7:∀g,D.ownBlock=some g->g<r.heap.size->∃v,r.cell? (aA A.Q 12410)=some v/\v.ownBlock=some g:=λg hg T=>by
    rcases R g hg with q|q
    exact⟨_,F,q⟩;omega
   have e8:r.heap.size<=(t.setCell (aA A.Q 12410) D).heap.size:=by
    have:(t.setCell (aA A.Q 12410) D).heap.size=t.heap.size:=by simp
    omega
   obtain⟨p1,p2⟩:=bM.Z U (w':=t.setCell (aA A.Q 12410) D) N.os N.tape N.output e8 e1 e2 e3 e4 e5 e6 e7;have dm:s.ag k c = { ({ ({s.ab k c with bK:=s.bK+1}:Wd) with aI:=bB (s.ab k c).aI k { (s.ab k c).aI k with fu:=(s.ba.length:Nat)} }:Wd) with ba:=s.ba++[ne]}:=by
    unfold Wd.ag Wd.ab;dsimp only;rw[LW,cy,cb]
   rw[dm];exact⟨p1,((x2.e y2).e z2).e p2⟩
  refine hK.out _ _ ⟨r1,r2,r3⟩ (λd=>?_);clear hK K L N R;subst dd;try simp only[Act.put,ar,aD,aC]
  refine tk 17 18 d ?_;go_frame;refine tk 18 19 d ?_;go_frame;refine la 19 λK hK=>?_;go_simp;refine hK.out _ _ ?_;clear hK K d;have bc:Hid (bM (t.setCell (aA A.Q 12410) (.slice a7 (s.ba.length+1) c7)) A (s.ag k c)/\Fz A s w2 A (s.ag k c) (t.setCell (aA A.Q 12410) (.slice a7 (s.ba.length+1) c7))):=HX.out;clear HX;clear y1 y2 U z2 Y x2 hv P F l z d2 d3 fG V m aS r1 r2 r3 df b6 q1 q2 q3 M cW;generalize t.setCell ⟨A.Q,12410,none⟩ (.slice a7 (s.ba.length+1) c7)=w8 at *;have W:f9 (s.ag k c) (C+2):=hB.a3 ck;have ce:=IX bc.out.1 hk (W.o k hk).j;go_wp2_with fail
  refine ce.mono ?_;rintro e w9⟨rfl,p1,p2⟩;have bg:f9 ((s.ag k c).j k) (C+2):=W.aq k;have dn:((s.ag k c).j k).n=s.n:=by unfold Wd.j;split<;>rfl
  have cg:k<((s.ag k c).j k).n:=by rw[dn];exact hk
  have f3:=(p1.e k cg).j;have p3:=bc.out.2.e p2;clear ce bc p2;by_cases T:(((s.ag k c).j k).aI k).fu<0
  .have g0:decide (0<=(((s.ag k c).j k).aI k).fu)=false:=aK (by omega);have HF:Hid (bM w9 A (s.ao k c)/\Fz A s w2 A (s.ao k c) w9):=by
    unfold Wd.ao Wd.b0;rw[az T];exact⟨p1,p3⟩
   clear p1 p3 T bg W;go_wp2_with fail
   go_ret;exact⟨rfl,HF.out⟩
  .have g0:decide (0<=(((s.ag k c).j k).aI k).fu)=true:=aR (by omega);have a0:=Na A ((s.ag k c).j k) k (C+2) w9 p1 cg bg (by omega);have HE:Hid (s.ao k c=((s.ag k c).j k).b7 k):=by
    unfold Hid Wd.ao Wd.b0;rw[ax T]
   clear p1 T bg W;go_wp2_with fail
   refine a0.mono ?_;rintro e ci⟨rfl,q1,q2⟩;have HF:Hid (bM ci A (s.ao k c)/\Fz A s w2 A (s.ao k c) ci):=by
    rw[HE.out];exact⟨q1,p3.e q2⟩
   clear q1 q2 p3 a0;go_wp2_with fail
   go_ret;exact⟨rfl,HF.out⟩
 .rw[ax he];rw[Bn he]at E⊢;have dr:=HC.out he;rw[dr]at E;go_enter func40,ntmps40;go_wp2_with fail
  refine hh.mono ?_;rintro e w2⟨rfl,rfl⟩;go_wp2_with fail
  refine E.mono ?_;rintro e w3⟨rfl,B3⟩;obtain⟨Y,x2⟩:=B3;rw[Q0]at Y x2;have HF:Hid (bM w3 A s/\Fz A s w2 A s w3):=⟨Y,x2⟩;clear E hh Y x2 h;go_wp2_with fail
  go_ret;exact⟨rfl,HF.out⟩
def I0{k:K}(h:KB k C)(o:Int)(h0:0<=now)(c:now<=549755813888):KB (k.ai o now) (C+2):=by
 unfold K.ai;split;rename_i d;let ⟨a,b⟩:=mF d
 exact h.ac a b h0 c;exact h.H (by omega)
def nI{k:K}{o:Int}{d:Bh}(h:k.H o d=0):0<=o/\o<=7/\d.size<=20:=by
 unfold K.H at h;split at h;rename_i q;exact(q h).elim;rename_i q;split at h;cases h;have:=mF (by simpa using q);omega
def D3{k:K}(h:KB k C)(o:Int)(d:Bh)(h0:0<=now)(e:now<=549755813888):KB (k.af o d now) (C+2):=by
 unfold K.af;split;rename_i f;let ⟨a,b,c⟩:=nI f
 exact(h.ab 2 c 0 false false a b h0 e).H (by omega);exact h.H (by omega)
def QU{s:Wd}(o:Int)(h:bM w A s)(d:k<s.n)(f:f9 s C)(l:C<=10000000000):
  Calls prog 16 #[tp A.Q,iI k,iI o] w λe w'=>e=.returned (eV ((s.aI k).k.I o))/\bM w' A (if (s.aI k).k.I o=0 then s.cf k o else s)/\Fz A s w A (if (s.aI k).k.I o=0 then s.cf k o else s) w':=by
 have m:=(h.o k d).H;let ⟨j,p⟩:=h.h (show Below w.heap.size w (w.alloc (.cells #[.int .i64 o] 3)) from(au _ _).alloc (aa _) _)
 have r:(w.alloc (.cells #[.int .i64 o] 3)).cell? ⟨w.heap.size,0,none⟩=some (.int .i64 o):=bS _ _ _ _ _ _ (bw w _);have a:=f.o k d;have g:Calls prog _ (#[.pointer (some (aA A.G (k*4)))]++#[tp w.heap.size]) _ _:=QR j d f (by omega) r ⟨by omega,by omega⟩;have c:=Bj j d f l (I0 a.k o a.b a.e) (λq=>ax q) (λ_ _=>rfl) g;have i:(if (s.aI k).k.I o=0 then s.ao k ((s.aI k).k.ai o (s.aI k).cM) else s)=if (s.aI k).k.I o=0 then s.cf k o else s:=by
  split;rename_i t;unfold K.ai Wd.cf;rw[az t];rfl
 rw[i]at c;generalize (if (s.aI k).k.I o=0 then s.cf k o else s)=s' at *;have u:Hid (Fz A s w A s (w.alloc (.cells #[.int .i64 o] 3))):=p

 go_enter func16,ntmps16;go_wp2_with fail
 apply c.mono;rintro e w3⟨rfl,v,x⟩;have y:Hid (bM w3 A s'/\Fz A s w A s' w3):=⟨v,u.out.e x⟩

 go_wp2_with fail
 go_ret;exact⟨rfl,y.out⟩
def L9{s:Wd}(o:Int)(d:Bh)(h:bM w A s)(f:k<s.n)(g:f9 s C)(p:C<=10000000000)(hd:d.size<=1000000):
  Calls prog 23 #[tp A.Q,iI k,iI o,.string d] w λe w'=>e=.returned (eV ((s.aI k).k.H o d))/\bM w' A (if (s.aI k).k.H o d=0 then s.ca k o d else s)/\Fz A s w A (if (s.aI k).k.H o d=0 then s.ca k o d else s) w':=by
 have r:=(h.o k f).H;have i:Below w.heap.size w ((w.alloc (.cells #[.int .i64 o] 3)).alloc (.cells #[.string d] 9)):=((au _ _).alloc (aa _) _).alloc (by simp) _;let ⟨m,t⟩:=h.h i
 have u:((w.alloc (.cells #[.int .i64 o] 3)).alloc (.cells #[.string d] 9)).cell? ⟨w.heap.size,0,none⟩=some (.int .i64 o):=by simp
 have v:((w.alloc (.cells #[.int .i64 o] 3)).alloc (.cells #[.string d] 9)).cell? ⟨w.heap.size+1,0,none⟩=some (.string d):=by simp
 have a:=g.o k f;have j:Calls prog _ (#[.pointer (some (aA A.G (k*4)))]++#[tp w.heap.size,tp (w.heap.size+1)]) _ _:=L5 m f g (by omega) u v hd ⟨by omega,by omega⟩ ⟨by omega,by omega⟩;have c:=Bj m f g p (D3 a.k o d a.b a.e) (λq=>ax q) (λ_ _=>rfl) j;have l:(if (s.aI k).k.H o d=0 then s.ao k ((s.aI k).k.af o d (s.aI k).cM) else s)=if (s.aI k).k.H o d=0 then s.ca k o d else s:=by
  split;rename_i x;unfold K.af Wd.ca;rw[az x];rfl
 rw[l]at c;generalize (if (s.aI k).k.H o d=0 then s.ca k o d else s)=s' at *;have y:Hid (Fz A s w A s ((w.alloc (.cells #[.int .i64 o] 3)).alloc (.cells #[.string d] 9))):=t

 go_enter func23,ntmps23;go_wp2_with fail
 apply c.mono;rintro e w3⟨rfl,z,B⟩;have D:Hid (bM w3 A s'/\Fz A s w A s' w3):=⟨z,y.out.e B⟩

 go_wp2_with fail
 go_ret;exact⟨rfl,D.out⟩
def Qt(n:Int)(w:A1)(h0:0<=n)(a:n<=137438953472):Calls prog 70 #[iI n] w λe w'=>e=.returned (.bool false)/\w'=w:=by
 have b:decide (n<0)=false:=aK (by omega);have c:decide ((137438953472:Int)<n)=false:=aK (by omega);go_enter func70,ntmps70;go_wp2;go_ret;exact⟨rfl,rfl⟩
def Lm{v:Bg}(h:dA w B v l)(r:l.length<=100)(j:∀x∈l,0<=x/\x<=137438953472):
  Calls prog 136 #[v,.func (.func 70) #[] #[]] w λe w'=>e=.returned (iI (-1))/\w'=w:=by
 obtain⟨ao,c,rfl,n⟩:=h.e;go_enter func136,ntmps136;go_wp2;go_loopw [8] (λi wr=>∃k:Nat,k<=l.length/\i=iI k/\wr=w) (λi _=>l.length-(intOf i).toNat)
 case atStart=>exact⟨0,by omega,rfl,rfl⟩
 case round=>
  obtain⟨k,s,rfl,rfl⟩:=hrel;by_cases d:k<l.length
  .obtain⟨g,rfl,b⟩:=n (by omega);have f:(k:Int)<(l.length:Int):=by omega
   have hc:=b k d;let ⟨o,p⟩:=j l[k] (bA d)
   have a:=λw=>Qt l[k] w o p;let ⟨y,q⟩:∃y,l[k]=y:=⟨_,rfl⟩
   rw[q]at hc a;go_wp2_with fail
   apply (a _).mono;rintro e w'⟨rfl,m⟩;rw[m];go_wp2_with fail
   go_roundw
   case rel=>exact⟨k+1,by omega,by go_num,by first|trivial|rfl⟩
   case measure=>simp[intOf];omega
  .obtain rfl:k=l.length:=by omega
   have f:¬(l.length:Int)<(l.length:Int):=by omega
   go_wp2;go_ret;exact⟨rfl,rfl⟩
def Cd{v:Bg}(h:dA w B v l)(b:l.length<=100)(a:∀x∈l,0<=x/\x<=137438953472):
  Calls prog 69 #[v,.func (.func 70) #[] #[]] w λe w'=>e=.returned (.bool false)/\w'=w:=by
 go_enter func69,ntmps69;go_wp2_with fail
 apply (Lm h b a).mono;rintro e w'⟨rfl,rfl⟩;go_wp2_with fail
 go_ret;exact⟨rfl,rfl⟩
def Wd.a9(s:Wd)(b:Int)(f:Nat->Int)(j:Nat):Wd:={s with bK:=s.bK+1,cT:=ra (s.cT+b),aI:=λk=>if k<j then {s.aI k with cM:=ra ((s.aI k).cM+f k)} else s.aI k}
def Br(s:Wd)(b:Int)(f:Nat->Int):s.a9 b f 0 = {s with bK:=s.bK+1,cT:=ra (s.cT+b)}:=by
 unfold Wd.a9;simp
def Lh(s:Wd)(b:Int)(f:Nat->Int)(j:Nat):s.a9 b f (j+1) = {s.a9 b f j with aI:=bB (s.a9 b f j).aI j { (s.a9 b f j).aI j with cM:=ra ((s.aI j).cM+f j)} }:=by
 unfold Wd.a9;congr 1
 funext k;unfold bB;dsimp only;by_cases h:k=j;subst h;simp;by_cases a:k<j;rw[az (by omega),ax h,az a];rw[ax (by omega),ax h,ax a]
structure Gn(w wr:World)(A:Wa)(s:Wd)(l:List Int)(B:Nat)(v:Value)(b:Int)(f:Nat->Int)(j:Nat):Prop where
 e:bM wr A (s.a9 b f j)
 i:Fz A s w A (s.a9 b f j) wr
 h:dA wr B v l
def zl{s s':Wd}{v:Bg}(h:bM w A s)(p:dA w B v l)(r:Fz A s w A' s' w'):dA w' B v l:=by
 refine bp p λg y=>?_;let ⟨_,a⟩:=dg p y
 refine r.H a.H (λf=>?_) (λe=>a.j e (by decide) rfl);rcases f with f|f|⟨v,c,d⟩|⟨i,k,f⟩|⟨i,k,f⟩|⟨c,d⟩
 exact a.j h.b.h (by decide) f;exact a.j h.u (by decide) f;let ⟨C,m,n⟩:=h.x
 rw[m]at c;injection c with c
 subst c;exact a.j (dg n d).2 (by decide) rfl;exact a.j (h.o i k).ac (by decide) f;exact(h.o i k).af.e a f.symm;let ⟨v,z⟩:=aV.1 c
 have u:=h.t v z;exact u.b.af a (by rw[u.q];exact a.j h.b.h (by decide)) (by decide) d
def Jd(x:Int):(if 549755813888<x then 549755813888 else x)=ra x:=by
 unfold ra;split<;>split<;>omega
def bM.av{s:Wd}(h:bM w A s)(f:Nat->St)(d:∀i,i<s.n->f i=s.aI i):bM w A {s with aI:=f}:=by
 have c:=h.b;exact⟨⟨c.h,c.b,c.t,c.u,c.x,c.o,c.p,c.e,c.j⟩,h.y,h.p,h.x,h.u,h.C,λi a=>by show sL w A.G i (A.c i) (f i);rw[d i a];exact h.e i a,λi a=>by show bt w (A.c i) (A.m i) (f i).k;rw[d i a];exact h.o i a,h.J,λv g=>by have u:=h.t v g;exact⟨u.b,u.q,u.j,u.e,u.h,u.o,u.p,u.t⟩,h.F,h.B⟩
def Fz.V{s s' s'':Wd}(h:Fz A s w A' s' w')(g:s''.n=s'.n)(l:s''.sv=s'.sv):Fz A s w A' s'' w':=
 ⟨h.t,h.o,h.b,h.i,h.p,λk q f=>h.j k q (by
  rcases f with f|f|⟨v,a,d⟩|⟨i,e,f⟩|⟨i,e,f⟩|⟨a,d⟩
  exact .Q f;exact .G f;exact .ev v a d;exact .c i (g▸e) f;exact .m i (g▸e) f;exact .sv (l▸a) d),h.Q⟩
def f9.bu{w:Wd}(h:f9 w C)(g:0<=b)(d:∀i,i<w.n->0<=f i):f9 (w.b6 b f) (C+1):=by
 have a:=h.e (du C);refine⟨a.F,a.x,a.y,a.u,a.A,a.B,zn (by have:=h.W;omega),zo,λj c=>?_,by have:=h.J;show 0<=w.bK+1;omega,by have:=h.O;show w.bK+1<=_;omega,a.Z,a.t,a.s,a.V,a.j,a.I,a.b,a.h⟩;have q:=a.o j c;exact⟨q.k,zn (by have:=q.b;have:=d j c;omega),zo,q.h,q.i,q.o,q.j⟩
def Qv{s:Wd}(h:bM w A (s.a9 b f s.n)):bM w A (s.b6 b f):=
 h.av (λk=>{s.aI k with cM:=ra ((s.aI k).cM+f k)}) λi a=>by
  exact(az (show i<s.n from a)).symm
def xI(A:Wa)(s:Wd)(C B:Nat)(v:Bg)(l:List Int)(w:A1)(h:bM w A s)(hB:f9 s C)(hC:C<=10000000000)(hl:dA w B v l)(P:l.length=1+s.n)(E:∀x∈l,0<=x/\x<=137438953472)(b0:Int)(Y:l.getD 0 0=b0)(f:Nat->Int)(hf:∀k,l.getD (1+k) 0=f k):
  Calls prog 37 #[tp A.Q,v] w λe w'=>e=.returned .nilIface/\bM w' A (s.aw b0 f)/\Fz A s w A (s.aw b0 f) w':=by
 have n4:=h.B;have n1:=h.F;have bR:=h.b.e;have dd:=h.b.j;have df:=h.b.b 12411;have Z:=Cd hl (by omega) E;obtain⟨ao,cc,cp,z⟩:=hl.e;obtain⟨g,hg,ad⟩:=z (by omega);subst hg;subst cp;have dk:IntKind.i64.wrap (s.bK+1)=s.bK+1:=jJ (by have:=hB.J;omega) (by have:=hB.O;omega);have dl:IntKind.i64.wrap (1+(s.n:Int))=1+(s.n:Int):=jJ (by omega) (by omega);have R:l.length=s.n+1:=by omega
 have dm:(((s.n+1:Nat):Int) != 1+(s.n:Int))=false:=by simp;omega
 have cG:((s.n:Int)+1 != 1+(s.n:Int))=false:=by simp;omega
 obtain⟨x1,x2⟩:=h.j (s.bK+1);have y:=zl h hl x2;have HB:Hid (f9 s C):=hB;have HF:Hid (∀k,l.getD (1+k) 0=f k):=hf;clear hf;have HL:Hid (l.length=1+s.n):=P;rw[R]at Z⊢;have HM:Hid (l.length=s.n+1):=R;clear z ad h hB P R;go_enter func37,ntmps37;go_wp2_with fail
 refine Z.mono ?_;rintro e w2⟨rfl,b1⟩;rw[b1];clear b1 Z;go_upto_region 4 with fail
 generalize w.setCell ⟨A.Q,12411,none⟩ (.int .i64 (s.bK+1))=w3 at *;have aS:w3.cell? (aA g 0)=some (iI (l.getD 0 0)):=by
  have R:=HM.out;have:=bJ y 0 (by omega);rw[this,di,aG,aB (by omega)];rfl
 have H:=x1.b.p;have cs:=x1.b.b 12408;dsimp only at H;have m:gv (s.cT+l.getD 0 0):=by
  have h1:=HB.out.W;have h2:=HB.out.c1;have R:=HM.out;have h3:=E (l.getD 0 0) (by rw[aG,aB (by omega)];exact bA _);exact⟨by omega,by omega⟩
 have b2:IntKind.i64.wrap (s.cT+l.getD 0 0)=s.cT+l.getD 0 0:=jJ m.1 m.2;rw[Y]at aS b2 m;have ct:Hid (l.getD 0 0=b0):=Y;clear Y;refine Gen.start (S:=λw'=>w'.cell? (aA A.Q 12408)=some (iI s.cT)/\w'.cell? (aA g 0)=some (iI b0)) (by kernel_rfl) ⟨H,aS⟩ (λc=>?_);refine tk 0 10 c ?_;go_frame;refine tk 1 2 c ?_;go_frame;refine tk 2 3 c ?_;go_frame;refine tk 3 4 c ?_;go_frame;refine tk 4 8 c ?_;go_frame;refine tk 5 6 c ?_;go_frame;refine tk 6 7 c ?_;go_frame;refine tk 7 8 c ?_;go_frame;refine tk 8 9 c ?_;go_frame;refine tk 9 10 c ?_;go_frame;refine tk 10 11 c ?_;go_frame;refine tk 11 12 c ?_;go_frame;refine la 12 λK I=>?_;go_simp;rw[Jd];refine I.out _ _ ?_;clear I K c;obtain⟨y1,y2⟩:=x1.ao (ra (s.cT+b0));obtain⟨y3,y4⟩:=y1.h (au _ _).drew;have L:=zl x1 y (y2.e y4);have cb:Hid (Gn w (w3.setCell (aA A.Q 12408) (iI (ra (s.cT+b0)))).drew A s l B (.slice (some (aA g 0)) l.length cc) b0 f 0):=by
  refine⟨?_,?_,L⟩;rw[Br];exact y3;rw[Br];exact x2.e (y2.e y4)
 have bR:=y3.b.e;generalize (w3.setCell ⟨A.Q,12408,none⟩ (.int .i64 (ra (s.cT+b0)))).drew=w4 at *;clear x1 x2 y1 y2 y3 y4 y L H cs m b2 aS;go_wp2_with fail
 go_loopw [44] (λi wr=>∃k:Nat,k<=s.n/\i = iI k/\Gn w wr A s l B (.slice (some (aA g 0)) l.length cc) b0 f k) (λi _=>s.n-(intOf i).toNat)
 case atStart=>exact⟨0,by omega,rfl,cb.out⟩
 case round=>
  obtain⟨k,hk,rfl,D⟩:=hrel;by_cases a0:k<s.n
  .have dn:(k:Int)<(s.n:Int):=by omega
   have cW:(0:Int)<=(k:Int):=by omega
   have dr:IntKind.i64.wrap (1+(k:Int))=1+(k:Int):=jJ (by omega) (by omega);have ds:(1+(k:Int))<(s.n:Int)+1:=by omega
   have da:(0:Int)<=1+(k:Int):=by omega
   have dt:(1+(k:Int)).toNat=1+k:=by omega
   have U:=D.e.b.e;have d:=(D.e.e k a0).h;have a1:wr.cell? (aA g (1+k))=some (iI (f k)):=by
    have R:=HM.out;have:=bJ D.h (1+k) (by omega);rw[<-HF.out k];rw[this,di,aG,aB (by omega)];rfl
   have cd:(((s.a9 b0 f k).aI k)).cM=(s.aI k).cM:=by
    unfold Wd.a9;simp
   rw[cd]at d;have M:0<=f k/\f k<=137438953472:=by
    have R:=HM.out;rw[<-HF.out k];exact E _ (by rw[aG,aB (by omega)];exact bA _)
   have ce:IntKind.i64.wrap ((s.aI k).cM+f k)=(s.aI k).cM+f k:=by
    have q:=HB.out.o k a0;have q0:=q.b;have q1:=q.e;exact jJ (by omega) (by omega)
   have cv:=D.e.C (k*4+1);have HD:Hid (Gn w wr A s l B (.slice (some (aA g 0)) l.length cc) b0 f k):=D;clear D cd M;obtain⟨ck,m⟩:∃ck,(s.aI k).cM=ck:=⟨_,rfl⟩;obtain⟨fk,M⟩:∃fk,f k=fk:=⟨_,rfl⟩;rw[m]at d ce;rw[M]at a1 ce;have cw:Hid ((s.aI k).cM=ck):=m;have cA:Hid (f k=fk):=M;clear m M;go_upto_region 8 with fail
   refine Gen.start (S:=λw'=>w'.cell? (aA A.Q 12409)=some (.slice (some (aA A.G 0)) s.n s.n)/\w'.cell? (aA A.G (k*4+1))=some (iI ck)/\w'.cell? (aA g (1+k))=some (iI fk)) (by kernel_rfl) ⟨U,d,a1⟩ (λc=>?_);refine tk 0 1 c ?_;go_frame;refine tk 1 2 c ?_;go_frame;refine tk 2 3 c ?_;go_frame;refine tk 3 20 c ?_;go_frame;refine tk 4 20 c ?_;go_frame;refine tk 5 6 c ?_;go_frame;refine tk 6 7 c ?_;go_frame;refine tk 7 8 c ?_;go_frame;refine tk 8 10 c ?_;go_frame;refine tk 9 10 c ?_;go_frame;refine tk 10 11 c ?_;go_frame;refine tk 11 12 c ?_;go_frame;refine tk 12 18 c ?_;go_frame;refine tk 13 16 c ?_;go_frame;refine tk 14 15 c ?_;go_frame;refine tk 15 16 c ?_;go_frame;refine tk 16 17 c ?_;go_frame;refine tk 17 18 c ?_;go_frame;refine tk 18 19 c ?_;go_frame;refine tk 19 20 c ?_;go_frame;refine tk 20 21 c ?_;go_frame;refine tk 21 22 c ?_;go_frame;refine la 22 λK I=>?_;go_simp;rw[Jd];have HN:Hid (Gn w (wr.setCell (aA A.G (k*4+1)) (iI (ra (ck+fk)))).drew A s l B (.slice (some (aA g 0)) l.length cc) b0 f (k+1)):=by
    have D:=HD.out;obtain⟨p1,p2⟩:=D.e.ag a0 (ra (ck+fk));obtain⟨p3,p4⟩:=p1.h (au _ _).drew;have e:=Lh s b0 f k;rw[cw.out,cA.out]at e;refine⟨?_,?_,zl D.e D.h (p2.e p4)⟩;rw[e];exact p3;rw[e];exact D.i.e (p2.e p4)
   refine I.out _ _ ?_;clear I K c;generalize (wr.setCell ⟨A.G,k*4+1,none⟩ (.int .i64 (ra (ck+fk)))).drew=w5 at *;clear U d a1 cv;go_wp2_with fail
   go_roundw
   case rel=>exact⟨k+1,by omega,by go_num,HN.out⟩
   case measure=>simp[intOf];omega
  .obtain rfl:k=s.n:=by omega
   have X:=Qv D.e;have fz:=D.i.V (s'':=s.b6 b0 f) rfl rfl;have T:=HB.out.bu (b:=b0) (f:=f) (by
    rw[<-ct.out];have R:=HM.out;exact(E _ (by rw[aG,aB (by omega)];exact bA _)).1) (λi hi=>by
    have R:=HM.out;rw[<-HF.out i];exact(E _ (by rw[aG,aB (by omega)];exact bA _)).1)
   have HG:Hid (s.aw b0 f=(s.b6 b0 f).a2):=rfl;obtain⟨t,ht⟩:∃t,s.b6 b0 f=t:=⟨_,rfl⟩;rw[ht]at X fz T HG;have N:=oC X;clear D cb ht bR HB HF HM;cases hs:t.sv with
   |none=>
    rw[hs]at N;have HR:Hid (bM wr A (s.aw b0 f)/\Fz A s w A (s.aw b0 f) wr):=by
     rw[HG.out];have e:t.a2=t:=by unfold Wd.a2;rw[hs]
     rw[e];exact⟨X,fz⟩
    clear X fz T;go_wp2_with fail
    refine N.mono ?_;rintro e w2⟨rfl,rfl⟩;go_wp2_with fail
    go_ret;exact⟨rfl,HR.out⟩
   |some v=>
    rw[hs]at N;have HE:Hid (s.aw b0 f=t.al (v.ae t.cT 8)):=by
     have e:t.a2=t.al (v.ae t.cT 8):=by unfold Wd.a2;rw[hs]
     exact HG.out.trans e
    have ba:=X.b.o;have H:=X.b.p;rw[hs]at ba;unfold LR at ba;obtain⟨z1,z2⟩:=X.h (au wr.heap.size wr).drew;have u:=z1.t v hs;have bc:=(T.V v hs).1;have bg:=Vx t.cT u.b bc (by omega);have cg:=BI v t.cT 8;have ci:=yA bc t.cT 8;have P:=(mS.V bc t.cT 8).2;have bO:=uY v t.cT 8;obtain⟨r,hr⟩:∃r,v.ae t.cT 8=r:=⟨_,rfl⟩;rw[hr]at HE bg cg ci P bO;clear hr;clear T HG;go_wp2_with fail
    refine N.mono ?_;rintro e w2⟨rfl,rfl⟩;clear N;go_upto_region 11 with fail
    refine Gen.start (S:=λw'=>w'.cell? (aA A.Q 12407)=some (.pointer (some (aA A.a.S 0)))/\w'.cell? (aA A.Q 12408)=some (iI t.cT)) (by kernel_rfl) ⟨ba,H⟩ (λc=>?_);refine tk 0 10 c ?_;go_frame;refine tk 1 2 c ?_;go_frame;refine tk 2 3 c ?_;go_frame;refine tk 3 4 c ?_;go_frame;refine tk 4 9 c ?_;go_frame;refine tk 5 6 c ?_;go_frame;refine tk 6 7 c ?_;go_frame;refine tk 7 8 c ?_;go_frame;refine tk 8 9 c ?_;go_frame;refine on 9 λK I=>?_;go_simp;refine bg.mono ?_;rintro e w3⟨v3,rfl,T3⟩;obtain⟨y1,y2⟩:=z1.af hs T3.h T3.e bO.1 bO.2;have cl:w3.cell? (aA A.Q 12407)=some (.pointer (some (aA A.a.S 0))):=y1.b.o;have d:w3.cell? (aA A.Q 12408)=some (iI t.cT):=y1.b.p;have co:=yr r.1 y1 rfl T3.b.b (λg hg=>z1.an hs T3.e (bv T3.b.b g hg).1 (T3.b.e g hg)) (by omega) cg ci;dsimp only;refine I.out _ _ ⟨cl,d⟩ (λc=>?_);clear I K;try simp only[Act.put,ar,aD,aC]
    refine la 10 λK I=>?_;go_simp;refine co.mono ?_;rintro e w4⟨rfl,q1,q2⟩;have HR:Hid (bM w4 A (s.aw b0 f)/\Fz A s w A (s.aw b0 f) w4):=by
     rw[HE.out];exact⟨q1,((fz.e z2).e y2).e q2⟩
    dsimp only;refine I.out _ _ ?_;clear I K c;clear q1 q2 y1 y2 z1 z2 X fz co bg T3 u;go_wp2_with fail
    go_ret;exact⟨rfl,HR.out⟩
def Zt(s:Wd)(t:Int)(m:M):(s.ac t m).n=s.n:=by
 unfold Wd.ac;split<;>rfl
theorem LN{t:Int}:∀(l:List M) (s:Wd),(s.V t l).n=s.n
 | [],_=>rfl
 |m::l,s=>(LN (t:=t) l (s.ac t m)).trans (Zt s t m)
def Ny:∀(l:List M) (s:Wd),(s.O l).n=s.n
 | [],_=>rfl
 |m::l,s=>(Ny l (s.ac (bx m.c:Nat) m)).trans (Zt s _ m)
def US(s:Wd):s.af.n=s.n:=by
 unfold Wd.af;split;rfl;split<;>rfl
def Ib(s:Wd){r:Sv×List M}:(s.al r).n=s.n:=(US _).trans (Ny r.2 _)
def FQ(s:Wd):(s.H m).n=s.n:=by
 unfold Wd.H;split;rfl;exact Ib _
def Ve(s:Wd)(k:Nat):(s.j k).n=s.n:=by
 unfold Wd.j;split<;>rfl
def FP(s:Wd):(s.ap k m).n=s.n:=(Ve _ k).trans (LN _ _)
def abj(s:Wd){t:Int}:(s.bs t m).n=s.n:=by
 unfold Wd.bs;split;exact FQ _;split;exact FP _;rfl
def Qj(s:Wd)(k:Nat):(s.I k).n=s.n:=by
 unfold Wd.I;split;rfl;exact abj _
def Nj:∀(f:Nat) (s:Wd),(s.a4 f).n=s.n
 |0,_=>rfl
 |f+1,s=>by
  unfold Wd.a4;split;rfl;exact(Nj f _).trans (Qj s 0)
def DI(s:Wd):s.ai.n=s.n:=Nj _ s
def ac0(s:Wd)(k:Nat):(s.b7 k).n=s.n:=LN _ _
def Yc(s:Wd)(k:Nat):(s.aU k).n=s.n:=ac0 _ k
def abc(s:Wd):(s.aw b f).n=s.n:=by
 unfold Wd.aw Wd.a2;split;rfl;exact Ib _
def kV(s:Wd):s.e.n=s.n:=by
 unfold Wd.e;split<;>rfl
def Wd.ah(s:Wd):Nat->Wd
 |0=>s
 |k+1=>((s.ah k).aU k).ai
def tI(s:Wd):∀k,(s.ah k).n=s.n
 |0=>rfl
 |k+1=>((DI _).trans (Yc _ k)).trans (tI s k)
def Wd.bd(s:Wd):Wd:=((s.e.ah s.n).aw 1 λk=>if k<s.n then 1 else 0).ai
def Yd(s:Wd):s.bd.n=s.n:=(((DI _).trans (abc _)).trans (tI _ _)).trans (kV s)
def Wd.an(s:Wd):Nat->Wd
 |0=>s
 |r+1=>(s.an r).bd
variable{s s':Wd}
def uP(s:Wd):∀r,(s.an r).n=s.n
 |0=>rfl
 |r+1=>(Yd _).trans (uP s r)
def f9.ac(h:f9 s C):∀k,k<=s.n->f9 (s.ah k) (C+3562*k)
 |0,_=>h
 |k+1,a=>(((f9.ac h k (by omega)).ah (by rw[tI];omega)).ag).e (by omega)
def QJ{c:Int}(hc:c=2\/c=3\/c=4\/c=5)(w:A1):
  Calls prog 135 #[.int .u64 1,.int .u64 c] w λe w'=>e=.returned (.tuple #[.int .u64 0,.int .u64 c])/\w'=w:=by
 rcases hc with rfl|rfl|rfl|rfl
 all_goals
  go_enter func135,ntmps135;go_wp2_with fail
  exact bz (v:=.tuple #[_,_]) (by simp[results,results135,go_sem];kernel_rfl) rfl ⟨rfl,rfl⟩
def Yz(c:Int)(hc:c=2\/c=3\/c=4\/c=5)(w:A1):
  Calls prog 68 #[.int .u64 1,.int .u64 c] w λe w'=>e=.returned (.tuple #[.int .u64 0,.int .u64 c])/\w'=w:=by
 have a:IntKind.u64.wrap c=c:=by rcases hc with rfl|rfl|rfl|rfl<;>rfl
 go_enter func68,ntmps68;go_wp2_with fail
 apply (QJ hc w).mono;rintro e w2⟨rfl,rfl⟩;go_wp2_with fail
 exact bz (v:=.tuple #[_,_]) (by simp[results,results68,go_sem]) rfl ⟨rfl,rfl⟩
def DN:(prog.info? 3).map (·.size)=some 1:=by kernel_rfl
def nv(c k:Nat):List Value:=List.replicate k (.int .i64 1)++List.replicate (c-k) (.int .i64 0)
structure Rp(w wr:World)(c k:Nat):Prop where
 e:wr.heap[w.heap.size]?=some (.cells (nv c k).toArray 3 (0,0))
 b:Below w.heap.size w wr
def Rp.h{c:Nat}(h:Rp w wr c k)(i:k<=c):
  (Builtin.copy_ #[26,26] 3 #[.slice (some (aA w.heap.size k)) (c-k) (c-k),.slice (some (aA w.heap.size 0)) k c]).run prog wr=.ok (iI (min k (c-k):Nat)) (wr.setRow w.heap.size (nv c (k+min k (c-k))).toArray)/\Rp w (wr.setRow w.heap.size (nv c (k+min k (c-k))).toArray) c (k+min k (c-k)):=by
 refine⟨?_,⟨setRow_heap _ _ _ _ _ _ h.e,below_setRow h.b (aa _) _⟩⟩;have a:∀j v,(List.replicate (min k (c-k)) (Value.int .i64 1))[j]?=some v->wr.cell? (((aA w.heap.size 0):Addr).add j)=some v:=by
  intro j v d;rw[dZ]at d;split at d;cases d;have:(nv c k)[j]?=some (iI 1):=by
   unfold nv;rw[bn (by simp;omega),dZ,az (by omega)]
  have q:((aA w.heap.size 0):Addr).add j=(aA w.heap.size j):=by
   simp only[Addr.add];split<;>simp_all
  rw[q];simp[World.cell?,h.e,this];cases d
 have e:=run_copy_row prog wr 26 26 3 3 w.heap.size k (c-k) (c-k) (aA w.heap.size 0) k c (nv c k).toArray 3 (List.replicate (min k (c-k)) (iI 1)) underlying26 DN h.e (by simp[Nat.min_def]) a (by simp[nv];omega) (by intro v f;rw[(D8.1 f).2];rfl);have g:(nv c k).toArray.toList.take k++List.replicate (min k (c-k)) (iI 1)++(nv c k).toArray.toList.drop (k+(List.replicate (min k (c-k)) (Value.int .i64 1)).length)=nv c (k+min k (c-k)):=by
  unfold nv;rw[kz,Me (by simp),iT (by simp),List.replicate_append_replicate,Jp,Zy (by simp),List.drop_replicate];simp;omega
 rw[g]at e;rw[e];simp[goInt]
theorem BD(g c:Nat)(hc:c=2\/c=3\/c=4\/c=5){w:World}(h0:cC w (aA g 0) (iI 1))(hg:g<w.heap.size):
  Calls prog 35 #[.slice (some (aA g 0)) 1 1,iI c] w λe w'=>∃v,e=.returned v/\dA w' w.heap.size v (List.replicate c 1)/\Below w.heap.size w w':=by
 let ⟨Z,hZ⟩:∃Z,List.replicate c (Value.int .i64 0)=Z:=⟨_,rfl⟩
 have hZl:Z.length=c:=by rw[<-hZ];simp
 have hmk:∀w,(Instr.makeSlice 26 (iI c) (iI c)).run prog w=.ok (.slice (some (aA w.heap.size 0)) c c) (w.alloc (.cells Z.toArray 3)):=λ_=>by rw[<-hZ];rcases hc with rfl|rfl|rfl|rfl<;>kernel_rfl
 have hrw:(w.alloc (.cells Z.toArray 3)).heap[w.heap.size]?=some (.cells Z.toArray 3 (0,0)):=by show (w.heap.push _)[w.heap.size]?=_;exact Array.getElem?_push_size ..
 have hcp:=run_copy_row prog (w.alloc (.cells Z.toArray 3)) 26 26 3 3 w.heap.size 0 c c (aA g 0) 1 1 Z.toArray 3 [iI 1] underlying26 DN hrw (by simp[Nat.min_def];omega) (by
  intro j v hj
  match j,hj with
  |0,hj=>
   cases hj
   exact(aH _ _ _ hg).trans h0) (by simp;omega) (by intro v hv;rw[aL.1 hv];rfl)
 have hS:Rp w ((w.alloc (.cells Z.toArray 3)).setRow w.heap.size (Z.toArray.toList.take 0++[Value.int .i64 1]++Z.toArray.toList.drop (0+[Value.int .i64 1].length)).toArray) c 1:=by
  refine⟨?_,below_setRow ((au _ _).alloc (aa _) _) (aa _) _⟩
  rw[setRow_heap _ _ Z.toArray _ 3 (0,0) hrw,<-hZ]
  simp[nv]
 generalize (w.alloc (.cells Z.toArray 3)).setRow w.heap.size (Z.toArray.toList.take 0++[Value.int .i64 1]++Z.toArray.toList.drop (0+[Value.int .i64 1].length)).toArray=w1 at hcp hS
 have HS0:Hid (Rp w w1 c 1):=hS
 have hcp2:(Builtin.copy_ #[26,26] 3 #[.slice (some (aA w.heap.size 0)) c c,.slice (some (aA g 0)) 1 1]).run prog (w.alloc (.cells Z.toArray 3))=.ok (iI 1) w1:=hcp

 have hm:=Yz c (by omega) w
 have hw1:IntKind.u64.wrap (c:Int)=c:=by rcases hc with rfl|rfl|rfl|rfl<;>rfl
 have hw2:IntKind.i64.wrap (c:Int)=c:=jJ (by omega) (by omega)
 have hc0:decide ((c:Int)<0)=false:=aK (by omega)
 have hc1:decide ((9223372036854775807:Int)<(c:Int))=false:=aK (by omega)
 go_enter func35,ntmps35
 go_wp2_with fail
 apply hm.mono
 rintro e w2⟨rfl,rfl⟩
 go_wp2_with fail
 go_loopw [8] (λi wr=>∃k:Nat,1<=k/\k<=c/\i=iI k/\Rp w2 wr c k) (λi _=>c-(intOf i).toNat)
 case atStart=>exact⟨1,by omega,by omega,rfl,HS0.out⟩
 case round=>
  obtain⟨k,hk1,hk,rfl,D⟩:=hrel
  by_cases hlt:k<c
  .have hkI:(k:Int)<(c:Int):=by omega
   have hkI0:(0:Int)<=(k:Int):=by omega
   have hkI1:(k:Int)<=(c:Int):=by omega
   have hck:¬c=k:=by omega
   have hkw:IntKind.i64.wrap ((k:Int)+((min k (c-k):Nat):Int))=(k:Int)+((min k (c-k):Nat):Int):=jJ (by omega) (by omega)
   go_upto_region 9 with fail
   have RC:=Rp.h (wr:=wr.drew) ⟨D.e,D.b.drew⟩ hk
   refine Gen.start (S:=λ_=>True) (by kernel_rfl) aE (λhHeld=>?_)
   apply tk 0 8 hHeld

   apply tk 1 3 hHeld

   apply tk 2 3 hHeld

   apply tk 3 7 hHeld

   apply tk 4 6 hHeld

   apply tk 5 6 hHeld

   apply tk 6 7 hHeld

   refine on 7 λK hK=>?_
   go_simp
   refine hK.out _ _ aE (λhHeld=>?_)

   have HN :Hid _:= RC.2
   have hpos:0<min k (c-k):=by omega
   have hle:k+min k (c-k)<=c:=by omega
   generalize wr.drew.setRow w2.heap.size (nv c (k+min k (c-k))).toArray=w5 at *
   generalize min k (c-k)=j at *
   apply tk 8 9 hHeld

   refine la 9 λK hK=>?_
   go_simp
   apply hK.out _ _
   go_wp2_with fail
   go_roundw
   case rel=>exact⟨k+j,by omega,by omega,by go_num,HN.out⟩
   case measure=>simp[intOf];omega
  .obtain rfl:k=c:=by omega
   have HD:Hid (dA wr w2.heap.size (.slice (some (aA w2.heap.size 0)) k k) (List.replicate k 1)/\Below w2.heap.size w2 wr):=by
    refine⟨?_,D.b⟩
    unfold Lease.dA
    rw[kz,List.map_replicate]
    exact⟨by simp,.inr ⟨w2.heap.size,k,(nv k k).toArray,rfl,aa _,D.e,aa _,by unfold maxLen;omega,by simp[nv],by simp[nv]⟩⟩
   go_wp2_with fail
   go_ret
   exact⟨_,rfl,HD.out⟩
structure Ca(w wr:World)(A:Wa)(s t:Wd)(B:Nat)(v:Value)(a:Ad):Prop where
 b:bM wr {A with a:=a} t
 i:Fz A s w {A with a:=a} t wr
 h:dA wr B v (List.replicate (s.n+1) 1)
def Ca.e{t c:Wd}{v:Bg}{a a':Ad}(h:Ca w wr A s t B v a)(f:bM w' {A with a:=a'} c)(d:Fz {A with a:=a} t wr {A with a:=a'} c w'):Ca w w' A s c B v a':=
 ⟨f,h.i.e d,zl h.b h.h d⟩
end Wld
end Go.Proofs.YtbebfliimjjohabGreatDoor
