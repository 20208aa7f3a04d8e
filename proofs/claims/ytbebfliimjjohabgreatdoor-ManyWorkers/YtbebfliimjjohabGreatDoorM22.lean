/- Parts of the proof. -/
import Derived.Test.YtbebfliimjjohabGreatDoorM21
import Derived.Great.BuildSlice
set_option maxRecDepth 100000
set_option maxHeartbeats 8000000
set_option linter.all false
open Go.Proofs.Tryz
namespace Go.Proofs.YtbebfliimjjohabGreatDoor
open Go.RowKit Go.Maps
open Lease (Ob fN ic ek dH mx bQ dW lX xR fN.e kF lC mW)
open Cache (bV E tp kp eH mj qE)
open Num (M lY nb jK iJ fO iH lZ)
namespace Wld
variable{c B:Nat}{w:Ba}
def K.ae(k:K)(m:M):Prop:=m.l=true/\k.fp<=m.v/\k.ep=m.e/\k.Cq=m.s
instance (k:K) (m:M):Decidable (k.ae m):=by unfold K.ae;infer_instance
variable{l:List M}{m:M}
def K.a2(k:K)(m:M):K:=
 if m.v<k.nf k.kW then k else
 (if k.ae m then {k with gS:=mj k.gS ⟨k.kW,m.d,m.v,k.tT+k.Lh⟩} else k).Z m.d m.v
def Ts(w:World)(m:M):World:=(w.alloc (.cells #[.int .i64 m.k,.int .i64 m.c,.int .i64 m.n,.int .i64 m.e,.int .i64 m.s,.int .i64 m.o,.int .i64 m.v,.bool m.l,.string m.d] 129)).alloc (.cells #[.string m.d,.int .i64 m.v] 41)
structure RB(w w1:World)(m:M):Prop where
 i:w1.cell? ⟨w.heap.size,3,none⟩=some (.int .i64 m.e)
 j:w1.cell? ⟨w.heap.size,4,none⟩=some (.int .i64 m.s)
 o:w1.cell? ⟨w.heap.size,7,none⟩=some (.bool m.l)
 p:w1.cell? ⟨w.heap.size+1,0,none⟩=some (.string m.d)
 h:w1.cell? ⟨w.heap.size+1,1,none⟩=some (.int .i64 m.v)
 b:FF w w1
 t:w1.heap.size=w.heap.size+2
def Ej(w:Ba)(m:M):RB w (Ts w m) m:=by
 unfold Ts;refine⟨aY,aY,aY,aY,aY,((au _ _).alloc (aj _) _).alloc aY _,aY⟩
def Tx{q:Nat}{k:K}(h:bi w c q k)(i:0<=k.kW)(a:k.kW<=7)(hs:m.v<k.nf k.kW):
  Calls prog 193 #[tp c,Wire.M.ab m] w λe g=>e=.returned (.tuple #[])/\bi g c q k/\Ob [c,q] w g:=by
 have f:=Ej w m;have F:=h.ab (f.b.mono (aj _));have p:=h.H.1;unfold Ts at *;unfold Wire.M.ab

 go_in;go_wp2_with fail
 generalize (w.alloc (.cells #[iI m.k,iI m.c,iI m.n,iI m.e,iI m.s,iI m.o,iI m.v,.bool m.l,.string m.d] 129)).alloc (.cells #[.string m.d,iI m.v] 41)=w1 at *;have t:=λj=>((F.e (j:=j)).ah i a).1;have d5:=F.c5;have r:=F.an;have u:=f.h;have x:decide (m.v<k.nf k.kW)=true:=aX hs;go_quiet (fail);go_wp2;exact bn (v:=.tuple #[]) (by simp[results,results193]) rfl ⟨rfl,F.e,(Ob.O f.b).e⟩
def S9{k:K}(h:¬k.ae m):m.l=false\/(m.l=true/\¬k.fp<=m.v)\/(m.l=true/\k.fp<=m.v/\¬k.ep=m.e)\/(m.l=true/\k.fp<=m.v/\k.ep=m.e/\¬k.Cq=m.s):=by
 unfold K.ae at h;cases hl:m.l with
 |false=>exact .inl rfl
 |true=>
  by_cases a:k.fp<=m.v;by_cases b:k.ep=m.e;by_cases c:k.Cq=m.s;exact absurd ⟨hl,a,b,c⟩ h;exact .inr (.inr (.inr ⟨rfl,a,b,c⟩));exact .inr (.inr (.inl ⟨rfl,a,b⟩));exact .inr (.inl ⟨rfl,a⟩)
def J4{q:Nat}{k:K}(h:bi w c q k)(r:0<=k.kW)(f:k.kW<=7)(u:fN m.v)(x:k.n<1000000000000)(hs:¬m.v<k.nf k.kW)(z:¬k.ae m):
  Calls prog 193 #[tp c,Wire.M.ab m] w λe A=>e=.returned (.tuple #[])/\bi A c q (k.Z m.d m.v)/\Ob [c,q] w A:=by
 have P:decide (m.v<k.nf k.kW)=false:=aK hs;have g:=Ej w m;have F:=h.ab (g.b.mono (aj _));have D:=h.H.1;have E:Hid (¬k.ae m):=z;unfold Ts at *;unfold Wire.M.ab;clear h z hs;go_in;go_wp2_with fail
 generalize (w.alloc (.cells #[iI m.k,iI m.c,iI m.n,iI m.e,iI m.s,iI m.o,iI m.v,.bool m.l,.string m.d] 129)).alloc (.cells #[.string m.d,iI m.v] 41)=w1 at *;have Q:=λj=>((F.e (j:=j)).ah r f).1;have d5:=F.c5;have I:=F.an;have J:=F.ap;have L:=F.ai;have N:=F.al;have R:=g.p;have S:=g.h;have b3:=g.i;have b4:=g.j;have b7:=g.o;have y:Ob [c,q] w w1:=Ob.O g.b;go_quiet (fail);go_wp2_with fail
 rcases S9 E.out with k1|⟨k1,t⟩|⟨k1,t,B⟩|⟨k1,t,B,T⟩
 .rw[k1]at b7;go_quiet (fail);go_wp2_with fail
  apply (m9 m.d (F.e) r f u x).mono;rintro e w2⟨rfl,G,a⟩;go_wp2;go_end0;exact⟨rfl,G,(y.e).j a⟩
 .rw[k1]at b7;have C:= aK t;go_quiet (fail);go_wp2_with fail
  apply (m9 m.d (F.e) r f u x).mono;rintro e w2⟨rfl,G,a⟩;go_wp2;go_end0;exact⟨rfl,G,(y.e).j a⟩
 .rw[k1]at b7;have C:= aX t;go_quiet (fail);go_wp2_with fail
  apply (m9 m.d (F.e) r f u x).mono;rintro e w2⟨rfl,G,a⟩;go_wp2;go_end0;exact⟨rfl,G,(y.e).j a⟩
 .rw[k1]at b7;have C:= aX t;rw[<-B]at b3;go_quiet (fail);go_wp2_with fail
  apply (m9 m.d (F.e) r f u x).mono;rintro e w2⟨rfl,G,a⟩;go_wp2;go_end0;exact⟨rfl,G,(y.e).j a⟩
def Pc{q:Nat}{k:K}(h:bi w c q k)(D:0<=k.kW)(r:k.kW<=7)(L:fN m.v)(N:k.n<1000000000000)(h0:-4611686018427387904<=k.tT+k.Lh)(h1:k.tT+k.Lh<=4611686018427387904)(hs:¬m.v<k.nf k.kW)(P:k.ae m):
  Calls prog 193 #[tp c,Wire.M.ab m] w λe E=>e=.returned (.tuple #[])/\bi E c q ((({k with gS:=mj k.gS ⟨k.kW,m.d,m.v,k.tT+k.Lh⟩}:K)).Z m.d m.v)/\Ob [c,q] w E:=by
 have g1:decide (m.v<k.nf k.kW)=false:=aK hs;have u:=Ej w m;have F:=h.ab (u.b.mono (aj _));have Q:=h.H.1;have R:Hid (k.ae m):=P;unfold Ts at *;unfold Wire.M.ab

 go_in;go_wp2_with fail
 generalize (w.alloc (.cells #[iI m.k,iI m.c,iI m.n,iI m.e,iI m.s,iI m.o,iI m.v,.bool m.l,.string m.d] 129)).alloc (.cells #[.string m.d,iI m.v] 41)=w1 at *;have hL:=λj=>((F.e (j:=j)).ah D r).1;have d1:=F.c1;have d5:=F.c5;have S:=F.an;have x:=F.av;have T:=F.ap;have U:=F.ai;have V:=F.al;have ⟨b3,b4,b7,y,z,_,G⟩:=u





 let ⟨k1,X,Y,k4⟩:=R.out
 have g2:decide (k.fp<=m.v)=true:=aX X;rw[k1]at b7;rw[<-Y]at b3;rw[<-k4]at b4;go_quiet (fail);go_wp2_with fail
 go_quiet (fail);go_wp2_with fail
 generalize t:(w1.drewN _).drewN _=W;have f:bi W c q k:=by rw[<-t];exact(F.e).e
 have A:Ob [c,q] w W.drew:=by rw[<-t];exact(((Ob.O u.b).e).e).I
 have y:cC W (aA (w.heap.size+1) 0) (.string m.d):=t▸y;have z:cC W (aA (w.heap.size+1) 1) (iI m.v):=t▸z;have G:W.heap.size=w.heap.size+2:=t▸G;have d1:=f.c1;have d5:=f.c5;have x:=f.av;have g:=Cache.K1 k.kW m.d m.v (k.tT+k.Lh) f.I.i f.I.s;go_still_tail 18,bt;go_wp2_with fail
 apply g.mono;rintro e w3⟨rfl,B,p⟩;have J:=p.b (w.heap.size+1) (by show _<W.heap.size;omega) fS;have z0:= (aa (a:=(aA (w.heap.size+1) 0)) J).trans y;have z1:= (aa (a:=(aA (w.heap.size+1) 1)) J).trans z;go_wp2_with fail
 apply (m9 m.d (f.I.ag B (LD f.s) p) D r L N).mono;rintro e w4⟨rfl,G2,C⟩;go_wp2;go_end0;exact⟨rfl,G2,(A.j ((Ob.ae p).Z aY)).j C⟩
def Tv{q:Nat}{k:K}(m:M)(h:bi w c q k)(f:0<=k.kW)(a:k.kW<=7)(g:fN m.v)(i:k.n<1000000000000)(h0:-4611686018427387904<=k.tT+k.Lh)(l:k.tT+k.Lh<=4611686018427387904):
  Calls prog 193 #[tp c,Wire.M.ab m] w λe j=>e=.returned (.tuple #[])/\bi j c q (k.a2 m)/\Ob [c,q] w j:=by
 unfold K.a2;by_cases b:m.v<k.nf k.kW;rw[aH b];exact Tx h f a b;rw[ay b];by_cases d:k.ae m;rw[aH d];exact Pc h f a g i h0 l b d;rw[ay d];exact J4 h f a g i b d
def gh(m:M):List Value:=[.int .i64 m.k,.int .i64 m.c,.int .i64 m.n,.int .i64 m.e,.int .i64 m.s,.int .i64 m.o,.int .i64 m.v,.bool m.l,.string m.d]
def gG(l:List M):List Value:=l.flatMap gh
def gR(w:World)(B:Nat)(v:Value)(l:List M):Prop:=w.ownsRow B 129 9 v l.length (gG l)
theorem iV(m:M):(gh m).length=9:=rfl
def rH(m:M)(l:List M):gG (m::l)=gh m++gG l:=by simp[gG]
def G8(m:M)(l:List M):gG (l++[m])=gG l++gh m:=by simp[gG]
def sV(l:List M):(gG l).length=l.length*9:=by
 induction l with
 |nil=>rfl
 |cons m l a=>rw[rH,aL,a,bJ,iV];omega
def jx:∀u∈gh m,u.oneCell'=true:=by
 intro u a;simp[gh]at a;rcases a with rfl|rfl|rfl|rfl|rfl|rfl|rfl|rfl|rfl<;>rfl
def AA(l:List M):∀u∈gG l,u.oneCell'=true:=by
 intro u a;simp only[gG,nJ]at a;let ⟨m,_,h⟩:=a
 exact jx u h
def Az:∀(l:List M) (i j:Nat) (h:i<l.length),j<9->(gG l)[i*9+j]?=(gh l[i])[j]?
 |m::l,0,j,_,a=>by rw[rH,XR,bY,bE (by rw[iV];exact a)];rfl
 |m::l,i+1,j,h,a=>by
  rw[rH,bg (by rw[iV];omega)];have e:(i+1)*9+j-(gh m).length=i*9+j:=by rw[iV];omega
  rw[e];exact Az l i j (dD h) a
def gR.e:gR w B (.slice none 0 0) []:=i6 _ _ _ _
def gR.j{w':Ba}{v:Dv}(h:gR w B v l)(a:FF w w'):gR w' B v l:=Cache.bq h a
def gR.H{B':Nat}{v:Dv}(h:gR w B v l)(e:B'<=B):gR w B' v l:=by
 refine⟨h.1,?_⟩;rcases h.2 with h|⟨g,a,b,c,f,d⟩
 exact .inl h;exact .inr ⟨g,a,b,c,ak,d⟩
def jP:(prog.info? 129).map (λi=>(i.zero,i.size,i.bytes))=some (some (.agg #[iI 0,iI 0,iI 0,iI 0,iI 0,iI 0,iI 0,.bool false,.string ⟨#[]⟩]),9,80):=bt
def GW:Instr.fill (λi=>some (i*9,9)) ((Array.range (1*9)).map ((Value.agg #[iI 0,iI 0,iI 0,iI 0,iI 0,iI 0,iI 0,.bool false,.string ⟨#[]⟩]).cells[· % (Value.agg #[iI 0,iI 0,iI 0,iI 0,iI 0,iI 0,iI 0,.bool false,.string ⟨#[]⟩]).cells.size]!)) [(0,Wire.M.ab m)]=some #[iI m.k,iI m.c,iI m.n,iI m.e,iI m.s,iI m.o,iI m.v,.bool m.l,.string m.d]:=by
 have h0:Array.range 0=#[]:=rfl;simp[Instr.fill,Wire.M.ab,Value.cells,Array.range_succ,h0]
def dS{f:Array Oper}{rest:List Oper}{o:Oper}{a:Act}{Q:Exit->Act->Ba->Prop}(i:o.guard=none)(t:Nat)(j:o.op=.buildSlice 141 1 #[(0,.tmp t)])(m:M)(p:a.eval (.tmp t)=Wire.M.ab m)(h:wpList prog f Q rest (a.put o.dst (.slice (some (FI w 0)) 1 1)) (w.alloc (.cells #[iI m.k,iI m.c,iI m.n,iI m.e,iI m.s,iI m.o,iI m.v,.bool m.l,.string m.d] 129))):wpList prog f Q (o::rest) a w:=by
 obtain⟨q,r,g,b,u⟩:=dg jP;refine wpList_buildSlice i 141 129 1 _ j _ q _ underlying141 r g (by rw[b];decide) (by rw[b];decide) ?_ h;rw[b];simp only[iw,bT,fJ,p];exact GW
def gR.one(w:Ba)(m:M)(a:B<=w.heap.size):gR (w.alloc (.cells #[iI m.k,iI m.c,iI m.n,iI m.e,iI m.s,iI m.o,iI m.v,.bool m.l,.string m.d] 129)) B (.slice (some (FI w 0)) 1 1) [m]:=by
 refine⟨by rw[sV],.inr ⟨w.heap.size,1,_,rfl,a,bo w _,aj _,by unfold maxLen;omega,rfl,rfl⟩⟩
def K.ai(k:K)(m:M):K:=if k.O=true/\k.kW=m.o then {k with gS:=qE m.o k.gS,fp:=mx k.fp m.v} else {k with gS:=qE m.o k.gS}
def K.a3(k:K)(m:M):M:=⟨4,k.id,0,m.e,0,m.o,m.v,false,⟨#[]⟩⟩
variable{k:K}
def JL{q:Nat}(m:M)(h:bi w c q k){k':K}(HK:Hid (k.ai m=k')):
  Calls prog 189 #[tp c,Wire.M.ab m] w λe N=>∃v,e=.returned v/\gR N w.heap.size v [k.a3 m]/\bi N c q k'/\Ob [c,q] w N:=by
 have a0:=h.H.1;have F:=h.h (.cells #[iI m.k,iI m.c,iI m.n,iI m.e,iI m.s,iI m.o,iI m.v,.bool m.l,.string m.d] 129);have hB:FF w (w.alloc (.cells #[iI m.k,iI m.c,iI m.n,iI m.e,iI m.s,iI m.o,iI m.v,.bool m.l,.string m.d] 129)):=(au _ _).alloc (aj _) _;have hx:(w.alloc (.cells #[iI m.k,iI m.c,iI m.n,iI m.e,iI m.s,iI m.o,iI m.v,.bool m.l,.string m.d] 129)).cell? (FI w 3)=some (iI m.e)/\(w.alloc (.cells #[iI m.k,iI m.c,iI m.n,iI m.e,iI m.s,iI m.o,iI m.v,.bool m.l,.string m.d] 129)).cell? (FI w 5)=some (iI m.o)/\(w.alloc (.cells #[iI m.k,iI m.c,iI m.n,iI m.e,iI m.s,iI m.o,iI m.v,.bool m.l,.string m.d] 129)).cell? (FI w 6)=some (iI m.v)/\w.heap.size<(w.alloc (.cells #[iI m.k,iI m.c,iI m.n,iI m.e,iI m.s,iI m.o,iI m.v,.bool m.l,.string m.d] 129)).heap.size:=aY;unfold Wire.M.ab;clear h;go_in;go_wp2_with fail
 generalize w.alloc (.cells #[.int .i64 m.k,.int .i64 m.c,.int .i64 m.n,.int .i64 m.e,.int .i64 m.s,.int .i64 m.o,.int .i64 m.v,.bool m.l,.string m.d] 129)=w1 at *;obtain⟨x3,x5,x6,a1⟩:=hx;have x:=Cache.FG m.o F.I.i F.I.s;go_region_with (go_at_call 230;refine x.mono ?_;rintro e w2⟨rfl,P,y⟩)
 have G:=F.I.ag P (JH F.s) y;have eb:=y.b w.heap.size (by show _<w1.heap.size;omega) fS;have C:w2.cell? (FI w 3)=some (iI m.e):=(aa (a:=(FI w 3)) eb).trans x3;have D:w2.cell? (FI w 5)=some (iI m.o):=(aa (a:=(FI w 5)) eb).trans x5;have E:w2.cell? (FI w 6)=some (iI m.v):=(aa (a:=(FI w 6)) eb).trans x6;have bm:=y.i;have hO:Ob [c,q] w w2:=((Ob.O hB).I).j ((Ob.ae y).Z aY);clear F hB x3 x5 x6 x P y eb;have r:=λj=>(rJ (G.e (j:=j))).mono (R':=λe N=>e=.returned (.bool k.O)/\∃n,N=(w2.drewN j).drewN n) (λe N h=>⟨h.1,0,h.2⟩);have d0:=G.c0;have d5:=G.c5;have A:=G.ap;dsimp only at d0 d5 A;have hf:=G.ae;obtain⟨b,hb⟩:∃b,k.O=b:=⟨_,rfl⟩;have Q:Hid (k.O=b):=hb;rw[hb]at r;clear hb;by_cases hc:b=true/\k.kW=m.o
 .have hk:Hid (k' = {k with gS:=qE m.o k.gS,fp:=mx k.fp m.v}):=HK.out.symm.trans (aH ⟨Q.out.trans hc.1,hc.2⟩);obtain⟨rfl,hc⟩:=hc;rw[hc]at d5;clear hc;go_wp2_with fail
  go_quiet (first|(go_at_call 141;refine Calls.quiet_of (r _)));go_wp2_with fail
  generalize p:w2.drewN _=W;have t:bi W c q {k with gS:=qE m.o k.gS}:=p▸G.e;have f:Ob [c,q] w W:=p▸hO.e;have C:W.cell? (aA w.heap.size 3)=some (iI m.e):=p▸C;have D:W.cell? (aA w.heap.size 5)=some (iI m.o):=p▸D;have E:W.cell? (aA w.heap.size 6)=some (iI m.v):=p▸E;clear p;have L:=t.ap;have R:=t.ae 11;dsimp only at L;go_still_tail 10,bt;generalize hg:(if k.fp<m.v then m.v else k.fp)=g;obtain rfl:mx k.fp m.v=g:=hg;have G4:=t.I.a3 (mx k.fp m.v);have S:=f.I.H (q:=c) (i:=11) aY (u:=iI (mx k.fp m.v));have bO:c≠w.heap.size:=ak;have z3:(W.drew.setCell (aA c 11) (iI (mx k.fp m.v))).cell? (aA w.heap.size 3)=some (iI m.e):=(am _ _ _ _ (by intro e;injection e with e;omega)).trans C;have z5:(W.drew.setCell (aA c 11) (iI (mx k.fp m.v))).cell? (aA w.heap.size 5)=some (iI m.o):=(am _ _ _ _ (by intro e;injection e with e;omega)).trans D;have z6:(W.drew.setCell (aA c 11) (iI (mx k.fp m.v))).cell? (aA w.heap.size 6)=some (iI m.v):=(am _ _ _ _ (by intro e;injection e with e;omega)).trans E;have T:W.drew.frozen? (aA c 11)=false:=R;have U:W.drew.cell? (aA c 11)=some (iI k.fp):=L;go_wp2_with fail
  have G5:bi (W.setCell (aA c 11) (iI (mx k.fp m.v))).drew c q {k with gS:=qE m.o k.gS,fp:=mx k.fp m.v}:=G4;have aS:Ob [c,q] w (W.setCell (aA c 11) (iI (mx k.fp m.v))).drew:=S;have C:(W.setCell (aA c 11) (iI (mx k.fp m.v))).drew.cell? (aA w.heap.size 3)=some (iI m.e):=z3;have D:(W.setCell (aA c 11) (iI (mx k.fp m.v))).drew.cell? (aA w.heap.size 5)=some (iI m.o):=z5;have E:(W.setCell (aA c 11) (iI (mx k.fp m.v))).drew.cell? (aA w.heap.size 6)=some (iI m.v):=z6;clear G4 S z3 z5 z6 T U r hf d5 A R L;generalize (W.setCell ⟨c,11,none⟩ (.int .i64 (mx k.fp m.v))).drew=W2 at *;clear t f;have t:=G5;have f:=aS;have V:=t.c0;dsimp only at V;have X:=f.i;go_still_tail 11,bt;refine dS rfl 43 rfl ⟨4,k.id,0,m.e,0,m.o,m.v,false,⟨#[]⟩⟩ rfl ?_;have J:=gR.one W2 (B:=w.heap.size) ⟨4,k.id,0,m.e,0,m.o,m.v,false,⟨#[]⟩⟩ (by show _<=W2.heap.size;omega);have Y:=(t.h (.cells #[iI 4,iI k.id,iI 0,iI m.e,iI 0,iI m.o,iI m.v,.bool false,.string ⟨#[]⟩] 129)).I;have z:=(f.h (.cells #[iI 4,iI k.id,iI 0,iI m.e,iI 0,iI m.o,iI m.v,.bool false,.string ⟨#[]⟩] 129)).I;dsimp only at J;go_wp2;go_ret;exact⟨_,rfl,J,hk.out▸Y,z⟩
 .have hk:Hid (k' = {k with gS:=qE m.o k.gS}):=HK.out.symm.trans (ay λe=>hc ⟨Q.out.symm.trans e.1,e.2⟩);cases b with
  |false=>
   clear hc;go_wp2_with fail
   go_quiet (first|(go_at_call 141;refine Calls.quiet_of (r _)));go_wp2_with fail
   generalize p:w2.drewN _=W;have t:bi W c q {k with gS:=qE m.o k.gS}:=p▸G.e;have f:Ob [c,q] w W:=p▸hO.e;have C:W.cell? (aA w.heap.size 3)=some (iI m.e):=p▸C;have D:W.cell? (aA w.heap.size 5)=some (iI m.o):=p▸D;have E:W.cell? (aA w.heap.size 6)=some (iI m.v):=p▸E;clear p;have V:=t.c0;dsimp only at V;have X:=f.i;clear r hf d5 A;go_still_tail 11,bt;refine dS rfl 43 rfl ⟨4,k.id,0,m.e,0,m.o,m.v,false,⟨#[]⟩⟩ rfl ?_;have J:=gR.one W (B:=w.heap.size) ⟨4,k.id,0,m.e,0,m.o,m.v,false,⟨#[]⟩⟩ (by show _<=W.heap.size;omega);have Y:=(t.h (.cells #[iI 4,iI k.id,iI 0,iI m.e,iI 0,iI m.o,iI m.v,.bool false,.string ⟨#[]⟩] 129)).I;have z:=(f.h (.cells #[iI 4,iI k.id,iI 0,iI m.e,iI 0,iI m.o,iI m.v,.bool false,.string ⟨#[]⟩] 129)).I;dsimp only at J;go_wp2;go_ret;exact⟨_,rfl,J,hk.out▸Y,z⟩
  |true=>
   have ad:¬k.kW=m.o:=λe=>hc ⟨rfl,e⟩;have bR:(k.kW==m.o)=false:=dD ad;clear hc ad;go_wp2_with fail
   go_quiet (first|(go_at_call 141;refine Calls.quiet_of (r _)));go_wp2_with fail
   generalize p:w2.drewN _=W;have t:bi W c q {k with gS:=qE m.o k.gS}:=p▸G.e;have f:Ob [c,q] w W:=p▸hO.e;have C:W.cell? (aA w.heap.size 3)=some (iI m.e):=p▸C;have D:W.cell? (aA w.heap.size 5)=some (iI m.o):=p▸D;have E:W.cell? (aA w.heap.size 6)=some (iI m.v):=p▸E;clear p;have V:=t.c0;dsimp only at V;have X:=f.i;clear r hf d5 A;go_still_tail 11,bt;refine dS rfl 43 rfl ⟨4,k.id,0,m.e,0,m.o,m.v,false,⟨#[]⟩⟩ rfl ?_;have J:=gR.one W (B:=w.heap.size) ⟨4,k.id,0,m.e,0,m.o,m.v,false,⟨#[]⟩⟩ (by show _<=W.heap.size;omega);have Y:=(t.h (.cells #[iI 4,iI k.id,iI 0,iI m.e,iI 0,iI m.o,iI m.v,.bool false,.string ⟨#[]⟩] 129)).I;have z:=(f.h (.cells #[iI 4,iI k.id,iI 0,iI m.e,iI 0,iI m.o,iI m.v,.bool false,.string ⟨#[]⟩] 129)).I;dsimp only at J;go_wp2;go_ret;exact⟨_,rfl,J,hk.out▸Y,z⟩
def JK{q:Nat}(m:M)(h:bi w c q k):
  Calls prog 189 #[tp c,Wire.M.ab m] w λe a=>∃v,e=.returned v/\gR a w.heap.size v [k.a3 m]/\bi a c q (k.ai m)/\Ob [c,q] w a:=JL m h rfl
end Wld
open Wire (tS iv)
namespace Net
variable{B:Nat}{t:DU}{a b c:Ba}
def dp(ps:List (Int×ByteArray)):List Value:=ps.flatMap λp=>[.int .i64 p.1,.string p.2]
def FR(ps:List (Int×DS))(p:Int×DS):dp (ps++[p])=dp ps++[iI p.1,.string p.2]:=by simp[dp]
def Je(ps:List (Int×DS)):∀u∈dp ps,u.oneCell'=true:=by
 intro u a;simp only[dp,nJ]at a;let ⟨p,_,h⟩:=a
 simp at h;rcases h with rfl|rfl<;>rfl
def zW:∀(ps:List (Int×DS)) (k:Nat) (h:k<ps.length),(dp ps)[k*2]?=some (iI ps[k].1)/\(dp ps)[k*2+1]?=some (.string ps[k].2)
 |p::ps,0,_=>by
  have e:dp (p::ps)=[iI p.1,.string p.2]++dp ps:=by simp[dp]
  rw[e];simp
 |p::ps,k+1,h=>by
  have e:dp (p::ps)=[iI p.1,.string p.2]++dp ps:=by simp[dp]
  rw[e,bg fS,bg fS];have a:(k+1)*2-[Value.int .i64 p.1,Value.string p.2].length=k*2:=fS;have b:(k+1)*2+1-[Value.int .i64 p.1,Value.string p.2].length=k*2+1:=fS;rw[a,b];simpa using (zW ps k (dD h))
structure gJ(B:Nat)(t:TypeId)(q:Nat)(w w':World):Prop where
 x:w'.os=w.os
 p:w'.tape=w.tape
 j:w'.output=w.output
 h:w.heap.size<=w'.heap.size
 b:∀k,k<w.heap.size->k≠q->(k<B\/∀c f,w.heap[k]?≠some (.cells c t f))->w'.heap[k]?=w.heap[k]?
 o:∀i,q<w.heap.size->q<B->(i<12405\/12406<i)->w'.cell? ⟨q,i,none⟩=w.cell? ⟨q,i,none⟩
 s:∀i,q<w.heap.size->q<B->w'.frozen? ⟨q,i,none⟩=w.frozen? ⟨q,i,none⟩
 u:∀e,q<B->(∃cs f,w.heap[q]?=some (.cells cs e f))->∃cs f,w'.heap[q]?=some (.cells cs e f)
def gJ.O{q:Nat}{w:Ba}:gJ B t q w w:=⟨rfl,rfl,rfl,aj _,λ_ _ _ _=>rfl,λ_ _ _ _=>rfl,λ_ _ _=>rfl,λ_ _ h=>h⟩
def gJ.V{q:Nat}(h:gJ B t q a b)(k:gJ B t q b c):gJ B t q a c:=
 ⟨k.x.trans h.x,k.p.trans h.p,k.j.trans h.j,aO h.h k.h,λi g d l=>by
  have e:=h.b i g d l;rw[k.b i (aN g h.h) d (e▸l),e],
  λi d f g=>(k.o i (aN d h.h) f g).trans (h.o i d f g),λi d f=>(k.s i (aN d h.h) f).trans (h.s i d f),λe f l=>k.u e f (h.u e f l)⟩
def gJ.I{q:Nat}(h:gJ B t q a b)(l:c.os=b.os)(m:c.tape=b.tape)(n:c.output=b.output)(hs:b.heap.size<=c.heap.size)(i:∀k,k<b.heap.size->(k<B\/∀d f,b.heap[k]?≠some (.cells d t f))->c.heap[k]?=b.heap[k]?):gJ B t q a c:=
 h.V ⟨l,m,n,hs,λk o _ e=>i k o e,λ_ j g _=>aa (i q j (.inl g)),λ_ j g=>aG (i q j (.inl g)),λ_ g e=>e.imp λ_ e=>e.imp λ_ e=>(i q (ar.1 e).1 (.inl g)).trans e⟩
def gJ.e{q:Nat}(h:gJ B t q a b){o:Obj}:gJ B t q a (b.alloc o):=
 h.I rfl rfl rfl aY (λi c _=>ff b o i c)
def gJ.ac{q:Nat}(h:gJ B t q a b):gJ B t q a b.drew:=⟨h.x,h.p,h.j,h.h,h.b,h.o,h.s,h.u⟩
def gJ.H{q i:Nat}(h:gJ B t q a b){u:Dv}(h0:12405<=i)(j:i<=12406):gJ B t q a (b.setCell (aA q i) u):=
 h.V ⟨rfl,rfl,rfl,aY,λk _ d _=>aQ b (aA q i) u k d,λk _ _ l=>am _ _ _ _ (by intro e;injection e with _ e;omega),λk _ _=>aT _ _ _ _,λe _ c=>by
  obtain⟨g,f,c⟩:=c;exact⟨g.setIfInBounds i u,f,by simp[World.setCell,bL,c]⟩⟩
def gJ.ab{q s n:Nat}{v:Dv}{xs:List Dv}(h:gJ B t q a b)(i:b.ownsRow B t s v n xs)(d:b.grownBy c v.ownBlock):gJ B t q a c:=
 h.I d.os d.tape d.output d.size (λk j f=>d.block k j (λe=>by
  rcases i.2 with⟨rfl,_⟩|⟨g,l,m,rfl,p,o,_⟩
  simp[Value.ownBlock]at e;simp[Value.ownBlock]at e;subst e;rcases f with f|f
  omega;exact f _ _ o))
structure eD(w:World)(B q:Nat)(ps:List (Int×ByteArray)):Prop where
 b:∃v,w.cell? ⟨q,12405,none⟩=some v/\w.ownsRow B 201 2 v ps.length (dp ps)
 o:∃l,w.cell? ⟨q,12406,none⟩=some (.int .i64 l)
 h:∀i,w.frozen? ⟨q,i,none⟩=false
 s:q<B
 p:B<=w.heap.size
 j:ps.length<=200
def xn:(prog.info? 201).map (λi=>(i.zero,i.size,i.bytes))=some (some (.agg #[iI 0,.string ⟨#[]⟩]),2,24):=bt
end Net
namespace Wire
abbrev ZO (m:M):Array Value:=#[.int .i64 m.k,.int .i64 m.c,.int .i64 m.n,.int .i64 m.e,.int .i64 m.s,.int .i64 m.o,.int .i64 m.v]
def Si{P:Ft}{b:Array Oper}{o:Oper}{a:Act}{w:Ba}{K:Act->Ba->Prop}{Q:Exit->Act->Ba->Prop}{E:Prop}(c:o.guard=none)(h:Oper.wp P o a w K Q):if Region.wanted o (yielded b a.tmps)=true then Oper.wp P o a w K Q else E:=by
 rw[aH (by simp[Region.wanted,c])];exact h
end Wire
namespace Net
variable{s:DS}{k:Int}{ps:List (Int×DS)}{xs:List Dv}{n B sz i:Nat}{o1 o2:Obj}{x:Dv}{w w1:Ba}
def jW(k:Int)(n:Nat):Bool:=decide (0<=k/\k<(n:Int))
def wv(h0:0<=k)(a:k<(n:Int)):jW k n=true:=by simp[jW,h0,a]
def Ry(h0:k<0):jW k n=false:=by simp[jW];omega
def Ny(h0:(n:Int)<=k):jW k n=false:=by simp[jW];omega
def cP{e:DU}{s:Nat}{v:Dv}(h:w.ownsRow B e s v n xs):∃ao c,v=.slice ao n c/\n<=c/\(ao=none->n=0/\c=0):=by
 rcases h.2 with⟨rfl,rfl⟩|⟨g,a,b,rfl,_,_,d,_⟩
 exact⟨none,0,rfl,aj _,λ_=>⟨rfl,rfl⟩⟩;exact⟨_,a,rfl,d,λh=>by cases h⟩
def ye{q:Nat}{ao:Option Addr}{c:Nat}(k:Int)(b:n<=200)(hc:cC w (aA q 12405) (.slice ao n c)):
  Calls prog 126 #[.pointer (some (aA q 12405)),iI k] w λe d=>e=.returned (.bool (jW k n))/\d=w:=by
 by_cases h0:0<=k
 .by_cases a:k<(n:Int)
  .rw[wv h0 a];go_in;go_wp2;go_ret;exact⟨rfl,rfl⟩
  .rw[Ny ak];have f:= aK a;go_in;go_wp2;go_ret;exact⟨rfl,rfl⟩
 .rw[Ry ak];have f:= aK h0;go_in;go_wp2;go_ret;exact⟨rfl,rfl⟩
def Ru{q:Nat}{tz:Int}(h:eD w B q ps)(j:ps.length=200):
  Calls prog 133 #[.pointer (some (aA q 12405)),.agg #[iI tz,.string s]] w λe k=>e=.returned (.tuple #[])/\eD k B q ps/\gJ B 201 q w k:=by
 obtain⟨⟨v,l,b⟩,⟨m,d⟩,f,g,n,_⟩:=h;obtain⟨ao,c,rfl,o,_⟩:=cP b;have p:=f 12406;rw[j]at l b;have r:q<w.heap.size:=ak;go_in;go_wp2;refine bn (v:=.tuple #[]) (by simp[results,results133]) rfl ⟨rfl,?_,((gJ.O).H ak ak).e⟩;refine⟨⟨.slice ao 200 c,?_,?_⟩,?_,λi=>?_,g,fS,ak⟩;rw[aC _ _ (aA q 12405) fS,am _ _ _ _ aY,l];rw[j];exact(gU b (a:=(aA q 12406)) g _).alloc _;exact⟨_,(aC _ _ (aA q 12406) fS).trans (az _ _ _ d)⟩;rw[cX _ _ _ fS];simpa using f i
def RA(w:Ba){y:Dv}{o:Obj}:∀j u,[x,y][j]?=some u->((w.alloc o).alloc (.cells #[x,y] 201)).drew.cell? (((aA (w.heap.size+1) 0):Addr).add j)=some u:=by
 intro j u a;match j,a with
 |0,a=>simp at a;subst a;simp[Addr.add]
 |1,a=>simp at a;subst a;simp[Addr.add]
 |n+2,a=>simp at a
def RD{tz:Int}:∀u∈[Value.int .i64 tz,Value.string s],u.oneCell'=true:=by intro u a;simp at a;rcases a with rfl|rfl<;>rfl
def Cf{q:Nat}{e:DU}{v:Dv}(a:w.ownsRow B e sz v n xs)(b:((w.alloc o1).alloc o2).drew.grownBy w1 v.ownBlock)(c:q<w.heap.size)(d:q<B):w1.heap[q]?=w.heap[q]?:=by
 rw[b.block q fS (λh=>by have:=(a.lt q h.symm).1;omega)];show ((w.alloc o1).alloc o2).heap[q]?=_;rw[ff _ _ _ fS,ff _ _ _ c]
def FN{q:Nat}{e:DU}{v:Dv}(a:w.ownsRow B e sz v n xs)(b:((w.alloc o1).alloc o2).drew.grownBy w1 v.ownBlock)(c:q<w.heap.size)(d:q<B)(hc:cC w (aA q i) x):cC w1 (aA q i) x:=
 (aa (Cf a b c d)).trans hc
def FP{q:Nat}{e:DU}{v:Dv}(a:w.ownsRow B e sz v n xs)(b:((w.alloc o1).alloc o2).drew.grownBy w1 v.ownBlock)(c:q<w.heap.size)(d:q<B)(hc:w.frozen? (aA q i)=false):w1.frozen? (aA q i)=false:=
 (aG (Cf a b c d)).trans hc
def VU{q:Nat}{tz:Int}{v d u:Dv}(h:w.ownsRow B 201 2 v ps.length (dp ps))(m:w1.ownsRow B 201 2 d (ps.length+1) (dp ps++[iI tz,.string s]))(f:((w.alloc o1).alloc o2).drew.grownBy w1 v.ownBlock)(l:q<w.heap.size)(g:q<B)(n:B<=w.heap.size){b:Int}(c:cC w (aA q 12406) (iI b))(j:∀i,w.frozen? (aA q i)=false)(hc:cC w1 (aA q 12405) u)(r:ps.length<200):
  eD (w1.setCell (aA q 12405) d) B q (ps++[(tz,s)])/\gJ B 201 q w (w1.setCell (aA q 12405) d):=by
 have k:=f.size;simp at k;refine⟨⟨⟨d,az _ _ _ hc,?_⟩,?_,λi=>?_,g,fS,fS⟩,?_⟩;rw[aL,FR];exact gU m (a:=(aA q 12405)) g _;exact⟨b,(am _ _ _ _ aY).trans (FN h f l g c)⟩;simpa using FP h f l g (j i);have p:= (h.alloc o1).alloc o2;exact gJ.H (gJ.ab ((((gJ.O).e (o:=o1)).e (o:=o2)).ac) p f) ak ak
def Rv{q:Nat}{tz:Int}(h:eD w B q ps)(x:ps.length<200):
  Calls prog 133 #[.pointer (some (aA q 12405)),.agg #[iI tz,.string s]] w λe t=>e=.returned (.tuple #[])/\eD t B q (ps++[(tz,s)])/\gJ B 201 q w t:=by
 let ⟨⟨v,y,b⟩,⟨u,f⟩,j,g,l,_⟩:=h
 obtain⟨ao,c,rfl,z,_⟩:=cP b;have i:q<w.heap.size:=ak;let ⟨A,C,m,n,o⟩:=dg xn
 have a:=b;have D:∀o1 o2,B<=((w.alloc o1).alloc o2).drew.heap.size:=λo1 o2=>fS;go_in;go_wp2;go_region_law (refine Wire.Si rfl (wp_append_own _ (.tmp 21) (.tmp 23) 75 rfl B 201 A (.agg #[iI 0,.string ⟨#[]⟩]) 2 24 underlying75 C m n o rfl cn _ _ _ (by simp[Act.eval]) ((b.alloc _).alloc _) (aA (w.heap.size+1) 0) 1 1 [iI tz,.string s] (by simp[Act.eval]) rfl (RA _) (RD) (by unfold maxLen;omega) ak (D _ _) ?_);intro G w1 d p _;have r:= FN a p i g y;have E:= FP a p i g (j 12405);let ⟨F,c1,k,_,_⟩:=cP d;rw[k]at d;rw[k]);all_goals
  go_wp2;go_end0;exact⟨rfl,(VU a d p i g l f j r x)⟩
end Net
namespace Wld
variable{d:DS}{now:Int}{l:List M}{m c:Nat}{o:Obj}{w:Ba}
def gR.I{w1:Ba}{B:Nat}{b:Dv}{m:M}(a:w1.ownsRow B 129 9 b (l.length+1) (gG l++gh m)):gR w1 B b (l++[m]):=by
 unfold gR;rw[aL,G8];exact a
def bi.ao{w2:Ba}{k:K}{row:Option Nat}(h:bi w c m k)(a:(w.alloc o).grownBy w2 row)(hc:row≠some c)(d:row≠some m):bi w2 c m k:=by
 have b:=h.H;exact h.j ((a.block c fS (λe=>hc e.symm)).trans (ff w o c b.1)) ((a.block m fS (λe=>d e.symm)).trans (ff w o m b.2))
def Ob.ac{bs:List Nat}{a b c:Ba}{row:Option Nat}(h:Ob bs a b)(f:(b.alloc o).grownBy c row)(l:∀g,row=some g->a.heap.size<=g):Ob bs a c:=by
 have d:=h.h o;exact⟨f.os.trans d.s,f.tape.trans d.p,f.output.trans d.o,aO d.i f.size,λk j m=>by
  rw[f.block k (aN j d.i) (λe=>by have:=l k e.symm;omega)];exact d.b k j m⟩
def m8(w:Ba)(m:M):∀j u,(gh m)[j]?=some u->(w.alloc (.cells #[iI m.k,iI m.c,iI m.n,iI m.e,iI m.s,iI m.o,iI m.v,.bool m.l,.string m.d] 129)).cell? (((FI w 0):Addr).add j)=some u:=by
 intro j u a;rw[Addr.add_mid,bY,bN _ _ _ _ _ _ (bo w _),<-a];exact bH
def K.a4(k:K):Value:=.agg #[.int .i64 k.pB,.int .i64 k.kW,.string k.d,.int .i64 k.Sl,.bool k.oE,.bool k.N7]
def Sy{k:K}(h:bi w c m k):
  Calls prog 140 #[tp c] w λe a=>e=.returned k.a4/\FF w a:=by
 have c4:=h.c4;have c5:=h.c5;have c6:=h.c6;have c7:=h.c7;have c8:=h.c8;have c9:=h.c9;have b:=h.H.1;have f:c≠w.heap.size:=ak;unfold K.a4;go_in;go_wp2;exact bn (v:=.agg #[iI k.pB,iI k.kW,.string k.d,iI k.Sl,.bool k.oE,.bool k.N7]) (by simp[results,results140,go_sem]) rfl ⟨rfl,(au _ _).alloc (aj _) _⟩
def Aj{n:Int}(h:n≠0):eV n=.iface 59 (iI n):=ay h
def K.e(k:K)(o:Int)(d:ByteArray):Int:=if k.h o≠0 then k.h o else if 20<d.size then 4 else 0
def Oa{k:K}{o:Int}(now:Int)(h:bi w c m k)(n:d.size<=1000000)(f:k.e o d≠0):
  Calls prog 60 #[tp c,iI o,.string d,iI now] w λe j=>e=.returned (eV (k.e o d))/\j=w:=by
 have a:=vj o h;by_cases h0:k.h o=0
 .rw[h0,show eV 0=.nilIface from rfl]at a;have g:Hid (k.e o d=4):=by
   unfold K.e at f⊢;rw[h0]at f⊢;rw[ay aY]at f⊢;by_cases b:20<d.size;rw[aH b];rfl;rw[ay b]at f;exact absurd rfl f
  have b:20<d.size:=by
   have i:=g.out;unfold K.e at i;rw[h0,ay aY]at i;by_cases b:20<d.size;exact b;rw[ay b]at i;simp at i
  have l:(20:Int)<(d.size:Int):=ak;go_in;go_wp2_with (go_at_call 74;refine a.mono ?_;rintro x j⟨rfl,rfl⟩)
  go_ret;exact⟨by rw[g.out];rfl,rfl⟩
 .have g:Hid (k.e o d=k.h o):=aH h0;rw[Aj h0]at a;go_in;go_wp2_with (go_at_call 74;refine a.mono ?_;rintro x j⟨rfl,rfl⟩)
  go_ret;exact⟨by rw[g.out,Aj h0];rfl,rfl⟩
def Sq{k:K}{o:Int}(h:bi w c m k)(b:k.e o d=0)(h0:0<=k.yi)(l:k.yi<=4611686018427387904):
  Calls prog 60 #[tp c,iI o,.string d,iI now] w λe g=>e=.returned .nilIface/\bi g c m (k.V 2 o d 0 false false now)/\Ob [c,m] w g:=by
 have a:=vj o h;have i:k.h o=0:=by
  unfold K.e at b;by_cases h0:k.h o≠0;rw[aH h0]at b;exact absurd b h0;omega
 have j:¬(20:Int)<(d.size:Int):=by
  unfold K.e at b;rw[i,ay aY]at b;by_cases j:20<d.size;rw[aH j]at b;simp at b;omega
 rw[i,show eV 0=.nilIface from rfl]at a;have f:=Cw 2 o d 0 false false now h h0 l;go_in;go_wp2_with (first|(go_at_call 74;refine a.mono ?_;rintro x g⟨rfl,rfl⟩)|(go_at_call 75;refine f.mono ?_;rintro x w1⟨rfl,G,n⟩))
 go_ret;exact⟨rfl,G,n⟩
def K.ag(k:K)(now:Int):List M:=(if k.Li<=now+2 then [k.ap] else [])++(if k.O=true then [k.ab] else [])
def K.ah(k:K)(now:Int):K:=if k.Li<=now+2 then k.an now else k
def Gl{k:K}(h:bi w c m k)(h0:0<=k.eJ)(T:k.eJ<=4611686018427387904)(U:0<=now)(V:now<=4611686018427387904)(ht:k.Li<=now+2)(W:Hid ([k.ap]++(if k.O=true then [k.ab] else [])=l)):
  Calls prog 125 #[tp c,iI now] w λe L=>∃v,e=.returned v/\gR L w.heap.size v l/\bi L c m (k.an now)/\Ob [c,m] w L:=by
 let ⟨P,Q,u,y,z⟩:=dg jP
 have X:=h.H;have Y:=h.aq;go_in;go_wp2_with fail
 apply (Pe now h h0 T).mono;rintro x w1⟨rfl,G,R⟩;have Z:=R.i;let ⟨d,A⟩:∃d,k.ap=d:=⟨_,rfl⟩
 rw[A];go_wp2_with (first|refine dS rfl 16 rfl d rfl ?_|(at_builtin;refine eO _ rfl _ _ 141 rfl w.heap.size 129 P (.agg #[iI 0,iI 0,iI 0,iI 0,iI 0,iI 0,iI 0,.bool false,.string ⟨#[]⟩]) 9 80 underlying141 Q u y z rfl cn _ _ _ rfl ((gR.e)) (FI w1 0) 1 1 (gh d) rfl rfl (m8 w1 d) (jx) ?r3 ?r4 ?r5 ?_))
 case r3=>simp[maxLen]
 case r4=>simp
 case r5=>simp;omega
 intro v2 w2 a f _;have M:= gR.I a;have J:=G.ao f (by simp[Value.ownBlock]) (by simp[Value.ownBlock]);have n:=Ob.ac R f (by simp[Value.ownBlock]);have ad:=n.i;rw[cS]at M;have o:=rJ J;have B:(k.an now).O=k.O:=rfl;have p:=xC J;have C:(k.an now).ab=k.ab:=rfl;rw[B]at o;rw[C]at p;let ⟨b,S⟩:∃b,k.O=b:=⟨_,rfl⟩
 let ⟨t,D⟩:∃t,k.ab=t:=⟨_,rfl⟩
 rw[S]at o;rw[D]at p;have E:Hid ([d]++(if b=true then [t] else [])=l):=by rw[<-S,<-D];exact(A▸W)
 go_wp2_with fail
 apply o.mono;rintro x w3⟨rfl,rfl⟩;cases b with
 |false=>
  go_wp2;go_ret;have e:= E.out.symm;rw[e];exact⟨_,rfl,M,J,n⟩
 |true=>
  go_wp2_with fail
  apply p.mono;rintro x w4⟨rfl,q⟩;have G4:=J.ab q;have r:=M.j q;have F:=n.j (Ob.O q);have aS:=F.i;obtain⟨ao,cc,rfl,a0,_⟩:=Net.cP r;go_wp2_with (first|refine dS rfl 23 rfl t rfl ?_|(at_builtin;refine eO _ rfl _ _ 141 rfl w.heap.size 129 P (.agg #[iI 0,iI 0,iI 0,iI 0,iI 0,iI 0,iI 0,.bool false,.string ⟨#[]⟩]) 9 80 underlying141 Q u y z rfl cn _ _ _ rfl (r.alloc _) (FI w4 0) 1 1 (gh t) rfl rfl (m8 w4 t) (jx) ?r3 ?r4 ?r5 ?_))
  case r3=>simp[maxLen]
  case r4=>simp
  case r5=>simp;omega
  intro v5 w5 a f _;have N:= gR.I a;have s:∀g,(Value.slice ao [d].length cc).ownBlock=some g->w.heap.size<=g:=λg f=>(bj r g f).1;go_wp2;go_ret;have e:= E.out.symm;rw[e];exact⟨_,rfl,N,(G4.ao f (λe=>by have:=s _ e;omega) (λe=>by have:=s _ e;omega)),(Ob.ac F f s)⟩
def Gp{k:K}(h:bi w c m k)(A:0<=now)(B:now<=4611686018427387904)(M:¬k.Li<=now+2)(C:Hid ((if k.O=true then [k.ab] else [])=l)):
  Calls prog 125 #[tp c,iI now] w λe q=>∃v,e=.returned v/\gR q w.heap.size v l/\bi q c m k/\Ob [c,m] w q:=by
 let ⟨D,E,r,s,t⟩:=dg jP
 have F:=h.H;have G:=h.aq;have d:=rJ h;have f:=xC h;let ⟨b,y⟩:∃b,k.O=b:=⟨_,rfl⟩
 let ⟨a,g⟩:∃a,k.ab=a:=⟨_,rfl⟩
 rw[y]at d;rw[g]at f;have j:Hid ((if b=true then [a] else [])=l):=by rw[<-y,<-g];exact C

 go_in;go_wp2_with fail
 apply d.mono;rintro x w3⟨rfl,rfl⟩

 cases b with
 |false=>
  go_wp2;go_ret;have e:l=[]:=j.out.symm;rw[e];exact⟨_,rfl,gR.e,h,Ob.V _ _⟩
 |true=>
  go_wp2_with fail
  apply f.mono;rintro x w4⟨rfl,n⟩;have J:=h.ab n;have o:Ob [c,m] w3 w4:=Ob.O n;have L:=o.i;go_wp2_with (first|refine dS rfl 23 rfl a rfl ?_|(at_builtin;refine eO _ rfl _ _ 141 rfl w3.heap.size 129 D (.agg #[iI 0,iI 0,iI 0,iI 0,iI 0,iI 0,iI 0,.bool false,.string ⟨#[]⟩]) 9 80 underlying141 E r s t rfl cn _ _ _ rfl (gR.e) (FI w4 0) 1 1 (gh a) rfl rfl (m8 w4 a) (jx) ?r3 ?r4 ?r5 ?_))
  case r3=>simp[maxLen]
  case r4=>simp
  case r5=>simp;omega
  intro N P p z _;have u:= gR.I p;go_wp2;go_ret;have e:= j.out.symm;rw[e];exact⟨_,rfl,u,(J.ao z (by simp[Value.ownBlock]) (by simp[Value.ownBlock])),(Ob.ac o z (by simp[Value.ownBlock]))⟩
def Od{k:K}(h:bi w c m k)(h0:0<=k.eJ)(g:k.eJ<=4611686018427387904)(b:0<=now)(d:now<=4611686018427387904):
  Calls prog 125 #[tp c,iI now] w λe f=>∃v,e=.returned v/\gR f w.heap.size v (k.ag now)/\bi f c m (k.ah now)/\Ob [c,m] w f:=by
 unfold K.ag K.ah;by_cases a:k.Li<=now+2;rw[aH a,aH a];exact Gl h h0 g b d a rfl;rw[ay a,ay a,cS];exact Gp h b d a rfl
def K.ao(k:K)(o now:Int):K:=
 match (k.V 1 o ⟨#[]⟩ 0 false false now).aw o now with
 |none=>(k.V 1 o ⟨#[]⟩ 0 false false now).H o
 |some x=>({ (k.V 1 o ⟨#[]⟩ 0 false false now).H o with N7:=true}:K).Z x.d x.v
variable{k:K}
def Sp(o now:Int)(h:bi w c m k)(d:k.h o≠0):
  Calls prog 42 #[tp c,iI o,iI now] w λe b=>e=.returned (eV (k.h o))/\b=w:=by
 have a:=vj o h;rw[Aj d]at a⊢;go_in;go_wp2_with (go_at_call 74;refine a.mono ?_;rintro x b⟨rfl,rfl⟩)
 go_ret;exact⟨rfl,rfl⟩
def Bj(k:K)(o:Int):(k.H o).kW=k.kW/\(k.H o).n=k.n:=by
 unfold K.H;split<;>exact⟨rfl,rfl⟩
def Ws(o now:Int)(h:bi w c m k)(P:k.h o=0)(h0:0<=k.yi)(Q:k.yi<=4611686018427387904)(R:0<=o)(t:o<=7)(hn:k.n<1000000000000)(z:∀x∈k.gS,fN x.v){A:K}(B:Hid (k.ao o now=A)):
  Calls prog 42 #[tp c,iI o,iI now] w λe C=>e=.returned .nilIface/\bi C c m A/\Ob [c,m] w C:=by
 have a:=vj o h;have f:=Cw 1 o ⟨#[]⟩ 0 false false now h h0 Q;rw[P,show eV 0=.nilIface from rfl]at a;have S:=h.H;go_in;go_wp2_with fail
 apply a.mono;rintro x C⟨rfl,rfl⟩;go_wp2_with fail
 apply f.mono;rintro x w1⟨rfl,G,J⟩;have L:(k.V 1 o ⟨#[]⟩ 0 false false now).kW=o:=rfl;have T:(k.V 1 o ⟨#[]⟩ 0 false false now).n=k.n:=rfl;have D:(k.V 1 o ⟨#[]⟩ 0 false false now).gS=k.gS:=rfl;have E:Hid ((match (k.V 1 o ⟨#[]⟩ 0 false false now).aw o now with
  |none=>(k.V 1 o ⟨#[]⟩ 0 false false now).H o
  |some x=>({ (k.V 1 o ⟨#[]⟩ 0 false false now).H o with N7:=true}:K).Z x.d x.v)=A):=B.out

 generalize k.V 1 o ⟨#[]⟩ 0 false false now=k1 at *;have M:=WD o now G R t;have U:=Bj k1 o;have g:∀x,k1.aw o now=some x->fN x.v:=by
  intro x b;unfold K.aw at b;split at b;exact absurd b aY;rename_i y W;split at b;exact absurd b aY;injection b with b
  subst b;exact z _ (by rw[<-D];exact gy W)
 let ⟨r,F⟩:∃r,k1.aw o now=r:=⟨_,rfl⟩
 rw[F]at M g E;go_wp2_with fail
 apply M.mono;rintro x w2⟨rfl,s,l⟩;have X:=J.i;have Y:=l.i;have p:=J.j l;cases r with
 |none=>
  dsimp only[ua];go_wp2;go_ret;have e:= E.out.symm;rw[e];exact⟨rfl,s.h _,p.h _⟩
 |some x=>
  dsimp only[ua];have d9:=s.c9;have hf:=s.ae;have N:c≠w2.heap.size:=ak;have O:c<w2.heap.size:=ak;have e :Hid _:= E.out.symm;go_wp2_with fail
  refine(m9 x.d ((λo=>(s.s9 true).h o) _) (by show 0<=(k1.H o).kW;omega) (by show (k1.H o).kW<=7;omega) (g x rfl) (by show (k1.H o).n<_;omega)).mono ?_;rintro y w3⟨rfl,G5,I⟩;go_wp2;go_ret;rw[e.out];exact⟨rfl,G5,((λob=>(p.H (q:=c) (i:=9) aY (u:=.bool true)).h ob) _).j I⟩
end Wld
end Go.Proofs.YtbebfliimjjohabGreatDoor
