/- Parts of the proof. -/
import Derived.Test.YtbebfliimjjohabGreatDoorM29
set_option maxRecDepth 100000
set_option maxHeartbeats 8000000
set_option linter.all false
open Go.Proofs.Tryz
namespace Go.Proofs.YtbebfliimjjohabGreatDoor
open Go.RowKit Go.Maps
open Wire (tS iv ru sd)
open Num (dq fO M iH)
open Lease (Ob fN ic cy jm fY eI de bQ dW mx kk)
open Cache (tp aZ bq E mj qE)
open Wal (R du bM Oq Fw cO jv fH)
namespace Net
variable{ps:List (Int×DS)}{B n:Nat}{t:DU}{u:Dv}{w:Ba}
def yf{q:Nat}(k:Int)(h:eD w B q ps)(l:jW k ps.length=false):
  Calls prog 63 #[.pointer (some ⟨q,12405,none⟩),.int .i64 k] w λe w'=>e=.returned (.tuple #[.agg #[.int .i64 0,.slice none 0 0],.iface 59 (.int .i64 2)])/\FF w w':=by
 obtain⟨⟨v,g,a⟩,_,_,i,j,b⟩:=h;obtain⟨ao,c,rfl,_,_⟩:=cP a;have d:q<w.heap.size:=ak;have f:=λo=>(aC w o (aA q 12405) d).trans g;go_in;go_wp2_with (go_at_call 126;refine(ye k b (f _)).mono ?_;rintro e w'⟨rfl,rfl⟩)
 exact bn (v:=.tuple #[.agg #[iI 0,.slice none 0 0],.iface 59 (iI 2)]) (by simp[results,results63,go_sem]) rfl ⟨rfl,(au _ _).alloc (aj _) _⟩
def Jd{X:Ba}{j:Nat}{C:Array Dv}{fr:Nat×Nat}(a:X.heap.size=n):(X.alloc (.cells C t fr)).drew.cell? ⟨n,j,none⟩=C[j]?:=by
 subst a;exact World.cell?_alloc_mark X C t fr j
def gJ.Z{q p i:Nat}{a b:Ba}(h:gJ B t q a b)(l:a.heap.size<=p):gJ B t q a (b.setCell ⟨p,i,none⟩ u):=
 ⟨h.x,h.p,h.j,dD h.h,λk g d c=>by rw[aQ b (aA p i) u k (by show k≠p;omega)];exact h.b k g d c,
  λk d f g=>(aa (aQ b (aA p i) u q (by show q≠p;omega))).trans (h.o k d f g),λk d f=>(aG (aQ b (aA p i) u q (by show q≠p;omega))).trans (h.s k d f),
  λe f c=>by
  have d:=c.elim λ_ c=>c.elim λ_ c=>(ar.1 c).1;exact(h.u e f c).imp λ_ k=>k.imp λ_ k=>(aQ b (aA p i) u q (by show q≠p;omega)).trans k⟩
def rp(w2:World)(q p g n c:Nat)(tz:Int)(s:ByteArray)(cp:Nat):World:=
 ((((w2.setCell ⟨q,12405,none⟩ (.slice (some ⟨g,0,none⟩) n c)).setCell ⟨p,0,none⟩ (.int .i64 tz)).setCell ⟨p,1,none⟩ (.slice (some ⟨w2.heap.size,0,none⟩) s.size cp)).alloc (.cells (bytesRow s cp) 5 ((bytesRow s cp).size,(bytesRow s cp).size+1))).drew
def RG{w2:Ba}{q g c cp:Nat}{o:List (Int×DS)}{tz:Int}{s:DS}(k:w2.ownsRow B 201 2 (.slice (some ⟨g,0,none⟩) (n-1) c) (n-1) (dp o))(p:o.length=n-1)(K:n<=200)(l:q<B)(z:B<=w.heap.size)(A:B<=g)(C:g<w.heap.size)(D:gJ B 201 q w w2)(E:w2.cell? ⟨q,12405,none⟩=some u){f:Int}(dl:w2.cell? ⟨q,12406,none⟩=some (.int .i64 f))(r:∀i,w2.frozen? ⟨q,i,none⟩=false)(d1:w2.cell? ⟨w.heap.size,0,none⟩=some (.int .i64 0))(d2:w2.cell? ⟨w.heap.size,1,none⟩=some (.slice none 0 0))(x:w.heap.size<w2.heap.size)(t:s.size<=cp)(v:cp<=maxLen):
  ru (rp w2 q w.heap.size g (n-1) c tz s cp) (rp w2 q w.heap.size g (n-1) c tz s cp).heap.size (.slice (some ⟨w2.heap.size,0,none⟩) s.size cp) (fO s)/\eD (rp w2 q w.heap.size g (n-1) c tz s cp) B q o/\gJ B 201 q w (rp w2 q w.heap.size g (n-1) c tz s cp) /\
   (rp w2 q w.heap.size g (n-1) c tz s cp).cell? ⟨w.heap.size,0,none⟩=some (.int .i64 tz)/\(rp w2 q w.heap.size g (n-1) c tz s cp).cell? ⟨w.heap.size,1,none⟩=some (.slice (some ⟨w2.heap.size,0,none⟩) s.size cp):=by
 have hc:∀b i,b<w2.heap.size->(rp w2 q w.heap.size g (n-1) c tz s cp).cell? (aA b i)=(((w2.setCell (aA q 12405) (.slice (some (aA g 0)) (n-1) c)).setCell (FI w 0) (iI tz)).setCell (FI w 1) (.slice (some (FI w2 0)) s.size cp)).cell? (aA b i):=λb i F=>aC _ _ (aA b i) (dD F);have G:q≠w.heap.size:=ak;refine⟨?_,⟨⟨.slice (some (aA g 0)) (n-1) c,?_,?_⟩,?_,λi=>?_,l,?_,ak⟩,?_,?_,?_⟩;refine⟨_,cp,by rw[Num.dB],by rw[Num.dB];exact t,v,Num.wy (d:=s),λL=>⟨w2.heap.size,0,rfl,by simp[rp],λj y=>?_⟩⟩;rw[Num.dB]at y;rw[bY];have m:= y;have e:(fO s).getD j 0=((s.data[j]).toNat:Int):=by
  unfold Num.fO;rw[aD,cU,gz,aW m];rfl
 rw[e,<-(bytesRow_at s cp j m)];exact Jd aY;rw[hc _ _ ak,am _ _ _ _ (by intro e;injection e with e;omega),am _ _ _ _ (by intro e;injection e with e;omega),az _ _ _ E];rw[p];have I:=gU k (a:=(aA q 12405)) l (.slice (some (aA g 0)) (n-1) c);have J:=ownsRow_setCell_other I (a:=(FI w 0)) (by simp[Value.ownBlock];omega) (iI tz);exact(ownsRow_setCell_other J (a:=(FI w 1)) (by simp[Value.ownBlock];omega) (.slice (some (FI w2 0)) s.size cp)).alloc _;exact⟨f,by rw[hc _ _ ak,am _ _ _ _ (by intro e;injection e with e;omega),am _ _ _ _ (by intro e;injection e with e;omega),am _ _ _ _ aY,dl]⟩;show (World.alloc _ _).frozen? (aA q i)=false;rw[cX _ _ _ (by show q≠_;simp;omega)];simpa using r i;simp[rp];omega;exact((((D.H ak ak).Z (aj _)).Z (aj _)).e).ac;rw[hc _ _ ak,am _ _ _ _ aY,az (h:=by rw[am _ _ _ _ (by intro e;injection e with e;omega)];exact d1)];rw[hc _ _ ak,az (h:=by rw[am _ _ _ _ aY,am _ _ _ _ (by intro e;injection e with e;omega)];exact d2)]
def FS{q:Nat}{k:Nat}(h:eD w B q ps)(y:k<ps.length)(z:ps[k].2.size<=300):
  Calls prog 63 #[.pointer (some ⟨q,12405,none⟩),.int .i64 k] w λe w'=>∃U,e=.returned (.tuple #[.agg #[.int .i64 ps[k].1,U],.nilIface])/\ru w' w'.heap.size U (fO ps[k].2)/\eD w' B q (ps.eraseIdx k)/\gJ B 201 q w w':=by
 have ⟨_,_,_,A,C,b⟩:=h


 have m:=h.h 12405;let ⟨n,D⟩:=h.o
 have r:=h.h;let ⟨g,c,X,d,E,G,I,J,K⟩:=h.H k y
 have V:jW (k:Int) ps.length=true:=wv ak ak;have Y:(k:Int)<(ps.length:Int):=ak;have t:q<w.heap.size:=ak;have L:c<=9223372036854775807:=by
  rcases d.2 with⟨h,_⟩|⟨g',Z,ad,he,_,_,_,hm,_⟩
  cases h;injection he with _ _ e3
  subst e3;exact hm
 generalize hp:ps[k]=p at *;let ⟨tz,s⟩:=p
 dsimp only at J K z⊢

 have u:=λo=>(aC w o (aA q 12405) t).trans X;go_in;go_wp2_with (go_at_call 126;refine(ye k b (u _)).mono ?_;rintro e w'⟨rfl,rfl⟩)
 apply (VV y b E L ((d.alloc _).alloc _)).mono;rintro e w2⟨rfl,j,a⟩;have M:=a.size;simp at M;have d0:w2.cell? (aA q 12405)=some (.slice (some (aA g 0)) ps.length c):=a.cell ((aC _ _ (aA q 12405) fS).trans (u _)) (by intro e;have e':q=g:=(by injection e);omega);have df:w2.frozen? (aA q 12405)=false:=(aG (a.block q fS (by intro e;injection e with e;omega))).trans (by rw[cX _ _ _ (by show q≠_;simp;omega),cX _ _ _ (by show q≠_;omega)];exact m);have d1:cC w2 (FI w 0) (iI 0):=a.cell aY fS;have d2:cC w2 (FI w 1) (.slice none 0 0):=a.cell aY fS;have d3:cC w2 (aA (w.heap.size+1) 0) (iI tz):=a.cell aY fS;have d4:cC w2 (aA (w.heap.size+1) 1) (.string s):=a.cell aY fS;have N:∀i,w2.frozen? (FI w i)=false:=λi=>(aG (a.block w.heap.size fS (by intro e;injection e with e;omega))).trans aY;have aS:=λW=>run_bytes_of_string (P:=prog) W 9 61 5 s underlying9 underlying61 underlying5;have f:w.heap.size<w2.heap.size:=ak;have k0:∀o,((w2.setCell (aA q 12405) (.slice (some (aA g 0)) (ps.length-1) c)).alloc o).cell? (FI w 0)=some (iI 0):=λo=>by
  rw[aC _ _ (FI w 0) (dD f),am _ _ _ _ (by intro e;injection e with e;omega),d1]
 have k1:∀o,((w2.setCell (aA q 12405) (.slice (some (aA g 0)) (ps.length-1) c)).alloc o).cell? (FI w 1)=some (.slice none 0 0):=λo=>by
  rw[aC _ _ (FI w 1) (dD f),am _ _ _ _ (by intro e;injection e with e;omega),d2]
 have kf:∀o i,((w2.setCell (aA q 12405) (.slice (some (aA g 0)) (ps.length-1) c)).alloc o).frozen? (FI w i)=false:=λo i=>by
  rw[cX _ _ _ (by show w.heap.size≠_;simp;omega),aT,N]
 have Q:=grownCap_ge (w2.setCell (aA q 12405) (.slice (some (aA g 0)) (ps.length-1) c)) s.size 0 5;have R:=grownCap_le_maxLen (w2.setCell (aA q 12405) (.slice (some (aA g 0)) (ps.length-1) c)) s.size 0 5 (by unfold maxLen;omega);have l:(ps.eraseIdx k).length=ps.length-1:=iA y;have S:((w.alloc (.cells #[iI 0,.slice none 0 0] 125)).alloc (.cells #[iI tz,.string s] 201)).ownsRow B 201 2 (.slice (some (aA g 0)) ps.length c) ps.length (dp ps):=(d.alloc _).alloc _;have hO:gJ B 201 q w w2:=gJ.ab (((gJ.O).e).e) S a;have dl:cC w2 (aA q 12406) (iI n):=a.cell ((aC _ _ (aA q 12406) fS).trans ((aC _ _ (aA q 12406) t).trans D)) (by intro e;have e':q=g:=(by injection e);omega);have T:∀i,w2.frozen? (aA q i)=false:=λi=>(aG (a.block q fS (by intro e;injection e with e;omega))).trans (by rw[cX _ _ _ (by show q≠_;simp;omega),cX _ _ _ (by show q≠_;omega)];exact r i);go_wp2_with fail
 generalize grownCap (w2.setCell (aA q 12405) (.slice (some (aA g 0)) (ps.length-1) c)) s.size 0 5=x at *;have F:=RG (s:=s) (tz:=tz) (cp:=x) j l b A C G I hO d0 dl T d1 d2 f Q R;let ⟨F1,F2,F3,F4,F5⟩:=F
 change bodyPost _ _ _ _ _ (rp w2 q w.heap.size g (ps.length-1) c tz s x);generalize rp w2 q w.heap.size g (ps.length-1) c tz s x=W at *;exact bn (v:=.tuple #[.agg #[iI tz,.slice (some (aA w2.heap.size 0)) s.size x],.nilIface]) (by simp[results,results63,go_sem,F4,F5]) rfl ⟨_,rfl,F1,F2,F3⟩
end Net
open Net (eD gJ dp)
namespace Wld
variable{a:Ad}{d:DS}{x:E}{o now:Int}{k:K}{L:List E}{b g n D B c m i C:Nat}{t:DU}{s s':Wd}{w w':Ba}
def qA(w:World)(k:Nat)(t:TypeId):Prop:=∃a f,w.heap[k]?=some (.cells a t f)
def qA.j{c:DU}(h:qA w b t)(a:qA w g c)(d:t≠c):b≠g:=by
 let ⟨_,_,h⟩:=h
 let ⟨_,_,a⟩:=a
 exact nU h a d
def qA.H(h:qA w b t):b<w.heap.size:=by
 let ⟨_,_,h⟩:=h
 exact(ar.1 h).1
def qA.e(h:qA w b t)(e:w'.heap[b]?=w.heap[b]?):qA w' b t:=by unfold qA;rw[e];exact h
def Zl(w:World)(k:Nat):Prop:=∀a t f,w.heap[k]?≠some (.cells a t f)
def Zl.e(h:Zl w b)(a:qA w g t):b≠g:=by
 rintro rfl;let ⟨_,_,a⟩:=a
 exact h _ _ _ a
def oL{H:Type}{P:Ft}{k:DU}{R:Dv->Option (DataW H×List MemPlace)}{D:DataW H}(h:w.ownsMap P k R b n D):Zl w b:=by
 let ⟨d,a,c,r⟩:=h
 intro g t f e;rw[c]at e;cases e
def cT{e:DU}{s:Nat}{v:Dv}{b:List Dv}(h:w.ownsRow B e s v n b)(a:v.ownBlock=some g):B<=g/\qA w g e:=by
 rcases h.2 with⟨rfl,_⟩|⟨j,c,d,rfl,f,i,_⟩
 simp[Value.ownBlock]at a;simp[Value.ownBlock]at a;subst a;exact⟨f,_,_,i⟩
def bi.ac(h:bi w c m k):qA w c 162:=⟨_,_,h.i.e⟩
def bi.af(h:bi w c m k):Zl w m:=h.p.elim λ_ s=>oL s.1
inductive FootK (w:World) (a:Ad) (k:Nat):Prop where
 |q:k=a.q->FootK w a k
 |m:k=a.m->FootK w a k
 |S:qA w k 144->FootK w a k
 |U:qA w k 296->FootK w a k
 |T:qA w k 301->FootK w a k
 |r:qA w k 138->FootK w a k
 |M:qA w k 129->FootK w a k
def bZ.ah{s:Sv}(h:bZ w a s){k:Nat}(e:eM w a k):FootK w a k:=by
 rcases e with b|b|b|b|b|⟨v,c,d⟩|⟨i,v,f,c,d⟩
 exact .q b;exact .m b;subst b;exact .S h.y;subst b;exact .U h.B.s;subst b;exact .T h.tt;exact .r (h.V c d).2;exact .M (h.ac f c d).2
def bZ.ae{s:Sv}(h:bZ w a s)(hs:w.heap.size<=w'.heap.size)(l:bM w' a.q s.rs s.iD s.eK)(b:∀k,eM w a k->k≠a.q->w'.heap[k]?=w.heap[k]?):bZ w' a s:=by
 have o:=h.e;have r:=h.x;have t:=h.W;have u:=h.Z;have y:=h.F;have f:=b a.T (.inr (.inr (.inr (.inr (.inl rfl))))) ak;refine h.ai (b a.S (.inr (.inr (.inl rfl))) ak) (WalIs.ab h.B hs (b a.U (.inr (.inr (.inr (.inl rfl)))) ak) λv g c d=>b g (.inr (.inr (.inr (.inr (.inr (.inl ⟨v,c,d⟩)))))) ?_) l (h.p.e f (b a.m (.inr (.inl rfl)) ak)) (f▸h.tt) λi v j c n=>aZ n λg d=>b g (.inr (.inr (.inr (.inr (.inr (.inr ⟨i,v,j,c,d⟩)))))) ?_;have:=(h.V c d).1;omega;have:=(h.ac j c d).1;omega
def iE(b:w'.heap[a.U]?=w.heap[a.U]?)(c:w'.heap[a.S]?=w.heap[a.S]?)(k:Nat):eM w' a k↔eM w a k:=
 ⟨fe (aa b) (λ_ _=>aa c),fe (aa b.symm) (λ_ _=>aa c.symm)⟩
def DiskIs.ab{q:Nat}{m:List R}{f:Bool}{l:Int}(h:bM w q m f l)(e:∀i,3<=i->i<12405->w'.cell? (aA q i)=w.cell? (aA q i))(g:∀i,w'.frozen? (aA q i)=w.frozen? (aA q i)):bM w' q m f l:=by
 have n:=h.t;refine⟨λk a=>⟨(h.j k a).1,λj v r=>?_,λj c=>⟨?_,(g _).trans ((h.j k a).2.2 j c).2⟩⟩,
  λk a j c=>⟨by rw[e _ ak ak];exact(h.s k a j c).1,(g _).trans (h.s k a j c).2⟩,λk y z=>(e _ ak ak).trans (h.u k y z),(e _ ak ak).trans h.b,(e _ ak ak).trans h.o,λi=>(g i).trans (h.p i),h.t,h.x⟩
 have d:=(bB.1 r).1;rw[bz,((h.j k a).1)]at d;exact(e _ ak ak).trans ((h.j k a).2.1 j v r);rw[e _ ak ak];exact((h.j k a).2.2 j c).1
structure Wa where
 Q:Nat
 G:Nat
 c:Nat->Nat
 m:Nat->Nat
 a:Ad
variable{A:Wa}
def eE(e:Ev):List Value:=[.int .i64 e.b,.int .i64 e.Aa,.int .i64 e.Js,.string e.d,.int .i64 e.N6,.bool e.Gj,.bool e.XA,.int .i64 e.i,.int .i64 e.uX,.int .i64 e.j]
def fq(l:List Ev):List Value:=l.flatMap eE
def sE(p:Int×M):Int×ByteArray:=(p.1,dq p.2.h)
def LI(A:Wa):Option Sv->Value
 |none=>.pointer none
 |some _=>tp A.a.S
structure rA(w:World)(G i c:Nat)(s:St):Prop where
 b:w.cell? ⟨G,i*4,none⟩=some (tp c)
 h:w.cell? ⟨G,i*4+1,none⟩=some (.int .i64 s.fo)
 o:w.cell? ⟨G,i*4+2,none⟩=some (.int .i64 s.pF)
 j:w.cell? ⟨G,i*4+3,none⟩=some (.int .i64 s.kH)
def rA.e{G:Nat}{s:St}(h:rA w G i c s)(e:w'.heap[G]?=w.heap[G]?):rA w' G i c s:=
 ⟨(aa e).trans h.b,(aa e).trans h.h,(aa e).trans h.o,(aa e).trans h.j⟩
structure wE(w:World)(A:Wa)(s:Wd):Prop where
 b:qA w A.Q 81
 e:∀i,w.frozen? ⟨A.Q,i,none⟩=false
 t:w.cell? ⟨A.Q,0,none⟩=some (.int .i64 s.b)
 u:w.cell? ⟨A.Q,1,none⟩=some (.int .i64 s.i)
 x:w.cell? ⟨A.Q,2,none⟩=some (.int .i64 s.o)
 o:w.cell? ⟨A.Q,12407,none⟩=some (LI A s.sv)
 p:w.cell? ⟨A.Q,12408,none⟩=some (.int .i64 s.dJ)
 h:w.cell? ⟨A.Q,12409,none⟩=some (.slice (some ⟨A.G,0,none⟩) s.n s.n)
 j:w.cell? ⟨A.Q,12411,none⟩=some (.int .i64 s.cm)
def wE.H(h:wE w A s)(a:qA w' A.Q 81)(e:∀i,(i<3\/12407<=i)->i≠12410->w'.cell? (aA A.Q i)=w.cell? (aA A.Q i))(g:∀i,w'.frozen? (aA A.Q i)=w.frozen? (aA A.Q i)):wE w' A s:=
 ⟨a,λi=>(g i).trans (h.e i),(e _ ak ak).trans h.t,(e _ ak ak).trans h.u,(e _ ak ak).trans h.x,(e _ ak ak).trans h.o,(e _ ak ak).trans h.p,(e _ ak ak).trans h.h,(e _ ak ak).trans h.j⟩
def wE.I(h:wE w A s)(a:s'.b=s.b)(c:s'.i=s.i)(d:s'.o=s.o)(f:LI A s'.sv=LI A s.sv)(g:s'.dJ=s.dJ)(k:s'.n=s.n)(l:s'.cm=s.cm):wE w A s':=
 ⟨h.b,h.e,a▸h.t,c▸h.u,d▸h.x,f▸h.o,g▸h.p,k▸h.h,l▸h.j⟩
structure acy(w:World)(A:Wa)(s:Wd)(v:Sv):Prop where
 b:bZ w A.a v
 q:A.a.q=A.Q
 j:v.rs=s.rs
 e:v.iD=s.qp
 h:v.eK=s.sD
 o:∀i,i<s.n->A.m i≠A.a.m
 p:v.i=s.b
 t:v.b=s.i
structure bF(w:World)(A:Wa)(s:Wd):Prop where
 b:wE w A s
 y:bM w A.Q s.rs s.qp s.sD
 p:eD w (A.Q+1) A.Q (s.dP.map sE)
 x:∃v,w.cell? ⟨A.Q,12410,none⟩=some v/\w.ownsRow (A.Q+1) 45 10 v s.bO.length (fq s.bO)
 u:qA w A.G 90
 C:∀i,w.frozen? ⟨A.G,i,none⟩=false
 e:∀i,i<s.n->rA w A.G i (A.c i) (s.bm i)
 o:∀i,i<s.n->bi w (A.c i) (A.m i) (s.bm i).k
 J:∀i j,i<s.n->j<s.n->i≠j->A.c i≠A.c j/\A.m i≠A.m j
 t:∀v,s.sv=some v->acy w A s v
 F:1<=s.n
 B:s.n<=4
inductive wfoot (w:World) (A:Wa) (s:Wd) (k:Nat):Prop where
 |Q:k=A.Q->wfoot w A s k
 |G:k=A.G->wfoot w A s k
 |ev:∀v,w.cell? ⟨A.Q,12410,none⟩=some v->v.ownBlock=some k->wfoot w A s k
 |c:∀i,i<s.n->k=A.c i->wfoot w A s k
 |m:∀i,i<s.n->k=A.m i->wfoot w A s k
 |sv:s.sv.isSome=true->eM w A.a k->wfoot w A s k
structure Fz(A:Wa)(s:Wd)(w:World)(A':Wa)(s':Wd)(w':World):Prop where
 t:w'.os=w.os
 o:w'.tape=w.tape
 b:w'.output=w.output
 h:w.heap.size<=w'.heap.size
 p:∀k,k<w.heap.size->¬wfoot w A s k->¬(A.Q<k/\qA w k 201)->w'.heap[k]?=w.heap[k]?
 i:∀k,k<w.heap.size->wfoot w' A' s' k->wfoot w A s k
 Q:A'.Q=A.Q
def Fz.H{a:Wa}(h:Fz A s w a s' w'){k:Nat}(b:k<w.heap.size)(c:¬wfoot w A s k)(d:¬qA w k 201):w'.heap[k]?=w.heap[k]?:=h.p k b c λq=>d q.2
def Fz.j:Fz A s w A s w:=⟨rfl,rfl,rfl,aj _,λ_ _ _ _=>rfl,λ_ _ h=>h,rfl⟩
def Fz.e{B C:Wa}{r t:Wd}{x y z:Ba}(h:Fz A r x B s y)(k:Fz B s y C t z):Fz A r x C t z:=
 ⟨k.t.trans h.t,k.o.trans h.o,k.b.trans h.b,aO h.h k.h,
  λi a c d=>by
   have e:=h.p i a c d;exact(k.p i (aN a h.h) (λf=>c (h.i i a f)) (λq=>d ⟨h.Q▸q.1,q.2.e e.symm⟩)).trans e,
  λi a f=>h.i i a (k.i i (aN a h.h) f),k.Q.trans h.Q⟩
def bF.I(h:bF w A s):A.Q<w.heap.size:=h.b.b.H
def bF.H(h:bF w A s):A.Q≠A.G/\(∀i,i<s.n->A.Q≠A.c i/\A.Q≠A.m i/\A.G≠A.c i/\A.G≠A.m i)/\(∀i j,i<s.n->j<s.n->A.c i≠A.m j):=
 ⟨h.b.b.j h.u cn,λi a=>⟨h.b.b.j (h.o i a).ac cn,λe=>(h.o i a).af.e h.b.b e.symm,h.u.j (h.o i a).ac cn,λe=>(h.o i a).af.e h.u e.symm⟩,
  λi j a d e=>(h.o j d).af.e (h.o i a).ac e.symm⟩
def bZ.ag{s:Sv}(h:bZ w a s){k:Nat}(c:qA w k t)(g:k≠a.q)(d:t≠144/\t≠296/\t≠301/\t≠138/\t≠129):¬eM w a k:=λf=>by
 rcases h.ah f with f|f|f|f|f|f|f
 exact g f;exact(oL h.p.b).e c f.symm;exact c.j f d.1 rfl;exact c.j f d.2.1 rfl;exact c.j f d.2.2.1 rfl;exact c.j f d.2.2.2.1 rfl;exact c.j f d.2.2.2.2 rfl
def bZ.aq{s:Sv}(h:bZ w a s){k:Nat}(b:Zl w k)(c:k≠a.q)(d:k≠a.m):¬eM w a k:=λf=>by
 rcases h.ah f with f|f|f|f|f|f|f
 exact c f;exact d f;exact b.e f rfl;exact b.e f rfl;exact b.e f rfl;exact b.e f rfl;exact b.e f rfl
def NetIs.ab{q:Nat}{ps:List (Int×DS)}(h:eD w B q ps)(hs:w.heap.size<=w'.heap.size)(c:w'.cell? (aA q 12405)=w.cell? (aA q 12405))(d:w'.cell? (aA q 12406)=w.cell? (aA q 12406))(e:∀i,w'.frozen? (aA q i)=w.frozen? (aA q i))(f:∀v g,cC w (aA q 12405) v->v.ownBlock=some g->w'.heap[g]?=w.heap[g]?):eD w' B q ps:=by
 obtain⟨⟨v,b,a⟩,⟨l,j⟩,k,m,n,o⟩:=h;exact⟨⟨v,c.trans b,aZ a λg p=>f v g b p⟩,⟨l,d.trans j⟩,λi=>(e i).trans (k i),m,aO n hs,o⟩
def bF.h(h:bF w A s)(d:FF w w'):bF w' A s/\Fz A s w A s w':=by
 have z:=d.block A.Q h.I;have n:∀i,w'.cell? (aA A.Q i)=w.cell? (aA A.Q i):=λi=>aa z;have K:∀i,w'.frozen? (aA A.Q i)=w.frozen? (aA A.Q i):=λi=>aG z;have D:=d.block A.G h.u.H;refine⟨⟨h.b.H (h.b.b.e z) (λi _ _=>n i) K,DiskIs.ab h.y (λi _ _=>n i) K,h.p.e d,h.x.imp λv l=>⟨(n _).trans l.1,bq l.2 d⟩,h.u.e D,λi=>(aG (a:=(aA A.G i)) D).trans (h.C i),λi g=>(h.e i g).e D,λi g=>(h.o i g).ab d,h.J,λv l=>?_,h.F,h.B⟩,⟨d.os,d.tape,d.output,d.size,λk L _ _=>d.block k L,λk L f=>?_,rfl⟩⟩;have u:=h.t v l;exact⟨u.b.h d,u.q,u.j,u.e,u.h,u.o,u.p,u.t⟩;rcases f with f|f|⟨v,r,E⟩|⟨i,g,f⟩|⟨i,g,f⟩|⟨r,E⟩
 exact .Q f;exact .G f;exact .ev v ((n _).symm.trans r) E;exact .c i g f;exact .m i g f;obtain⟨v,l⟩:=aP.1 r;have u:=h.t v l;exact .sv r ((iE (d.block _ u.b.e.2.1) (d.block _ u.b.e.2.2.2.2.1) k).1 E)
def bF.O(h:bF w A s)(l:i<s.n){U:K}(L:bi w' (A.c i) (A.m i) U)(P:Ob [A.c i,A.m i] w w'):bF w' A (s.ac i U)/\Fz A s w A (s.ac i U) w':=by
 let ⟨_,M,V⟩:=h.H
 have R:∀k,k<w.heap.size->k≠A.c i->k≠A.m i->w'.heap[k]?=w.heap[k]?:=λk L h1 h2=>P.b k L (by simp[h1,h2]);have hQ:=R A.Q h.I (M i l).1 (M i l).2.1;have S:∀i,w'.cell? (aA A.Q i)=w.cell? (aA A.Q i):=λi=>aa hQ;have X:∀i,w'.frozen? (aA A.Q i)=w.frozen? (aA A.Q i):=λi=>aG hQ;have Y:=R A.G h.u.H (M i l).2.2.1 (M i l).2.2.2;have hc:=(h.o i l).ac;have d:∀g t,qA w g t->t≠162->w'.heap[g]?=w.heap[g]?:=λg t T ht=>R g T.H (T.j hc ht) (λe=>((h.o i l).af).e T e.symm);have r:∀v,s.sv=some v->∀k,eM w A.a k->k≠A.a.q->w'.heap[k]?=w.heap[k]?:=λv z k L hq=>by
  have u:=h.t v z;rcases u.b.ah L with f|f|f|f|f|f|f
  exact(hq f).elim;subst f;exact R _ (u.b.H L) (λe=>(oL u.b.p.b).e hc e) (λe=>u.o i l e.symm);exact d k _ f cn;exact d k _ f cn;exact d k _ f cn;exact d k _ f cn;exact d k _ f cn
 have D:∀j,j≠i->(s.ac i U).bm j=s.bm j:=λj E=>dM E;have W:(s.ac i U).bm i = {s.bm i with k:=U}:=da;refine⟨⟨(h.b.H (h.b.b.e hQ) (λi _ _=>S i) X).I rfl rfl rfl rfl rfl rfl rfl,DiskIs.ab h.y (λi _ _=>S i) X,NetIs.ab h.p P.i (S _) (S _) X ?_,h.x.imp λv z=>⟨(S _).trans z.1,aZ z.2 λg T=>d g _ (cT z.2 T).2 cn⟩,h.u.e Y,λi=>(aG (a:=(aA A.G i)) Y).trans (h.C i),λj E=>?_,λj E=>?_,h.J,λv z=>?_,h.F,h.B⟩,⟨P.s,P.p,P.o,P.i,λk L hf _=>R k L (λe=>hf (.c i l e)) (λe=>hf (.m i l e)),λk L f=>?_,rfl⟩⟩;intro v g z T;let ⟨v',N,hr⟩:=h.p.b
 rw[z]at N;injection N with N
 subst N;exact d g _ (cT hr T).2 cn;by_cases e:j=i;subst e;rw[W];have q:=(h.e j l).e Y;exact⟨q.b,q.h,q.o,q.j⟩;rw[D j e];exact(h.e j E).e Y;by_cases e:j=i;subst e;rw[W];exact L;rw[D j e];have ne:=h.J j i E l e;exact(h.o j E).j (R _ (h.o j E).H.1 ne.1 (V j i E l)) (R _ (h.o j E).H.2 (λq=>V i j l E q.symm) ne.2);have u:=h.t v z;exact⟨u.b.ae P.i (by rw[u.q,u.j,u.e,u.h];exact DiskIs.ab h.y (λi _ _=>S i) X) (r v z),u.q,u.j,u.e,u.h,u.o,u.p,u.t⟩;rcases f with f|f|⟨v,Z,f2⟩|⟨i,l,f⟩|⟨i,l,f⟩|⟨Z,f2⟩
 exact .Q f;exact .G f;exact .ev v ((S _).symm.trans Z) f2;exact .c i l f;exact .m i l f;let ⟨v,z⟩:=aP.1 Z
 have hl:=(h.t v z).b.e;exact .sv Z ((iE (r v z _ (.inr (.inr (.inr (.inl rfl)))) ak) (r v z _ (.inr (.inr (.inl rfl))) ak) k).1 f2)
def bF.V(h:bF w A s){l:List (Int×M)}(hN:eD w' (A.Q+1) A.Q (l.map sE))(z:gJ (A.Q+1) 201 A.Q w w'):bF w' A {s with dP:=l}/\Fz A s w A {s with dP:=l} w':=by
 have N:=h.I;have E:∀k t,qA w k t->k≠A.Q->t≠201->w'.heap[k]?=w.heap[k]?:=λk t D K ht=>z.b k D.H K (.inr λc f e=>D.j ⟨c,f,e⟩ ht rfl);have O:∀k,Zl w k->k<w.heap.size->k≠A.Q->w'.heap[k]?=w.heap[k]?:=λk D Y K=>z.b k Y K (.inr λc f e=>D _ _ _ e);have S:∀i,(i<12405\/12406<i)->w'.cell? (aA A.Q i)=w.cell? (aA A.Q i):=λi P=>z.o i N ak P;have Z:∀i,w'.frozen? (aA A.Q i)=w.frozen? (aA A.Q i):=λi=>z.s i N ak;obtain⟨U,R,ad⟩:=h.H;have W:=E A.G _ h.u (eX U) cn;have d:∀v,s.sv=some v->∀k,eM w A.a k->k≠A.a.q->w'.heap[k]?=w.heap[k]?:=λv n k D K=>by
  have u:=h.t v n;have r:k≠A.Q:=u.q▸K;rcases u.b.ah D with f|f|f|f|f|f|f
  exact(K f).elim;exact O k (by rw[f];exact oL u.b.p.b) (u.b.H D) r;exact E k _ f r cn;exact E k _ f r cn;exact E k _ f r cn;exact E k _ f r cn;exact E k _ f r cn
 have hD:= DiskIs.ab h.y (λi h1 h2=>S i ak) Z;refine⟨⟨(h.b.H (z.u _ ak h.b.b) (λi h1 h2=>S i ak) Z).I rfl rfl rfl rfl rfl rfl rfl,hD,hN,h.x.imp λv n=>⟨(S _ ak).trans n.1,aZ n.2 λg hg=>E g _ (cT n.2 hg).2 (jd ((cT n.2 hg).1)) cn⟩,h.u.e W,λi=>(aG (a:=(aA A.G i)) W).trans (h.C i),λj L=>(h.e j L).e W,
  λj L=>(h.o j L).j (E _ _ (h.o j L).ac (eX (R j L).1) cn) (O _ (h.o j L).af (h.o j L).H.2 (eX (R j L).2.1)),h.J,λv n=>?_,h.F,h.B⟩,
  ⟨z.x,z.p,z.j,z.h,λk D hf hp=>z.b k D (λe=>hf (.Q e)) (by
   by_cases K:A.Q<k;exact .inr λc f e=>hp ⟨K,c,f,e⟩;exact .inl ak),λk D f=>?_,rfl⟩⟩
 have u:=h.t v n;exact⟨u.b.ae z.h (by rw[u.q,u.j,u.e,u.h];exact hD) (d v n),u.q,u.j,u.e,u.h,u.o,u.p,u.t⟩;rcases f with f|f|⟨v,T,X⟩|⟨i,P,f⟩|⟨i,P,f⟩|⟨T,X⟩
 exact .Q f;exact .G f;exact .ev v ((S _ ak).symm.trans T) X;exact .c i P f;exact .m i P f;obtain⟨v,n⟩:=aP.1 T;have Y:=(h.t v n).b.e;exact .sv T ((iE (d v n _ (.inr (.inr (.inr (.inl rfl)))) ak) (d v n _ (.inr (.inr (.inl rfl))) ak) k).1 X)
def bF.af(h:bF w A s){v l:Sv}(n:s.sv=some v)(U:bZ w' A.a l)(hF:Fs A.a w w')(Y:l.i=v.i)(h2:l.b=v.b):bF w' A (s.Z l)/\Fz A s w A (s.Z l) w':=by
 have u:=h.t v n;have ad:=h.I;obtain⟨O,K,aS⟩:=h.H;have d:∀i,(i<3\/12405<=i)->w'.cell? (aA A.Q i)=w.cell? (aA A.Q i):=λi L=>by rw[<-u.q];exact hF.s i L
 have V:∀i,w'.frozen? (aA A.Q i)=w.frozen? (aA A.Q i):=λi=>by rw[<-u.q];exact hF.x i
 have N:∀k t,qA w k t->k≠A.Q->(t≠144/\t≠296/\t≠301/\t≠138/\t≠129)->w'.heap[k]?=w.heap[k]?:=λk t D hq ht=>hF.o k D.H (u.b.ag D (u.q▸hq) ht);have P:=N A.G _ h.u (eX O) cn;have R:(s.Z l).sv=some l:=rfl;refine⟨⟨?_,u.q▸U.J,NetIs.ab h.p hF.b (d _ ak) (d _ ak) V ?_,h.x.imp λv n=>⟨(d _ ak).trans n.1,aZ n.2 λg M=>N g _ (cT n.2 M).2 (jd ((cT n.2 M).1)) cn⟩,h.u.e P,λi=>(aG (a:=(aA A.G i)) P).trans (h.C i),λj r=>(h.e j r).e P,
  λj r=>(h.o j r).j (N _ _ (h.o j r).ac (eX (K j r).1) cn) (hF.o _ (h.o j r).H.2 (u.b.aq (h.o j r).af (by rw[u.q];exact eX (K j r).2.1) (u.o j r))),h.J,λx E=>?_,h.F,h.B⟩,
  ⟨hF.A,hF.u,hF.p,hF.b,λk D hf hp=>hF.o k D (λe=>hf (.sv (n▸rfl) e)),λk D f=>?_,rfl⟩⟩
 have c:=h.b;have S:w'.cell? ⟨A.Q,12407,none⟩=some (LI A (s.Z l).sv):=by
  rw[d _ ak,c.o,n];rfl
 exact⟨by have:=hF.y _ (u.q▸c.b);rw[u.q]at this;exact this,λi=>(V i).trans (c.e i),(d _ ak).trans c.t,(d _ ak).trans c.u,(d _ ak).trans c.x,S,(d _ ak).trans c.p,(d _ ak).trans c.h,(d _ ak).trans c.j⟩;intro x g E M;obtain⟨l,z,W⟩:=h.p.b;rw[E]at z;injection z with z
 subst z;exact N g _ (cT W M).2 (jd ((cT W M).1)) cn;rw[R]at E;injection E with E
 subst E;exact⟨U,u.q,rfl,rfl,rfl,u.o,Y.trans u.p,h2.trans u.t⟩;rcases f with f|f|⟨v,X,T⟩|⟨i,L,f⟩|⟨i,L,f⟩|⟨X,T⟩
 exact .Q f;exact .G f;exact .ev v ((d _ ak).symm.trans X) T;exact .c i L f;exact .m i L f;exact .sv (n▸rfl) (hF.h k D T)
def bF.ap{x:Dv}(h:bF w A s)(N:12407<=i)(ad:i≠12410)(hc:wE (w.setCell ⟨A.Q,i,none⟩ x) A s')(V:s'.rs=s.rs)(W:s'.qp=s.qp)(X:s'.sD=s.sD)(e4:s'.dP=s.dP)(D:s'.n=s.n)(Y:s'.bm=s.bm)(e7:s'.bO=s.bO)(Z:s'.sv=s.sv\/s'.sv=none)(e9:s'.b=s.b)(P:s'.i=s.i):bF (w.setCell ⟨A.Q,i,none⟩ x) A s'/\Fz A s w A s' (w.setCell ⟨A.Q,i,none⟩ x):=by
 have aS:=h.I;let ⟨R,E,a0⟩:=h.H
 have r:∀k,k≠A.Q->(w.setCell (aA A.Q i) x).heap[k]?=w.heap[k]?:=λk O=>aQ w (aA A.Q i) x k O;have K:∀j,j≠i->(w.setCell ⟨A.Q,i,none⟩ x).cell? ⟨A.Q,j,none⟩=w.cell? ⟨A.Q,j,none⟩:=λj z=>am _ _ _ _ (by intro q;injection q with _ q;exact z q.symm);have fQ:∀j,(w.setCell ⟨A.Q,i,none⟩ x).frozen? ⟨A.Q,j,none⟩=w.frozen? ⟨A.Q,j,none⟩:=λj=>aT _ _ _ _;have a1:(w.setCell ⟨A.Q,i,none⟩ x).heap.size=w.heap.size:=aY;have S:=r A.G (eX R);have hD:= DiskIs.ab h.y (λj h1 h2=>K j ak) fQ;have hN:= NetIs.ab h.p ak (K _ ak) (K _ ak) fQ λv g l T=>by
  let ⟨v',d,hr⟩:=h.p.b
  rw[l]at d;injection d with d
  subst d;exact r g (jd ((cT hr T).1))
 refine⟨⟨hc,by rw[V,W,X];exact hD,e4▸hN,by rw[e7];exact h.x.imp λv l=>⟨(K _ ak).trans l.1,aZ l.2 λg T=>r g (jd ((cT l.2 T).1))⟩,h.u.e S,λi=>(aG (a:=⟨A.G,i,none⟩) S).trans (h.C i),λj z=>?_,
  λj z=>?_,D▸h.J,λv l=>?_,D▸h.F,D▸h.B⟩,⟨rfl,rfl,rfl,ak,λk O hf hp=>r k (λe=>hf (.Q e)),λk O f=>?_,rfl⟩⟩
 rw[Y];rw[D]at z;exact(h.e j z).e S;rw[Y];rw[D]at z;exact(h.o j z).j (r _ (eX (E j z).1)) (r _ (eX (E j z).2.1));have d:s.sv=some v:=by
  rcases Z with q|q
  rw[<-q];exact l;rw[q]at l;cases l
 have u:=h.t v d;refine⟨u.b.ae ak (by rw[u.q,u.j,u.e,u.h];exact hD) (λk O hq=>r k (u.q▸hq)),u.q,u.j.trans V.symm,u.e.trans W.symm,u.h.trans X.symm,D▸u.o,u.p.trans e9.symm,u.t.trans P.symm⟩;rcases f with f|f|⟨v,L,U⟩|⟨i,N,f⟩|⟨i,N,f⟩|⟨L,U⟩
 exact .Q f;exact .G f;exact .ev v ((K _ ak).symm.trans L) U;exact .c i (D▸N) f;exact .m i (D▸N) f;have M:s.sv.isSome=true:=by
  rcases Z with q|q
  rw[<-q];exact L;rw[q]at L;cases L
 let ⟨v,l⟩:=aP.1 M
 have u:=h.t v l;have hl:=u.b.e;exact .sv M ((iE (r _ (by rw[<-u.q];omega)) (r _ (by rw[<-u.q];omega)) k).1 U)
def bF.j(h:bF w A s)(x:Int):bF (w.setCell ⟨A.Q,12411,none⟩ (.int .i64 x)) A {s with cm:=x}/\Fz A s w A {s with cm:=x} (w.setCell ⟨A.Q,12411,none⟩ (.int .i64 x)):=by
 have c:=h.b;have e:∀j,j≠12411->(w.setCell (aA A.Q 12411) (iI x)).cell? (aA A.Q j)=w.cell? (aA A.Q j):=λj a=>am _ _ _ _ (by intro q;injection q with _ q;exact a q.symm);exact h.ap ak ak ⟨Wal.cZ c.b,λi=>by rw[aT];exact c.e i,(e _ ak).trans c.t,(e _ ak).trans c.u,(e _ ak).trans c.x,(e _ ak).trans c.o,(e _ ak).trans c.p,(e _ ak).trans c.h,az _ _ _ c.j⟩ rfl rfl rfl rfl rfl rfl rfl (.inl rfl) rfl rfl
def bF.ao(h:bF w A s)(x:Int):bF (w.setCell ⟨A.Q,12408,none⟩ (.int .i64 x)) A {s with dJ:=x}/\Fz A s w A {s with dJ:=x} (w.setCell ⟨A.Q,12408,none⟩ (.int .i64 x)):=by
 have c:=h.b;have e:∀j,j≠12408->(w.setCell (aA A.Q 12408) (iI x)).cell? (aA A.Q j)=w.cell? (aA A.Q j):=λj a=>am _ _ _ _ (by intro q;injection q with _ q;exact a q.symm);exact h.ap ak ak ⟨Wal.cZ c.b,λi=>by rw[aT];exact c.e i,(e _ ak).trans c.t,(e _ ak).trans c.u,(e _ ak).trans c.x,(e _ ak).trans c.o,az _ _ _ c.p,(e _ ak).trans c.h,(e _ ak).trans c.j⟩ rfl rfl rfl rfl rfl rfl rfl (.inl rfl) rfl rfl
def bF.al(h:bF w A s):bF (w.setCell ⟨A.Q,12407,none⟩ (.pointer none)) A {s with sv:=none}/\Fz A s w A {s with sv:=none} (w.setCell ⟨A.Q,12407,none⟩ (.pointer none)):=by
 have c:=h.b;have e:∀j,j≠12407->(w.setCell (aA A.Q 12407) (.pointer none)).cell? (aA A.Q j)=w.cell? (aA A.Q j):=λj a=>am _ _ _ _ (by intro q;injection q with _ q;exact a q.symm);exact h.ap ak ak ⟨Wal.cZ c.b,λi=>by rw[aT];exact c.e i,(e _ ak).trans c.t,(e _ ak).trans c.u,(e _ ak).trans c.x,az _ _ _ c.o,(e _ ak).trans c.p,(e _ ak).trans c.h,(e _ ak).trans c.j⟩ rfl rfl rfl rfl rfl rfl rfl (.inr rfl) rfl rfl
structure KB(k:K)(C:Nat):Prop where
 p:0<=k.kW
 s:k.kW<=7
 n:k.n<=C
 b:0<=k.yi
 u:k.yi<=C
 h:0<=k.eJ
 w:k.eJ<=C
 i:0<=k.Lh
 y:k.Lh<=1099511627776
 j:0<=k.Sm
 A:k.Sm<=1099511627776
 e:0<=k.tT
 t:k.tT<=549755813888
 o:0<=k.qm
 B:k.qm<=549755813888
 F:∀x∈k.gS,fN x.v/\x.d.size<=20
 J:k.d.size<=20
def KB.H(h:KB k C)(a:C<=D):KB k D:=⟨h.p,h.s,aO h.n a,h.b,by have:=h.u;omega,h.h,by have:=h.w;omega,h.i,h.y,h.j,h.A,h.e,h.t,h.o,h.B,h.F,h.J⟩
def KB.ok(h:KB k C)(a:C<=100000000000):KOk k:=⟨h.p,h.s,by have:=h.n;omega,h.b,by have:=h.u;omega,h.h,by have:=h.w;omega,h.i,h.y,h.j,h.A,h.e,by have:=h.t;omega,h.o,by have:=h.B;omega⟩
def sk(h:x∈qE o L):x∈L:=(jH.1 h).1
def vn{e:E}(h:x∈mj L e):x=e\/x∈L:=by
 unfold mj at h;rcases cI.1 h with q|q
 right;split at q;exact sk (gI q);exact sk q;exact .inl (bA.1 q)
def KB.I(h:KB k C)(a:d.size<=20){v:Int}:KB (k.Z d v) (C+1):=
 ⟨h.p,h.s,by have:=h.n;show k.n+1<=_;omega,h.b,by have:=h.u;show k.yi<=_;omega,h.h,by have:=h.w;show k.eJ<=_;omega,h.i,h.y,h.j,h.A,h.e,h.t,h.o,h.B,h.F,a⟩
def KB.O(h:KB k C)(m:M)(f:fN m.v/\m.d.size<=20):KB (k.I m).1 (C+1)/\(k.I m).2.length<=1:=by
 have a:=h.H (cL C);unfold K.I;split;refine⟨?_,aY⟩;unfold K.ai;split;exact⟨a.p,a.s,a.n,a.b,a.u,a.h,a.w,a.i,a.y,a.j,a.A,a.e,a.t,a.o,a.B,λx c=>h.F x (sk c),h.J⟩;exact⟨a.p,a.s,a.n,a.b,a.u,a.h,a.w,a.i,a.y,a.j,a.A,a.e,a.t,a.o,a.B,λx c=>h.F x (sk c),h.J⟩;split;exact⟨a,aY⟩;split;refine⟨?_,aY⟩;unfold K.al;split;exact⟨a.p,a.s,a.n,a.b,a.u,a.h,a.w,a.i,a.y,a.j,a.A,a.e,a.t,a.o,a.B,a.F,a.J⟩;exact a;split;refine⟨?_,aY⟩;unfold K.av;split;exact a;exact⟨a.p,a.s,a.n,a.b,a.u,a.h,a.w,a.i,a.y,a.j,a.A,a.e,a.t,a.o,a.B,λx c=>(by simp at c),h.J⟩;split;refine⟨?_,aY⟩;unfold K.a2;split;exact a;refine KB.I ?_ f.2;split;exact⟨h.p,h.s,h.n,h.b,h.u,h.h,h.w,h.i,h.y,h.j,h.A,h.e,h.t,h.o,h.B,λx c=>by
  rcases vn c with q|q
  rw[q];exact f;exact h.F x q,h.J⟩
 exact h;split;exact⟨h.I h.J,aY⟩;exact⟨a,aY⟩
def KB.Z(h:KB k C)(h0:0<=now)(c:now<=549755813888):KB (k.ah now) (C+1)/\(k.ag now).length<=2:=by
 have a:=h.H (cL C);refine⟨?_,?_⟩;unfold K.ah;split;exact⟨a.p,a.s,a.n,a.b,a.u,by have:=h.h;show 0<=k.eJ+1;omega,by have:=h.w;show k.eJ+1<=_;omega,a.i,a.y,a.j,a.A,a.e,a.t,h0,c,a.F,a.J⟩;exact a;unfold K.ag;rw[aL];split<;>split<;>simp
def KB.ab(h:KB k C)(f:Int)(g:d.size<=20)(v:Int)(l m:Bool)(c:0<=o)(e:o<=7)(h0:0<=now)(p:now<=549755813888):KB (k.V f o d v l m now) (C+1):=by
 have a:=h.H (cL C);exact⟨c,e,a.n,by have:=h.b;show 0<=k.yi+1;omega,by have:=h.u;show k.yi+1<=_;omega,a.h,a.w,a.i,a.y,a.j,a.A,h0,p,a.o,a.B,a.F,g⟩
def KB.V(h:KB k C)(o:Int):KB (k.H o) C:=by
 unfold K.H;split;exact h;rename_i x a;exact⟨h.p,h.s,h.n,h.b,h.u,h.h,h.w,h.i,h.y,h.j,h.A,h.e,h.t,h.o,h.B,λy c=>by
  rcases vn c with q|q
  rw[q];exact h.F x (gy a);exact h.F y q,h.J⟩
def KB.ac(h:KB k C)(f:0<=o)(g:o<=7)(h0:0<=now)(q:now<=549755813888):KB (k.ao o now) (C+2):=by
 have l:=h.ab 1 (d:=⟨#[]⟩) cn 0 false false f g h0 q;unfold K.ao;split;exact(l.V o).H ak;rename_i x c;have a:=l.V o;have m:x∈(k.V 1 o ⟨#[]⟩ 0 false false now).gS:=by
  unfold K.aw at c;split at c;cases c;rename_i y r;split at c;cases c;injection c with c
  subst c;exact gy r
 exact KB.I (k:={ (k.V 1 o ⟨#[]⟩ 0 false false now).H o with N7:=true}) ⟨a.p,a.s,a.n,a.b,a.u,a.h,a.w,a.i,a.y,a.j,a.A,a.e,a.t,a.o,a.B,a.F,a.J⟩ (l.F x m).2
structure SB(s:St)(C:Nat)(n:Nat):Prop where
 k:KB s.k C
 b:0<=s.fo
 e:s.fo<=549755813888
 h:0<=s.pF
 i:s.pF<=C
 o:-1<=s.kH
 j:s.kH<n
def SB.H{s:St}(h:SB s C n)(a:C<=D)(c:n<=m):SB s D m:=⟨h.k.H a,h.b,h.e,h.h,by have:=h.i;omega,h.o,by have:=h.j;omega⟩
structure fV(w:Wd)(C:Nat):Prop where
 F:0<=w.b
 x:w.b<=274877906944
 y:0<=w.i
 u:w.i<=274877906944
 A:0<=w.o
 B:w.o<=500
 W:0<=w.dJ
 c1:w.dJ<=549755813888
 s:∀i,i<w.n->SB (w.bm i) C w.bO.length
 O:0<=w.cm
 V:w.cm<=C
 Z:w.bO.length<=C
 t:∀p∈w.dP,iH p.2=true
 j:w.dP.length<=200
 J:∀v,w.sv=some v->kR v (400*C)/\v.i=w.b/\v.b=w.i/\v.rs=w.rs/\v.iD=w.qp/\v.eK=w.sD
 o:∀r∈w.rs,AF w.rs.length r
 H:w.rs.length<=200
 b:0<=w.sD
 h:w.sD<=9223372036854775807
def fV.e{w:Wd}(h:fV w C)(a:C<=D):fV w D:=⟨h.F,h.x,h.y,h.u,h.A,h.B,h.W,h.c1,λi d=>(h.s i d).H a (aj _),h.O,by have:=h.V;omega,aO h.Z a,h.t,h.j,λv c=>⟨(h.J v c).1.e ak,(h.J v c).2⟩,h.o,h.H,h.b,h.h⟩
def fV.a8{w:Wd}(h:fV w C)(e:C<=100000000000){v:Sv}(c:w.sv=some v):Ju v w.dJ (400*C):=by
 let ⟨d,a,b,_⟩:=h.J v c
 exact⟨d,ak,h.W,h.c1,a▸h.F,a▸h.x,b▸h.y,b▸h.u⟩
def lL{m:M}(h:iH m=true):ZS m/\fN m.v:=by
 simp only[iH,aR]at h;let ⟨a,b⟩:=h
 simp[Num.M.j,Num.jK,Num.lY]at b;have c:m.d.size<=20:=by
  simp[Num.lY]at a;omega
 exact⟨⟨by simp[fH,Num.lY];omega,by simp[fH,Num.lY];omega,c⟩,⟨ak,ak⟩⟩
def fV.b0{w:Wd}(h:fV w C)(t:Int)(m:M):fV (w.af t m) C:=by
 unfold Wd.af;split;rename_i a;exact⟨h.F,h.x,h.y,h.u,h.A,h.B,h.W,h.c1,h.s,h.O,h.V,h.Z,λp c=>by
  rcases cI.1 c with q|q
  exact h.t p q;rw[bA.1 q];exact a.1,fS,h.J,h.o,h.H,h.b,h.h⟩
 exact h
def fV.af{t:Int}:∀(l:List M) {w:Wd},fV w C->fV (w.O t l) C
 | [],_,h=>h
 |m::l,w,h=>by
  unfold Wd.O;rw[lM];exact fV.af l (h.b0 t m)
def fV.a3:∀(l:List M) {w:Wd},fV w C->fV (w.I l) C
 | [],_,h=>h
 |m::l,w,h=>by
  unfold Wd.I;rw[lM];exact fV.a3 l (h.b0 _ m)
def fV.ag{w:Wd}(h:fV w C){v:Sv}(c:kR v (400*C))(d:v.i=w.b)(e:v.b=w.i):fV (w.Z v) C:=
 ⟨h.F,h.x,h.y,h.u,h.A,h.B,h.W,h.c1,h.s,h.O,h.V,h.Z,h.t,h.j,λx f=>by
  have a:= f;injection a with a
  subst a;exact⟨c,d,e,rfl,rfl,rfl⟩,c.Ab,c.D1,c.oG,c.oH⟩
def fV.a7{w:Wd}(h:fV w C):fV w.ae C:=by
 unfold Wd.ae;split;exact h;split;exact⟨h.F,h.x,h.y,h.u,h.A,h.B,h.W,h.c1,h.s,h.O,h.V,h.Z,h.t,h.j,λx a=>by simp at a,h.o,h.H,h.b,h.h⟩;exact h
end Wld
end Go.Proofs.YtbebfliimjjohabGreatDoor
