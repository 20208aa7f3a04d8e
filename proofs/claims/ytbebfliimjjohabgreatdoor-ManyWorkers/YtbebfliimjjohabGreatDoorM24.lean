/- Parts of the proof. -/
import Derived.Test.YtbebfliimjjohabGreatDoorM23
set_option maxRecDepth 100000
set_option maxHeartbeats 8000000
set_option linter.all false
open Go.Proofs.Tryz
namespace Go.Proofs.YtbebfliimjjohabGreatDoor open Gen (la on take tk tz)
open Go.RowKit Go
open Num (lY fO dq)
open Wire (iv)
namespace Wal
variable{fails f:Bool}{left l torn:Int}{rs:List R}{xs:List Dv}{i o n B s:Nat}{r:R}{t:DU}{u:Dv}{w w' a b:Ba}
def Ok(r:R):Prop:=r.d.size<=20/\∀i,i<5->okN ((jG r).getD i 0)
structure bM(w:World)(q:Nat)(rs:List R)(fails:Bool)(left:Int):Prop where
 j:∀k (h:k<rs.length),Pl w q (3+k*62) (fm rs[k])
 s:∀k,k<200->w.there q (3+k*62) 62
 u:∀k,rs.length<=k->k<200->w.cell? ⟨q,3+k*62+61,none⟩=some (.int .u8 0)
 b:w.cell? ⟨q,12403,none⟩=some (.bool fails)
 o:w.cell? ⟨q,12404,none⟩=some (.int .i64 left)
 p:∀i,w.frozen? ⟨q,i,none⟩=false
 t:rs.length<=200
 x:∀r∈rs,Ok r
def bM.e{q C:Nat}(h:bM w q rs fails left)(a:Below C w w')(c:q<C):bM w' q rs fails left:=
 ⟨λk d=>(h.j k d).e a c,λk d j f=>⟨by rw[a.cell (p:=(aA q (3+k*62+j))) c];exact(h.s k d j f).1,(a.frozen (p:=(aA q (3+k*62+j))) c).trans (h.s k d j f).2⟩,
  λk g l=>(a.cell (p:=(aA q (3+k*62+61))) c).trans (h.u k g l),(a.cell (p:=(aA q 12403)) c).trans h.b,(a.cell (p:=(aA q 12404)) c).trans h.o,
  λi=>(a.frozen (p:=(aA q i)) c).trans (h.p i),h.t,h.x⟩
structure Oq(q:Nat)(w w':World):Prop where
 y:w'.os=w.os
 s:w'.tape=w.tape
 p:w'.output=w.output
 h:w.heap.size<=w'.heap.size
 b:∀k,k<w.heap.size->k≠q->w'.heap[k]?=w.heap[k]?
 o:∀i,q<w.heap.size->(i<3\/12405<=i)->w'.cell? ⟨q,i,none⟩=w.cell? ⟨q,i,none⟩
 u:∀i,q<w.heap.size->w'.frozen? ⟨q,i,none⟩=w.frozen? ⟨q,i,none⟩
 x:∀t,(∃cs f,w.heap[q]?=some (.cells cs t f))->∃cs f,w'.heap[q]?=some (.cells cs t f)
def cZ{u q:Nat}{v:Dv}(h:∃cs f,w.heap[u]?=some (.cells cs t f)):∃cs f,(w.setCell ⟨q,i,none⟩ v).heap[u]?=some (.cells cs t f):=by
 obtain⟨cs,f,h⟩:=h;by_cases e:q=u;subst e;refine⟨cs.setIfInBounds i v,f,?_⟩;simp[World.setCell,bL,h];exact⟨cs,f,(aQ _ _ _ _ (λk=>e k.symm)).trans h⟩
def Oq.O{q:Nat}:Oq q w w:=⟨rfl,rfl,rfl,aj _,λ_ _ _=>rfl,λ_ _ _=>rfl,λ_ _=>rfl,λ_ h=>h⟩
def Oq.H{q:Nat}{c:Ba}(h:Oq q a b)(k:Oq q b c):Oq q a c:=
 ⟨k.y.trans h.y,k.s.trans h.s,k.p.trans h.p,aO h.h k.h,λi e d=>by rw[k.b i (aN e h.h) d,h.b i e d],
  λi d e=>(k.o i (aN d h.h) e).trans (h.o i d e),λi d=>(k.u i (aN d h.h)).trans (h.u i d),λt f=>k.x t (h.x t f)⟩
def Oq.e{q:Nat}(h:FF a b):Oq q a b:=⟨h.os,h.tape,h.output,h.size,λk f _=>h.block k f,
  λ_ d _=>aa (h.block q d),λ_ d=>aG (h.block q d),λ_ c=>c.imp λ_ c=>c.imp λ_ c=>(h.block q (ar.1 c).1).trans c⟩
def Oq.j{q:Nat}(h:Oq q a b)(h0:3<=i)(f:i<12405):Oq q a (b.setCell ⟨q,i,none⟩ u):=
 h.H ⟨rfl,rfl,rfl,aY,λk _ c=>aQ b (aA q i) u k c,λk _ g=>am _ _ _ _ (by intro e;injection e with _ e;omega),λk _=>aT _ _ _ _,λ_ d=>cZ d⟩
def Oq.V{q:Nat}(h:Oq q a b):Oq q a b.drew:=⟨h.y,h.s,h.p,h.h,h.b,h.o,h.u,h.x⟩
def Oq.I{q:Nat}:∀(c:List Dv) (o:Nat) (b:Ba),Oq q a b->3<=o->o+c.length<=12405->Oq q a (b.setCells q o c)
 | [],_,_,h,_,_=>h
 |v::r,o,b,h,h0,d=>by
  rw[World.setCells];rw[bJ]at d;exact Oq.I r (o+1) _ (h.j (u:=v) h0 ak) ak ak
def uW{q:Nat}(h:bM w q rs fails left):
  Calls prog 214 #[.pointer (some ⟨q,3,none⟩)] w λe w'=>e=.returned (.int .i64 rs.length)/\w'=w:=by
 have d:=h.t;go_in;go_wp2;go_loop [4] (λs=>∃k:Nat,k<=rs.length/\s=iI k) (λs=>200-(intOf s).toNat)
 case atStart=>exact⟨0,ak,rfl⟩
 case round=>
  obtain⟨k,f,rfl⟩:=hrel;by_cases b:k<rs.length
  .have hc:=((h.j k b).h (i:=61) ak).1;rw[Cl (h.x _ (bp b)).1]at hc;have a:(k:Int)<200:=ak;go_wp2;go_round
   case rel=>exact⟨k+1,ak,by go_num⟩
   case measure=>simp[intOf];omega
  .obtain rfl:k=rs.length:=ak;by_cases c:rs.length<200
   .have hc:=h.u rs.length (aj _) c;have a:(rs.length:Int)<200:=ak;go_wp2;go_ret;exact⟨rfl,rfl⟩
   .have a:¬(rs.length:Int)<200:=ak;go_wp2;go_ret;exact⟨by rw[show (rs.length:Int)=200 by omega];rfl,rfl⟩
def jL{q b:Nat}(h:w.there q o n):(w.setCell ⟨b,i,none⟩ u).there q o n:=λj a=>by
 obtain⟨v,c⟩:=aP.1 (h j a).1;refine⟨?_,by rw[aT];exact(h j a).2⟩;by_cases e:(⟨b,i,none⟩:Addr)=⟨q,o+j,none⟩;rw[e,az _ _ _ c];rfl;rw[am _ _ _ _ e,c];rfl
def Pl.I{q:Nat}{l:List Int}(h:Pl w q o l)(f:i<o\/o+62<=i):Pl (w.setCell ⟨q,i,none⟩ u) q o l:=by
 obtain⟨b,c,d⟩:=h;refine⟨b,λj v a=>?_,jL d⟩;have g:j<62:=by have:=(bB.1 a).1;rw[bz]at this;omega
 rw[am _ _ _ _ (by intro e;injection e with _ e;omega)];exact c j v a
def bM.I{q:Nat}(h:bM w q rs f l)(m:3+rs.length*62<=i)(d:∀k,i≠3+k*62+61)(h0:i≠12403)(a:i≠12404):bM (w.setCell ⟨q,i,none⟩ u) q rs f l:=
 ⟨λk c=>(h.j k c).I (by right;omega),λk c=>jL (h.s k c),λk a g=>by rw[am _ _ _ _ (by intro e;injection e with _ e;exact d k e)];exact h.u k a g,
  by rw[am _ _ _ _ (by intro e;injection e with _ e;exact h0 e)];exact h.b,by rw[am _ _ _ _ (by intro e;injection e with _ e;exact a e)];exact h.o,λi=>by rw[aT];exact h.p i,h.t,h.x⟩
def bM.H{q:Nat}(h:bM w q rs f l)(f':Bool):bM (w.setCell ⟨q,12403,none⟩ (.bool f')) q rs f' l:=
 ⟨λk a=>(h.j k a).I (by have:=h.t;right;omega),λk a=>jL (h.s k a),λk c d=>by rw[am _ _ _ _ (by intro e;injection e with _ e;omega)];exact h.u k c d,
  by rw[az _ _ _ h.b],by rw[am _ _ _ _ aY];exact h.o,λi=>by rw[aT];exact h.p i,h.t,h.x⟩
def bM.h{q:Nat}(h:bM w q rs f l)(c:Int):bM (w.setCell ⟨q,12404,none⟩ (.int .i64 c)) q rs f c:=
 ⟨λk a=>(h.j k a).I (by have:=h.t;right;omega),λk a=>jL (h.s k a),λk d g=>by rw[am _ _ _ _ (by intro e;injection e with _ e;omega)];exact h.u k d g,
  by rw[am _ _ _ _ aY];exact h.b,by rw[az _ _ _ h.o],λi=>by rw[aT];exact h.p i,h.t,h.x⟩
def bM.O{q:Nat}(h:bM w q rs f l)(n:rs.length<200)(g:Ok r):bM (w.setCells q (3+rs.length*62) ((fm r).map (Value.int .u8))) q (rs++[r]) f l:=by
 have hF:((fm r).map (Value.int .u8)).length=62:=by rw[bz,eR g.1]
 have c:=h.s rs.length n;have a:∀i,(i<3+rs.length*62\/3+rs.length*62+62<=i)->(w.setCells q (3+rs.length*62) ((fm r).map (Value.int .u8))).cell? (aA q i)=w.cell? (aA q i):=λi t=>l6 q _ _ w (aA q i) (λ_ _=>hF▸t);refine⟨λk m=>?_,λk m=>World.there_setCells (h.s k m) _ _ _,λk v y=>?_,?_,?_,λi=>by rw[jQ];exact h.p i,fS,λx d=>?_⟩;rw[aL,Zv]at m;by_cases e:k<rs.length;rw[Ud e];obtain⟨z,A,B⟩:=h.j k e;refine⟨z,World.rangeAt_setCells_apart A _ _ _ (by right;left;rw[bz];omega),World.there_setCells B _ _ _⟩;obtain rfl:k=rs.length:=ak;rw[List.getElem_append_right ak];simp;exact⟨eR g.1,World.rangeAt_setCells_same _ _ _ _ (hF▸c),World.there_setCells c _ _ _⟩;rw[aL,Zv]at v;rw[a _ (by right;omega)];exact h.u k ak y;rw[a _ (by right;omega)];exact h.b;rw[a _ (by right;omega)];exact h.o;rcases cI.1 d with d|d
 exact h.x x d;obtain rfl:=bA.1 d;exact g
def Lb{q:Nat}(left n:Int)(h:bM w q rs fails left):
  Calls prog 33 #[.pointer (some ⟨q,3,none⟩),.int .i64 n] w λe w'=>e=.returned (.tuple #[])/\bM w' q rs (decide (0<=n)) (max n 0)/\Oq q w w':=by
 have g:=h.p 12403;have i:=h.p 12404;have c0:=h.b;have c1:=h.o;by_cases d:0<=n
 .have a:= aX d;have F:=(h.H true).h n;have c:max n 0=n:=ak;rw[c,a];go_in;go_wp2;go_end0;exact⟨rfl,F,((Oq.O).j ak ak).j ak ak⟩
 .have a:= aK d;have c:max n 0=0:=ak;rw[c,a];have f:n<0:=ak;go_in;go_wp2;go_end0;exact⟨rfl,((h.H false).h 0),((Oq.O).j ak ak).j ak ak⟩
def Pl.O{b q:Nat}{l:List Int}(h:Pl w b o l)(a:b≠q):Pl (w.setCell (aA q i) u) b o l:=by
 let ⟨c,d,f⟩:=h
 refine⟨c,λj v g=>?_,jL f⟩;rw[am _ _ _ _ (by intro e;injection e with e;exact a e.symm)];exact d j v g
def NY{q:Nat}(m:Nat)(h:bM w q rs true 0)(n:rs.length<200)(t:Ok r)(v:q<w.heap.size)(D:m<=61):
  Calls prog 219 #[.pointer (some (aA q 3)),iI rs.length,.agg ((fm r).map (Value.int .u8)).toArray,iI m] w λe w'=>e=.returned (.bool false)/\bM w' q rs true 0/\Oq q w w':=by
 have c:=(au w.heap.size w).alloc (aj _) (.cells ((fm r).map (Value.int .u8)).toArray 71);have a:=h.e c v;have d:=Pl.j (w:=w) (eR t.1) 71;have c0:=a.b;have c1:=a.o;have x:¬((m:Int)<0):=ak;have z:(m:Int)<=61:=ak;go_in;go_wp2_with fail
 generalize w.alloc (.cells ((fm r).map (Value.int .u8)).toArray 71)=A at *;go_loopw [24] (λs f=>∃i:Nat,i<=m/\s=iI i/\bM f q rs true 0/\Pl f w.heap.size 0 (fm r)/\Oq q A f) (λs _=>m-(intOf s).toNat)
 case atStart=>exact⟨0,ak,rfl,a,d,Oq.O⟩
 case round=>
  obtain⟨i,E,rfl,a,d,g⟩:=hrel;by_cases B:i<m
  .have hc:=(d.h (i:=i) ak).1;rw[bY]at hc;let ⟨y,C⟩:∃y,(fm r).getD i 0=y:=⟨_,rfl⟩
   rw[C]at hc;let ⟨u,F⟩:=aP.1 (a.s rs.length n i ak).1
   have G:=a.p (3+rs.length*62+i);have l:(rs.length:Int)<200:=ak;go_wp2;go_region;all_goals go_wp2
   all_goals exact⟨⟨i+1,ak,by go_num,(a.I (u:=.int .u8 y) (i:=3+rs.length*62+i) ak (λk=>ak) ak ak).e (au (q+1) _).drew ak,(d.O (u:=.int .u8 y) (i:=3+rs.length*62+i) (show w.heap.size≠q by omega)).e (au (w.heap.size+1) _).drew ak,(g.j ak ak).V⟩,by simp[intOf];omega⟩
  .go_wp2;go_ret;exact⟨rfl,a,(Oq.e c).H g⟩
def Jo{q:Nat}(h:bM w q rs true 0)(m:rs.length<200)(n:Ok r)(t:q<w.heap.size)(B:61<torn):
  Calls prog 219 #[.pointer (some (aA q 3)),iI rs.length,.agg ((fm r).map (Value.int .u8)).toArray,iI torn] w λe w'=>e=.returned (.bool false)/\bM w' q rs true 0/\Oq q w w':=by
 have c:=(au w.heap.size w).alloc (aj _) (.cells ((fm r).map (Value.int .u8)).toArray 71);have a:=h.e c t;have d:=Pl.j (w:=w) (eR n.1) 71;have c0:=a.b;have c1:=a.o;have v:¬(torn<0):=ak;go_in;go_wp2_with fail
 generalize w.alloc (.cells ((fm r).map (Value.int .u8)).toArray 71)=x at *;go_loopw [24] (λs f=>∃i:Nat,i<=61/\s=iI i/\bM f q rs true 0/\Pl f w.heap.size 0 (fm r)/\Oq q x f) (λs _=>61-(intOf s).toNat)
 case atStart=>exact⟨0,ak,rfl,a,d,Oq.O⟩
 case round=>
  obtain⟨i,C,rfl,a,d,g⟩:=hrel;by_cases z:i<61
  .have hc:=(d.h (i:=i) ak).1;rw[bY]at hc;let ⟨y,A⟩:∃y,(fm r).getD i 0=y:=⟨_,rfl⟩
   rw[A]at hc;let ⟨u,D⟩:=aP.1 (a.s rs.length m i ak).1
   have E:=a.p (3+rs.length*62+i);have l:(rs.length:Int)<200:=ak;go_wp2;go_region;all_goals go_wp2
   all_goals exact⟨⟨i+1,ak,by go_num,(a.I (u:=.int .u8 y) (i:=3+rs.length*62+i) ak (λk=>ak) ak ak).e (au (q+1) _).drew ak,(d.O (u:=.int .u8 y) (i:=3+rs.length*62+i) (show w.heap.size≠q by omega)).e (au (w.heap.size+1) _).drew ak,(g.j ak ak).V⟩,by simp[intOf];omega⟩
  .go_wp2;go_ret;exact⟨rfl,a,(Oq.e c).H g⟩
def NX{q:Nat}(h:bM w q rs true 0)(g:Ok r)(k:q<w.heap.size)(n:torn<0):
  Calls prog 219 #[.pointer (some (aA q 3)),iI rs.length,.agg ((fm r).map (Value.int .u8)).toArray,iI torn] w λe w'=>e=.returned (.bool false)/\bM w' q rs true 0/\Oq q w w':=by
 have a:=(au w.heap.size w).alloc (aj _) (.cells ((fm r).map (Value.int .u8)).toArray 71);have c:=h.e a k;have f:=Pl.j (w:=w) (eR g.1) 71;have c0:=c.b;have c1:=c.o;go_in;go_wp2_with fail
 generalize w.alloc (.cells ((fm r).map (Value.int .u8)).toArray 71)=l at *;go_loopw [24] (λs d=>∃i:Nat,i<=0/\s=iI i/\bM d q rs true 0/\Pl d w.heap.size 0 (fm r)/\Oq q l d) (λs _=>0-(intOf s).toNat)
 case atStart=>exact⟨0,ak,rfl,c,f,Oq.O⟩
 case round=>
  obtain⟨i,p,rfl,c,f,m⟩:=hrel;obtain rfl:i=0:=ak;go_wp2;go_ret;exact⟨rfl,c,(Oq.e a).H m⟩
def NZ{q:Nat}(torn:Int)(h:bM w q rs true 0)(c:rs.length<200)(a:Ok r)(b:q<w.heap.size):
  Calls prog 219 #[.pointer (some (aA q 3)),iI rs.length,.agg ((fm r).map (Value.int .u8)).toArray,iI torn] w λe w'=>e=.returned (.bool false)/\bM w' q rs true 0/\Oq q w w':=by
 by_cases h0:torn<0;exact NX h a b h0;by_cases d:61<torn;exact Jo h c a b d;obtain⟨m,rfl⟩:=un (show 0<=torn by omega);exact NY m h c a b ak
def Jn{q:Nat}(w:Ba)(h:bM w q rs false left)(i:rs.length<200)(f:Ok r)(p:q<w.heap.size):
  Calls prog 219 #[.pointer (some (aA q 3)),iI rs.length,.agg ((fm r).map (Value.int .u8)).toArray,iI torn] w λe w'=>e=.returned (.bool true)/\bM w' q (rs++[r]) false left/\Oq q w w':=by
 have a:=(au w.heap.size w).alloc (aj _) (.cells ((fm r).map (Value.int .u8)).toArray 71);have d:=h.e a p;have t:=Pl.j (w:=w) (eR f.1) 71;have g:Oq q w (w.alloc (.cells ((fm r).map (Value.int .u8)).toArray 71)):=Oq.e a;have c0:=d.b;have c1:=d.o;have k:(rs.length:Int)<200:=ak;have l:(0:Int)<=(rs.length:Int):=ak;have A:=underlying71;have c:((fm r).map (Value.int .u8)).length=62:=by rw[bz,eR f.1]
 have u:=mZ;rw[<-c]at u;have m:=ints_oneCell .u8 (fm r);go_in;go_wp2_with fail
 have v:=t.2.1;have x:=d.s rs.length i;have y:=(d.e (au (q+1) _).drew ak).O i f;have z:=Oq.I ((fm r).map (Value.int .u8)) (3+rs.length*62) _ g.V ak (by rw[c];omega);generalize (fm r).map (Value.int .u8)=n at *;generalize w.alloc (.cells n.toArray 71)=B at *;go_region_held3 (λw'=>w'.rangeAt w.heap.size 0 n/\w'.there q (3+rs.length*62) 62) (go_keep_ranges) (fail)
 all_goals go_wp2
 all_goals go_ret
 exact⟨rfl,y,z⟩
def NW{q:Nat}(h:bM w q rs true left)(m:rs.length<200)(k:Ok r)(n:q<w.heap.size)(z:0<left)(A:left<=9223372036854775807):
  Calls prog 219 #[.pointer (some (aA q 3)),iI rs.length,.agg ((fm r).map (Value.int .u8)).toArray,iI torn] w λe w'=>e=.returned (.bool true)/\bM w' q (rs++[r]) true (left-1)/\Oq q w w':=by
 have a:=(au w.heap.size w).alloc (aj _) (.cells ((fm r).map (Value.int .u8)).toArray 71);have d:=h.e a n;have l:=Pl.j (w:=w) (eR k.1) 71;have f:Oq q w (w.alloc (.cells ((fm r).map (Value.int .u8)).toArray 71)):=Oq.e a;have c0:=d.b;have c1:=d.o;have B:=d.p 12404;have C:(left==0)=false:=fS;have t:(rs.length:Int)<200:=ak;have v:(0:Int)<=(rs.length:Int):=ak;have K:=underlying71;have g:((fm r).map (Value.int .u8)).length=62:=by rw[bz,eR k.1]
 have D:=mZ;rw[<-g]at D;have x:=ints_oneCell .u8 (fm r);go_in;go_wp2_with fail
 have c:(w.setCell (aA q 12404) (iI (left-1))).heap.size=w.heap.size:=aY;replace a:=(au w.heap.size (w.setCell (aA q 12404) (iI (left-1)))).alloc (by rw[c];exact aj _) (.cells ((fm r).map (Value.int .u8)).toArray 71);replace d:=(h.h (left-1)).e a n;replace l:=Pl.j (w:=w.setCell (aA q 12404) (iI (left-1))) (eR k.1) 71;rw[c]at l;replace f:=((Oq.O (q:=q) (w:=w)).j (i:=12404) (u:=iI (left-1)) ak ak).H (Oq.e (a.mono (by rw[c];exact aj _)));have E:=l.2.1;have F:=d.s rs.length m;have G:=(d.e (au (q+1) _).drew ak).O m k;have J:=Oq.I ((fm r).map (Value.int .u8)) (3+rs.length*62) _ f.V ak (by rw[g];omega);generalize (fm r).map (Value.int .u8)=y at *;generalize (w.setCell (aA q 12404) (iI (left-1))).alloc (.cells y.toArray 71)=L at *;go_region_held3 (λw'=>w'.rangeAt w.heap.size 0 y/\w'.there q (3+rs.length*62) 62) (go_keep_ranges) (fail)
 all_goals go_wp2
 all_goals go_ret
 exact⟨rfl,G,J⟩
def cO(rs:List R):List Value:=rs.flatMap R.h
def Bd(rs:List R):(cO rs).length=rs.length*6:=by
 induction rs with
 |nil=>rfl
 |cons r rs a=>
  have e:cO (r::rs)=r.h++cO rs:=by simp[cO]
  rw[e,aL,a,bJ,R.j];omega
def xq(rs:List R)(r:R):cO (rs++[r])=cO rs++r.h:=by simp[cO]
def Jl(rs:List R):∀u∈cO rs,u.oneCell'=true:=by
 intro u a;simp only[cO,nJ]at a;let ⟨r,_,h⟩:=a
 exact R.I r u h
structure du(w:World)(u q:Nat)(rs:List R)(down:Bool):Prop where
 h:w.cell? ⟨u,0,none⟩=some (.pointer (some ⟨q,3,none⟩))
 o:∃v,w.cell? ⟨u,1,none⟩=some v/\w.ownsRow (u+1) 138 6 v rs.length (cO rs)
 b:w.cell? ⟨u,2,none⟩=some (.bool down)
 j:∀i,w.frozen? ⟨u,i,none⟩=false
 p:u<w.heap.size
 s:∃cs f,w.heap[u]?=some (.cells cs 296 f)
def oC{e:DU}{v:Dv}(h:w.ownsRow B e s v n xs)(d:FF w w'):w'.ownsRow B e s v n xs:=by
 refine⟨h.1,?_⟩;rcases h.2 with h|⟨g,a,b,f,i,c,j⟩
 exact .inl h;exact .inr ⟨g,a,b,f,i,(d.block g (ar.1 c).1).trans c,j⟩
def DW{u:Nat}{v:Dv}(h:∃cs f,w.heap[u]?=some (.cells cs t f)):∃cs f,(w.setCell (aA u i) v).heap[u]?=some (.cells cs t f):=by
 let ⟨cs,f,h⟩:=h
 refine⟨cs.setIfInBounds i v,f,?_⟩;simp[World.setCell,bL,h]
def sc{e:DU}{v:Dv}(h:w.ownsRow B e s v n xs):∃ao c,v=.slice ao n c/\n<=c/\(ao=none->n=0/\c=0):=by
 rcases h.2 with⟨rfl,rfl⟩|⟨g,a,b,rfl,_,_,d,_⟩
 exact⟨none,0,rfl,aj _,λ_=>⟨rfl,rfl⟩⟩;exact⟨_,a,rfl,d,λh=>by cases h⟩
def du.e{u q:Nat}{down:Bool}(h:du w u q rs down)(a:FF w w'):du w' u q rs down:=by
 obtain⟨c,⟨v,d,f⟩,g,j,b,k⟩:=h;exact⟨(a.cell (p:=(aA u 0)) b).trans c,⟨v,(a.cell (p:=(aA u 1)) b).trans d,oC f a⟩,(a.cell (p:=(aA u 2)) b).trans g,λi=>(a.frozen (p:=(aA u i)) b).trans (j i),by have:=a.size;omega,k.imp λ_ h=>h.imp λ_ h=>(a.block u b).trans h⟩
def We(w:Ba)(q:Nat):du (w.alloc (.cells #[.pointer (some (aA q 3)),.slice none 0 0,.bool false] 296)) w.heap.size q [] false:=
 ⟨aY,⟨.slice none 0 0,aY,i6 _ _ _ _⟩,aY,λi=>aY,aY,_,_,bo w _⟩
def Gc(w:Ba)(r:R):∀j u,r.h[j]?=some u->(w.alloc (.cells #[iI r.c,iI r.n,iI r.o,iI r.v,.string r.d,iI r.e] 138)).cell? (((FI w 0):Addr).add j)=some u:=by
 intro j u a;rw[Addr.add_mid,bY,bN _ _ _ _ _ _ (bo w _),<-a];exact bH
def rr:(prog.info? 138).map (λi=>(i.zero,i.size,i.bytes))=some (some (.agg #[iI 0,iI 0,iI 0,iI 0,.string ⟨#[]⟩,iI 0]),6,56):=bt
def RR{q:Nat}(h:bM w q rs fails left)(hq:q<w.heap.size):
  Calls prog 172 #[.pointer (some (aA q 3))] w λe w'=>∃u,e=.returned (.tuple #[.pointer (some (aA u 0)),.nilIface])/\du w' u q rs false/\w.heap.size<=u/\FF w w':=by
 have hlen:=h.t;go_in;go_wp2_with fail
 have hbx:=(au w.heap.size w).alloc (aj _) (.cells #[.pointer (some ⟨q,3,none⟩),.slice none 0 0,.bool false] 296);have hW0:du (w.alloc (.cells #[.pointer (some ⟨q,3,none⟩),.slice none 0 0,.bool false] 296)) w.heap.size q (rs.take 0) false:=We w q;refine(uW (h.e hbx hq)).mono ?_;rintro e w'⟨rfl,hw'⟩;rw[hw'];clear hw';generalize w.alloc (.cells #[.pointer (some ⟨q,3,none⟩),.slice none 0 0,.bool false] 296)=wb at *;go_wp2;go_loopw [14] (λs wr=>∃k:Nat,k<=rs.length/\s=.int .i64 k/\du wr w.heap.size q (rs.take k) false/\FF w wr) (λs _=>rs.length-(intOf s).toNat)
 case atStart=>exact⟨0,ak,rfl,hW0,hbx⟩
 case round=>
  obtain⟨k,hk,rfl,hW,hB⟩:=hrel;by_cases hlt:k<rs.length
  .have hD:=h.e hB hq;have hP:=hD.j k hlt;have hOk:=h.x _ (bp hlt);have hD2:=hW.h;have hW2:=hW.b;have hWf:=hW.j;have hus:=hW.p;have hty:=hW.s;let ⟨v,hv,hrow⟩:=hW.o
   obtain⟨va,vc,rfl,hvc,_⟩:=sc hrow;have htl:(rs.take k).length=k:=by rw[cx];omega
   have HT:Hid (rs.take (k+1)=rs.take k++[rs[k]]):=bw hlt;rw[htl]at hv hrow;generalize rs[k]=r at *;generalize rs.take k=rk at *;have hrg:=hP.2.1;have hcl:((fm r).map (Value.int .u8)).length=62:=by rw[bz,eR hOk.1]
   have hi62:=mZ;rw[<-hcl]at hi62;obtain⟨i0,hi,hy0,hy1,hy2⟩:=dg rr;have hk0:(0:Int)<=(k:Int):=ak;have hk1:(k:Int)<200:=ak;have e3:k+1<=maxLen:=by unfold maxLen;omega
   have e4:(k+1)*56<=140737488355328:=ak;have hf1:=hWf 1;have hqu:q≠w.heap.size:=ak;clear hP hD hW hW0 hbx;go_wp2_with fail
   refine Gen.start (S:=λw'=>w'.cell? ⟨w.heap.size,1,none⟩=some (.slice va k vc)/\w'.rangeAt q (3+k*62) ((fm r).map (Value.int .u8))) bt ⟨hv,hrg⟩ (λqH=>?_);refine tk 0 14 qH ?_

   refine tk 1 2 qH ?_;go_frame;refine tk 2 3 qH ?_

   refine tk 3 4 qH ?_;go_frame;refine tk 4 13 qH ?_

   refine tk 5 7 qH ?_;go_frame;refine tk 6 9 qH ?_

   refine tk 7 8 qH ?_;go_frame;refine tk 8 9 qH ?_

   refine tk 9 10 qH ?_;go_frame;refine take (i:=10) (k:=11) (v:=_) rfl rfl bt bt bt bt bt bt (λ_ _ _ h=>h) (yieldsIf_load_mid (by rfl) 71 (.tmp 26) rfl _ _ rfl _ _ (λ_ h=>h.2) underlying71 rfl hi62) qH ?_;simp only[Act.put,ax,aJ,aI];refine on 11 λK hK=>?_;go_simp;apply (RT hOk.1 hOk.2).mono;rintro e w2⟨rfl,hb2⟩;dsimp only;have hs2:=hb2.size;have hbr:FF wr w2:=⟨hb2.os,hb2.tape,hb2.output,hb2.size,hb2.block⟩;refine hK.out _ _ ⟨(hbr.cell (p:=⟨w.heap.size,1,none⟩) hus).trans hv,λj v hv=>(hbr.cell (p:=⟨q,3+k*62+j,none⟩) jB).trans (hrg j v hv)⟩ (λqH=>?_);clear hK K;try simp only[Act.put,ax,aJ,aI]
   refine on 12 λK hK=>?_;go_simp;have hb3:FF wr (w2.alloc (.cells #[.int .i64 r.c,.int .i64 r.n,.int .i64 r.o,.int .i64 r.v,.string r.d,.int .i64 r.e] 138)):=hbr.alloc hs2 _;refine hK.out _ _ ⟨(hb3.cell (p:=⟨w.heap.size,1,none⟩) hus).trans hv,λj v hv=>(hb3.cell (p:=⟨q,3+k*62+j,none⟩) jB).trans (hrg j v hv)⟩ (λqH=>?_)

   try simp only[Act.put,ax,aJ,aI]
   refine on 13 λK hK=>?_;refine wp_append_own _ (.tmp 21) (.tmp 29) 267 rfl (w.heap.size+1) 138 i0 (.agg #[.int .i64 0,.int .i64 0,.int .i64 0,.int .i64 0,.string ⟨#[]⟩,.int .i64 0]) 6 56 underlying267 hi hy0 hy1 hy2 rfl cn _ _ _ (by rfl) (oC hrow hb3) ⟨w2.heap.size,0,none⟩ 1 1 r.h (by rfl) rfl (Gc w2 r) r.I e3 e4 (jd hb3.size) ?_;intro v1 w3 hown1 hg1 _;rw[<-xq]at hown1;obtain⟨va1,vc1,rfl,_,_⟩:=sc hown1;have hb4:Below (w.heap.size+1) wr w3:=(hb3.mono ak).grown hg1 (jd hb3.size) (λk hk=>((oC hrow hb3).lt k hk).1);have m1:=(hb4.cell (p:=⟨w.heap.size,1,none⟩) jB).trans hv;have m2:w3.frozen? ⟨w.heap.size,1,none⟩=false:=(hb4.frozen (p:=⟨w.heap.size,1,none⟩) jB).trans hf1;refine hK.out _ _ ⟨m1,λj v hv=>(hb4.cell (p:=⟨q,3+k*62+j,none⟩) jB).trans (hrg j v hv)⟩ (λqH=>?_);clear hK K;try simp only[Act.put,ax,aJ,aI]
   apply tk 14 15 qH;go_frame;refine tk 15 16 qH ?_;go_frame;refine la 16 λK hK=>?_;go_simp;apply hK.out _ _;clear hK K qH;have hWn:du (w3.setCell ⟨w.heap.size,1,none⟩ (.slice va1 (k+1) vc1)) w.heap.size q (rk++[r]) false:=by
    refine⟨?_,⟨_,az _ _ _ m1,?_⟩,?_,λi=>?_,by have:=hb4.size;simp;omega,DW (hty.imp λ_ h=>h.imp λ_ h=>(hb4.block _ ak).trans h)⟩;rw[am _ _ _ _ aY];exact(hb4.cell (p:=⟨w.heap.size,0,none⟩) jB).trans hD2;rw[aL,htl];exact gU (a:=⟨w.heap.size,1,none⟩) hown1 jB _;rw[am _ _ _ _ aY];exact(hb4.cell (p:=⟨w.heap.size,2,none⟩) jB).trans hW2;rw[aT];exact(hb4.frozen (p:=⟨w.heap.size,i,none⟩) jB).trans (hWf i)
   have hBn:FF w (w3.setCell ⟨w.heap.size,1,none⟩ (.slice va1 (k+1) vc1)):=(hB.trans (hb4.mono ak)).setCell (aj _) _;generalize w3.setCell ⟨w.heap.size,1,none⟩ (.slice va1 (k+1) vc1)=w4 at *;go_wp2;exact⟨⟨k+1,ak,by go_num,HT.out▸hWn,hBn⟩,by simp[intOf];omega⟩
  .obtain rfl:k=rs.length:=ak;rw[fP]at hW;go_wp2_with fail
   go_ret2;exact⟨_,rfl,hW,aj _,hB⟩
end Wal
namespace App
variable{a:Act}{Q:Exit->Act->Ba->Prop}{xs news:List Dv}{base size bytes n:Nat}{o:Oper}{P:Ft}{t:DU}{i:TypeInfo}{z:Dv}{w:Ba}
def M7{r e:DU}(y:P.underlying t=some (.slice e))(A:P.info? e=some i)(H:i.zero=some z)(o:i.size=size)(D:i.bytes=bytes){v:Dv}(h:w.ownsRow base e size v n xs){a:Addr}{m c:Nat}(B:news.length=m*size)(d:∀j u,news[j]?=some u->w.cell? (a.add j)=some u)(J:∀u∈news,u.oneCell'=true)(E:n+m<=maxLen)(f:(n+m)*bytes<=140737488355328){I:Dv}{w':Ba}(b:(Builtin.append_ #[t,t] r #[v,.slice (some a) m c]).run P w=.ok I w'):
  ∀g,I.ownBlock=some g->v.ownBlock=some g\/w.heap.size<=g:=by
 subst o;subst D;have C:n+m<=9223372036854775807:=by simp only[maxLen]at E;omega
 intro R l;rcases h.2 with⟨rfl,rfl⟩|⟨g,p,s,rfl,K,L,M,N,F,G⟩
 by_cases O:m=0;subst O;have e:(Builtin.append_ #[t,t] r #[.slice none 0 0,.slice (some a) 0 c]).run P w=.ok (.slice none 0 0) w:=by
  simp[Builtin.append_,iM y,sizeOf,typeInfo,A,Builtin.lenOf,Builtin.firstCells,loadCells,loadCellsFrom]
 rw[e]at b;injection b with b _
 subst b;simp[Value.ownBlock]at l;have e:=run_append_nil (P:=P) w t r _ i z y A H a m c news B d ak ak (by have Q:=f;simp at Q;omega);rw[e]at b;injection b with b _
 subst b;simp[Value.ownBlock]at l;exact .inr ak;by_cases k:n+m<=p;have x:n*i.size+news.length<=s.size:=by rw[B,F,<-yt];exact ZV _ k
 have e:=run_append_room (P:=P) w t r _ i y A g n p s L a m c news B d J k x;rw[e]at b;injection b with b _
 subst b;exact .inl l;have q:= h.cells (g:=g) rfl;rw[(run_append_grow (P:=P) w t r _ i z y A H (aA g 0) n p xs h.1 q a m c news B d ak ak (growslice_fits ak f))]at b;injection b with b _
 subst b;simp[Value.ownBlock]at l;exact .inr ak
def mh{K:Act->Ba->Prop}(s x:Operand)(H:o.op=.call {callee:=.builtin .append,args:=#[s,x],argTypes:=#[t,t]}){e:DU}(B:P.underlying t=some (.slice e))(C:P.info? e=some i)(D:i.zero=some z)(d:i.size=size)(p:i.bytes=bytes)(y:z.cells.size=size)(A:0<size){v:Dv}(hs:a.eval s=v)(k:w.ownsRow base e size v n xs)(ad:Addr)(m c:Nat)(I:a.eval x=.slice (some ad) m c)(E:news.length=m*size)(f:∀j u,news[j]?=some u->w.cell? (ad.add j)=some u)(F:∀u∈news,u.oneCell'=true)(q:n+m<=maxLen)(b:(n+m)*bytes<=140737488355328)(l:base<=w.heap.size)(h:∀r w',w'.ownsRow base e size r (n+m) (xs++news)->w.grownBy w' v.ownBlock->(∀g,r.ownBlock=some g->v.ownBlock=some g\/w.heap.size<=g)->K (a.put o.dst r) w'):o.wp P a w K Q:=by
 obtain⟨r,w',G,J,L,_⟩:=run_append_own (P:=P) w base t o.type e i z size bytes B C D d p y A v n xs k ad m c news E f F q b l;unfold Oper.wp execOp;simp only[H,resolve,invoke,builtin,rL,Sem.run_pure,uk,iw,bT,fJ,hs,I,G];exact h r w' J L (M7 B C D d p k E f F q b G)
def iC{l:Array Oper}{rest:List Oper}(r:o.guard=none){s x:Operand}(D:o.op=.call {callee:=.builtin .append,args:=#[s,x],argTypes:=#[t,t]}){e:DU}(E:P.underlying t=some (.slice e))(F:P.info? e=some i)(G:i.zero=some z)(d:i.size=size)(y:i.bytes=bytes)(A:z.cells.size=size)(B:0<size){v:Dv}(hs:a.eval s=v)(p:w.ownsRow base e size v n xs)(ad:Addr)(m c:Nat)(news:List Dv)(H:a.eval x=.slice (some ad) m c)(I:news.length=m*size)(f:∀j u,news[j]?=some u->w.cell? (ad.add j)=some u)(J:∀u∈news,u.oneCell'=true)(C:n+m<=maxLen)(b:(n+m)*bytes<=140737488355328)(k:base<=w.heap.size)(h:∀q w',w'.ownsRow base e size q (n+m) (xs++news)->w.grownBy w' v.ownBlock->(∀g,q.ownBlock=some g->v.ownBlock=some g\/w.heap.size<=g)->wpList P l Q rest (a.put o.dst q) w'):wpList P l Q (o::rest) a w:=
 wpList_plain r λ_ K=>mh (w:=w) s x D E F G d y A B hs p ad m c H I f J C b k λq w' L M N=>K _ _ (h q w' L M N)
end App
namespace Wal
variable{down:Bool}{rs:List R}{u:Nat}{r:R}{a b c w w':Ba}
structure NG(u q:Nat)(row:Option Nat)(w w':World):Prop where
 A:w'.os=w.os
 s:w'.tape=w.tape
 o:w'.output=w.output
 h:w.heap.size<=w'.heap.size
 b:∀k,k<w.heap.size->k≠u->k≠q->row≠some k->w'.heap[k]?=w.heap[k]?
 p:∀i,q<w.heap.size->q<u->(∀g,row=some g->u<g)->(i<3\/12405<=i)->w'.cell? ⟨q,i,none⟩=w.cell? ⟨q,i,none⟩
 x:∀i,q<w.heap.size->q<u->(∀g,row=some g->u<g)->w'.frozen? ⟨q,i,none⟩=w.frozen? ⟨q,i,none⟩
 y:∀t,q<u->(∀g,row=some g->u<g)->(∃cs f,w.heap[q]?=some (.cells cs t f))->∃cs f,w'.heap[q]?=some (.cells cs t f)
def Fw(u q:Nat)(w w':World):Prop:=∃v,w.cell? ⟨u,1,none⟩=some v/\NG u q v.ownBlock w w'/\∃a,w'.cell? ⟨u,1,none⟩=some a/\∀g,a.ownBlock=some g->v.ownBlock=some g\/w.heap.size<=g
def NG.j{q:Nat}{row:Option Nat}(h:NG u q row a b)(k:NG u q row b c):NG u q row a c:=
 ⟨k.A.trans h.A,k.s.trans h.s,k.o.trans h.o,aO h.h k.h,λi g d e l=>by
  rw[k.b i (aN g h.h) d e l,h.b i g d e l],
  λi e d f g=>(k.p i (aN e h.h) d f g).trans (h.p i e d f g),λi e d f=>(k.x i (aN e h.h) d f).trans (h.x i e d f),λt d f l=>k.y t d f (h.y t d f l)⟩
def NG.I{q:Nat}(row:Option Nat)(h:Oq q a b):NG u q row a b:=⟨h.y,h.s,h.p,h.h,λk d _ c _=>h.b k d c,λi c _ _ e=>h.o i c e,λi c _ _=>h.u i c,λt _ _ f=>h.x t f⟩
def NG.e{q:Nat}(row:Option Nat)(h:FF a b):NG u q row a b:=NG.I row (Oq.e h)
def NG.O{q:Nat}{row:Option Nat}(h:NG u q row a b)(hs:b.heap.size<=c.heap.size)(m:c.os=b.os)(n:c.tape=b.tape)(o:c.output=b.output)(g:∀k,k<b.heap.size->k≠u->row≠some k->c.heap[k]?=b.heap[k]?):NG u q row a c:=
 h.j ⟨m,n,o,hs,λk p i _ d=>g k p i d,λ_ l i f _=>aa (g q l ak (λe=>by have:=f q e;omega)),λ_ l i f=>aG (g q l ak (λe=>by have:=f q e;omega)),
  λ_ i f d=>d.imp λ_ d=>d.imp λ_ d=>(g q (ar.1 d).1 ak (λe=>by have:=f q e;omega)).trans d⟩
def NG.H{q i:Nat}{row:Option Nat}(h:NG u q row a b)(v:Dv):NG u q row a (b.setCell (aA u i) v):=
 h.O aY rfl rfl rfl (λk _ c _=>aQ b (aA u i) v k c)
def NG.V{q:Nat}{row:Option Nat}(h:NG u q row a b)(d:b.grownBy c row):NG u q row a c:=
 h.O d.size d.os d.tape d.output (λk f _ g=>d.block k f (λe=>g e.symm))
def du.I{q:Nat}(h:du w u q rs down)(d:Oq q w w')(l:q<u):du w' u q rs down:=by
 obtain⟨m,⟨v,n,j⟩,o,p,r,s⟩:=h;have c:=d.b u r ak;refine⟨(aa (a:=(aA u 0)) c).trans m,⟨v,(aa (a:=(aA u 1)) c).trans n,j.1,?_⟩,(aa (a:=(aA u 2)) c).trans o,λi=>(aG (a:=(aA u i)) c).trans (p i),by have:=d.h;omega,s.imp λ_ h=>h.imp λ_ h=>c.trans h⟩;rcases j.2 with h|⟨g,e,f,t,x,k,y⟩
 exact .inl h;exact .inr ⟨g,e,f,t,x,(d.b g (ar.1 k).1 ak).trans k,y⟩
def RQ(h:jv r=true):Ok r:=by
 unfold jv at h;split at h;rename_i e;simp[gW]at h;let ⟨h0,hc,a,b,c⟩:=h
 have d:=Num.eo h0;refine⟨by rw[c];simp,?_⟩;apply Bc;exact .inl (by simp[jG,hc]);exact .inl (by simp[jG,a]);exact .inr (by simp[jG,e]);exact .inl (by simp[jG,b]);exact .inl (by simpa[jG] using d);simp[fI]at h;let ⟨⟨⟨hc,a⟩,b⟩,h0,f,c,d⟩:=h
 refine⟨c,?_⟩;apply Bc;exact .inl (by simpa[jG] using (Num.eo hc));exact .inl (by simpa[jG] using (Num.eo a));exact .inl (by simp[jG];omega);exact .inl (by simpa[jG] using (Num.eo b));exact .inl (by simp[jG,d])
def RL{q:Nat}(torn:Int)(r:R)(h:du w u q rs true):
  Calls prog 176 #[.pointer (some (aA u 0)),r.H,iI torn] w λe w'=>e=.returned (.iface 59 (iI 6))/\FF w w':=by
 have c2:=h.b;have a:=h.p;go_in;go_wp2;go_ret;exact⟨rfl,(au _ _).alloc (aj _) _⟩
def RM{q:Nat}{fails:Bool}(left torn:Int)(h:du w u q rs false)(d:bM w q rs fails left)(f:q<u)(g:rs.length=200)(i:jv r=true):
  Calls prog 176 #[.pointer (some (aA u 0)),r.H,iI torn] w λe w'=>e=.returned (.iface 59 (iI 12))/\FF w w':=by
 have ⟨_,_,c2,_,j,_⟩:=h

 go_in;go_wp2_with fail
 refine(yh r (jd ((RQ i).1))).mono ?_;rintro e w1⟨rfl,a⟩;have b:= ((au _ _).alloc (aj _) _).trans (a.mono aY);have k:=(b.cell (p:=(aA u 0)) j).trans h.h;go_wp2_with fail
 apply (uW (d.e b ak)).mono;rintro e w2⟨rfl,c⟩;rw[c,g];go_wp2;go_ret;exact⟨rfl,b⟩
def du.H{q:Nat}(h:du w u q rs down)(d:Bool):du (w.setCell (aA u 2) (.bool d)) u q rs d:=by
 obtain⟨b,⟨v,c,e⟩,f,g,j,k⟩:=h;refine⟨by rw[am _ _ _ _ aY];exact b,⟨v,by rw[am _ _ _ _ aY];exact c,?_⟩,az _ _ _ f,λi=>by rw[aT];exact g i,dD j,DW k⟩;exact gU (a:=(aA u 2)) e jB _
def Bx(w:World)(b:Nat)(r:R):Prop:=w.cell? ⟨b,0,none⟩=some (.int .i64 r.c)/\w.cell? ⟨b,1,none⟩=some (.int .i64 r.n)/\w.cell? ⟨b,2,none⟩=some (.int .i64 r.o)/\w.cell? ⟨b,3,none⟩=some (.int .i64 r.v)/\w.cell? ⟨b,4,none⟩=some (.string r.d)/\w.cell? ⟨b,5,none⟩=some (.int .i64 r.e)
def Bx.h(w:Ba)(r:R)(t:DU):Bx (w.alloc (.cells #[iI r.c,iI r.n,iI r.o,iI r.v,.string r.d,iI r.e] t)) w.heap.size r:=by
 refine⟨?_,?_,?_,?_,?_,?_⟩<;>(rw[bN _ _ _ _ _ _ (bo w _)];rfl)
def Bx.e{b:Nat}(h:Bx w b r)(c:w'.heap[b]?=w.heap[b]?):Bx w' b r:=by
 obtain⟨h0,d,f,g,i,j⟩:=h;exact⟨(aa (a:=(aA b 0)) c).trans h0,(aa (a:=(aA b 1)) c).trans d,(aa (a:=(aA b 2)) c).trans f,(aa (a:=(aA b 3)) c).trans g,(aa (a:=(aA b 4)) c).trans i,(aa (a:=(aA b 5)) c).trans j⟩
def V0{q:Nat}(torn:Int)(h:du w u q rs false)(A:bM w q rs true 0)(B:q<u)(J:rs.length<200)(L:jv r=true):
  Calls prog 176 #[.pointer (some (aA u 0)),r.H,iI torn] w λe w'=>e=.returned (.iface 59 (iI 14))/\du w' u q rs true/\bM w' q rs true 0/\Fw u q w w':=by
 have ⟨_,_,c2,_,M,_⟩:=h

 have m:=RQ L;have n:=m.1;go_in;go_wp2_with fail
 have s:=Bx.h w r 138;apply (yh r ak).mono;rintro e w1⟨rfl,l⟩;have C:=l.size;simp at C;have t:= ((au _ _).alloc (aj _) _).trans (l.mono aY);have x:=(t.cell (p:=(aA u 0)) M).trans h.h;have d:=s.e (l.block w.heap.size aY);replace h:=h.e t;replace A:=A.e t ak;have N:=h.j 2;have O:=h.b;go_wp2_with fail
 apply (uW A).mono;rintro e w2⟨rfl,D⟩;rw[D];have P:(rs.length:Int)<200:=ak;have Q:((rs.length:Int)==200)=false:=fS;go_wp2_with fail
 refine Gen.start (S:=λw'=>w'.cell? (aA u 0)=some (.pointer (some (aA q 3)))/\Bx w' w.heap.size r) bt ⟨x,d⟩ (λqH=>?_);refine tz ?_;refine on 6 λK y=>?_;go_simp;apply (xr r n).mono;rintro e w3⟨rfl,f⟩

 have c:FF w1 w3:=⟨f.os,f.tape,f.output,f.size,f.block⟩;have R:=c.size;refine y.out _ _ ⟨(c.cell (p:=(aA u 0)) jB).trans x,d.e (c.block w.heap.size ak)⟩ (λqH=>?_)

 refine on 8 λK y=>?_;go_simp;apply (NZ torn (A.e c ak) J m ak).mono;rintro e w4⟨rfl,E,i⟩

 have z:=(h.e c).I i B;have T:=i.h;have F:=i.b w.heap.size ak ak;have G:= (i.b u ak ak).trans ((t.trans (c.mono ak)).block u ak);refine y.out _ _ ⟨z.h,((d.e (c.block w.heap.size ak)).e F)⟩ (λqH=>?_)

 refine la 9 λK y=>?_;go_simp;apply y.out _ _;have V:=z.b;have W:=z.j 2;go_wp2;go_ret;exact⟨rfl,z.H true,E.e (Below.setCell (au (q+1) w4) jB _) ak,z.o.elim λv k=>⟨v,(aa (a:=(aA u 1)) G).symm.trans k.1,((λrow=>(NG.e row (t.trans (c.mono ak))).j (NG.I row i)) _).H _,v,(am _ _ _ _ aY).trans k.1,λg U=>.inl U⟩⟩
def RN{q:Nat}{X:Bool}(left z torn:Int)(h:du w u q rs false)(Y:bM w q rs X left)(ad:q<u)(hl:rs.length<200)(hm:jv r=true)(aS:∀W,bM W q rs X left->rs.length<200->Ok r->q<W.heap.size->Calls prog 219 #[.pointer (some (aA q 3)),iI rs.length,.agg ((fm r).map (Value.int .u8)).toArray,iI torn] W λe w'=>e=.returned (.bool true)/\bM w' q (rs++[r]) X z/\Oq q W w'):
  Calls prog 176 #[.pointer (some (aA u 0)),r.H,iI torn] w λe w'=>e=.returned .nilIface/\du w' u q (rs++[r]) false/\bM w' q (rs++[r]) X z/\Fw u q w w':=by
 have HW:Hid _:=aS

 have ⟨c0,_,c2,_,hu,_⟩:=h


 have J:=RQ hm;have L:=J.1;go_in;go_wp2_with fail
 have M:=Bx.h w r 138;apply (yh r ak).mono;rintro e w1⟨rfl,F⟩;have a0:=F.size;simp at a0;have N:FF w w1:=((au _ _).alloc (aj _) _).trans (F.mono aY);have O:=(N.cell (p:=⟨u,0,none⟩) hu).trans c0;have A:=M.e (F.block w.heap.size aY);replace h:=h.e N;replace Y:=Y.e N ak;have cW:=h.j 2;have dd:=h.b

 go_wp2_with fail
 apply (uW Y).mono;rintro e w2⟨rfl,a1⟩;rw[a1]

 have df:(rs.length:Int)<200:=ak;have dk:((rs.length:Int)==200)=false:=fS;go_wp2_with fail
 refine Gen.start (S:=λw'=>w'.cell? ⟨u,0,none⟩=some (.pointer (some ⟨q,3,none⟩))/\Bx w' w.heap.size r) bt ⟨O,A⟩ (λqH=>?_);refine tz ?_;refine on 6 λK t=>?_;go_simp;apply (xr r L).mono;rintro e w3⟨rfl,B⟩

 have f:FF w1 w3:=⟨B.os,B.tape,B.output,B.size,B.block⟩;have dm:=f.size;refine t.out _ _ ⟨(f.cell (p:=⟨u,0,none⟩) jB).trans O,A.e (f.block w.heap.size ak)⟩ (λqH=>?_)


 refine on 8 λK t=>?_;go_simp;apply (HW.out _ (Y.e f ak) hl J ak).mono;rintro e w4⟨rfl,bm,C⟩

 have Z:=(h.e f).I C ad;have dn:=C.h;have bO:=C.b u ak ak;have bR:=C.b w.heap.size ak ak;have E:=(A.e (f.block w.heap.size ak)).e bR;have P:∀row,NG u q row w w4:=λrow=>(NG.e row (N.trans (f.mono ak))).j (NG.I row C);have ci:w4.heap[u]?=w.heap[u]?:=bO.trans ((N.trans (f.mono ak)).block u ak);refine t.out _ _ ⟨Z.h,E⟩ (λqH=>?_)


 refine la 9 λK t=>?_;go_simp;apply t.out _ _

 have g1:=Z.j 1;let ⟨v,Q,D⟩:=Z.o
 obtain⟨va,vc,rfl,dr,_⟩:=sc D;have ⟨g0,_,g2,g3,cj,ck⟩:=Z




 have cB:q<w4.heap.size:=ak;let ⟨i0,hi,cl,cm,co⟩:=dg rr
 have e3:rs.length+1<=maxLen:=by unfold maxLen;omega
 have e4:(rs.length+1)*56<=140737488355328:=ak;go_wp2_with fail
 let ⟨s0,s1,s2,s3,s4,s5⟩:=E
 refine Gen.start (S:=λw'=>w'.cell? ⟨u,1,none⟩=some (.slice va rs.length vc)) bt Q (λqH=>?_);refine tz ?_;refine on 5 λK t=>?_;go_simp;refine t.out _ _ Q (λqH=>?_)


 refine on 6 λK t=>?_;go_simp;have l:FF w4 (w4.alloc (.cells #[.int .i64 r.c,.int .i64 r.n,.int .i64 r.o,.int .i64 r.v,.string r.d,.int .i64 r.e] 138)).drew:=((au _ _).alloc (aj _) _).drew;refine t.out _ _ ((l.cell (p:=⟨u,1,none⟩) cj).trans Q) (λqH=>?_)


 refine on 7 λK t=>?_;refine App.mh (.tmp 43) (.tmp 45) rfl underlying267 hi cl cm co rfl cn (by rfl) (oC D l) ⟨w4.heap.size,0,none⟩ 1 1 (by rfl) rfl (Gc w4 r) r.I e3 e4 (jd l.size) ?_;intro v1 R s T cp;rw[<-xq]at s;obtain⟨x,y,rfl,_,_⟩:=sc s;have m:Below (u+1) w4 R:=(l.mono ak).grown T (jd l.size) (λk hk=>((oC D l).lt k hk).1);have cs:=((P _).j (NG.e _ l)).V T;have ct:=(aa (a:=⟨u,1,none⟩) ci).symm.trans Q;have m1:=(m.cell (p:=⟨u,1,none⟩) jB).trans Q;have m2:R.frozen? ⟨u,1,none⟩=false:=(m.frozen (p:=⟨u,1,none⟩) jB).trans g1;refine t.out _ _ m1 (λqH=>?_)


 refine tz ?_;refine la 10 λK t=>?_;go_simp;apply t.out _ _

 have cv:du (R.setCell ⟨u,1,none⟩ (.slice x (rs.length+1) y)) u q (rs++[r]) false:=by
  refine⟨?_,⟨_,az _ _ _ m1,?_⟩,?_,λi=>?_,by have:=m.size;simp;omega,DW (ck.imp λ_ h=>h.imp λ_ h=>(m.block _ ak).trans h)⟩;rw[am _ _ _ _ aY];exact(m.cell (p:=⟨u,0,none⟩) jB).trans g0;rw[aL];exact gU (a:=⟨u,1,none⟩) s jB _;rw[am _ _ _ _ aY];exact(m.cell (p:=⟨u,2,none⟩) jB).trans g2;rw[aT];exact(m.frozen (p:=⟨u,i,none⟩) jB).trans (g3 i)
 have cw:=bm.e ((m.mono (show q+1<=u+1 by omega)).setCell (p:=⟨u,1,none⟩) jB (.slice x (rs.length+1) y)) ak;have cA:=cs.H (i:=1) (.slice x (rs.length+1) y);have G:=az R ⟨u,1,none⟩ (.slice x (rs.length+1) y) m1;have cG:=(P none).h;have U:∀g,(Value.slice x (rs.length+1) y).ownBlock=some g->_\/w.heap.size<=g:=λg hg=>(cp g hg).imp (λh=>h) (λh=>by have:=l.size;omega);generalize R.setCell ⟨u,1,none⟩ (.slice x (rs.length+1) y)=w7 at *;go_wp2;go_ret;exact⟨rfl,cv,cw,_,ct,cA,_,G,U⟩
def RO{q:Nat}(h:du w u q rs down):
  Calls prog 194 #[.pointer (some (aA u 0))] w λe w'=>e=.returned (.bool down)/\w'=w:=by
 have c2:=h.b;go_in;go_wp2;go_ret;exact⟨rfl,rfl⟩
def Lc(w:Ba)(a:Option Addr)(n c:Nat):(binOp .eql 267 (.slice a n c) (.slice none 0 0)).run prog w=.ok (.bool a.isNone) w:=
 Lib.run_eql_slice_nil w 267 138 a n c 0 0 underlying267
def NJ:
  Calls prog 216 #[.slice none 0 0] w λe w'=>e=.returned (.slice none 0 0)/\w'=w:=by
 have a:=λw=>Lc w none 0 0;go_in;go_wp2;go_ret;exact⟨rfl,rfl⟩
def Jj{B g c:Nat}(f:w.ownsRow B 138 6 (.slice (some (aA g 0)) rs.length c) rs.length (cO rs))(A:rs.length<=200):
  Calls prog 216 #[.slice (some (aA g 0)) rs.length c] w λe w'=>∃v,e=.returned v/\w'.ownsRow w.heap.size 138 6 v rs.length (cO rs)/\FF w w':=by
 obtain⟨r,s,m,n,o⟩:=dg rr;have b:(w.alloc (.cells #[] 138)).ownsRow w.heap.size 138 6 (.slice (some (FI w 0)) 0 0) 0 []:=by simpa using Ku (base:=w.heap.size) (e:=138) (size:=6) w #[] 0 (aj _) cn rfl
 have d:∀j u,(cO rs)[j]?=some u->(w.alloc (.cells #[] 138)).cell? (((aA g 0):Addr).add j)=some u:=λj u h=>by
  have:=f.cells rfl j u h;rw[aC _ _ _ (cz _ _ this)];exact this
 have t:0+rs.length<=maxLen:=by unfold maxLen;omega
 have x:(0+rs.length)*56<=140737488355328:=ak;have i:=Bd rs;have l:=Jl rs;have C:=λw=>Lc w (some (aA g 0)) rs.length c;go_in;go_wp2_with (at_builtin;refine eO _ rfl _ _ 267 rfl w.heap.size 138 r (.agg #[iI 0,iI 0,iI 0,iI 0,.string ⟨#[]⟩,iI 0]) 6 56 underlying267 s m n o rfl cn _ _ _ rfl b (aA g 0) _ _ (cO rs) rfl i d l t x ?r5 ?_)
 case r5=>simp
 intro y w1 a p _;have q:= ((au _ _).alloc (aj _) _).grown p aY (λk z=>by simp[Value.ownBlock]at z;omega);go_wp2;go_ret;exact⟨y,rfl,(by first|exact a|simpa using a),q⟩
def Gd(u q:Nat)(rs:List R)(down:Bool)(w:Ba)(h:du w u q rs down)(d:rs.length<=200):
  Calls prog 174 #[.pointer (some (aA u 0))] w λe w'=>∃v,e=.returned v/\w'.ownsRow w.heap.size 138 6 v rs.length (cO rs)/\FF w w':=by
 let ⟨v,k,a⟩:=h.o
 rcases a.2 with⟨rfl,h0⟩|⟨g,f,i,rfl,_⟩
 .have c:= uq.1 h0;subst c;go_in;go_wp2_with fail
  apply (NJ).mono;rintro e w1⟨rfl,rfl⟩;go_wp2;go_ret;exact⟨_,rfl,i6 _ _ _ _,au _ _⟩
 .go_in;go_wp2_with fail
  apply (Jj a d).mono;rintro e w1⟨v,rfl,b,j⟩;go_wp2;go_ret;exact⟨_,rfl,b,j⟩
end Wal
end Go.Proofs.YtbebfliimjjohabGreatDoor
