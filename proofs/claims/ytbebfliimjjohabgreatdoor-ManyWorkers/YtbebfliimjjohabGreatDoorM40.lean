/- Parts of the proof. -/
import Derived.Test.YtbebfliimjjohabGreatDoorM39
import Derived.Lib.JoinLaws
import Derived.WideMake
import Derived.Lib.MapLaws
import Derived.Lib.RuneCount
set_option maxRecDepth 100000
set_option maxHeartbeats 8000000
set_option linter.all false
open Go.Proofs.Tryz
namespace Go.Proofs.YtbebfliimjjohabGreatDoor open Gen (la on tk tz)
open Go.RowKit Go.Maps
open Cache (tp aZ bq)
open Lease (de fN)
open Wal (bM)
open Net (eD)
namespace Wld
variable{x:DS}{ws:List DS}{l:List Ev}{d B N C C' pos f:Nat}{A:Wa}{s s':Wd}{w w':Ba}
def uh(n m:Int)(w:Ba):
  Calls prog 39 #[iI n,iI m] w λe w'=>e=.returned (.bool (decide (0<=n/\n<=m)))/\w'=w:=by
 by_cases h0:0<=n
 .have a:= aX h0;go_in;go_wp2;go_ret;exact⟨by simp[h0],rfl⟩
 .have a:= aK h0;go_in;go_wp2;go_ret;exact⟨aY,rfl⟩
def Ke(a b:Int)(w:Ba):
  Calls prog 15 #[iI a,iI b] w λe w'=>e=.returned (.tuple #[iI (if i5 a b=true then ij a b else 0),eV (if i5 a b=true then 0 else 2)])/\w'=w:=by
 by_cases c:0<=a/\a<=500
 .by_cases d:0<=b/\b<=1099511627776;rw[aH (by simp[i5,c,d]),aH (by simp[i5,c,d])];exact Clock.Cc c.1 c.2 d.1 d.2
  .rw[ay (by simp[i5];omega),ay (by simp[i5];omega)];have f:=λw=>uh a 500 w;have g:=λw=>uh b 1099511627776 w;rw[aX c]at f;rw[aK d]at g;go_in;go_wp2_with fail
   refine(f _).mono ?_;rintro e w'⟨rfl,rfl⟩;go_wp2_with fail
   refine(g _).mono ?_;rintro e w'⟨rfl,rfl⟩;go_wp2_with fail
   go_ret2;exact⟨rfl,rfl⟩
 .rw[ay (by simp[i5];omega),ay (by simp[i5];omega)];have f:=λw=>uh a 500 w;rw[aK c]at f;go_in;go_wp2_with fail
  refine(f _).mono ?_;rintro e w'⟨rfl,rfl⟩;go_wp2_with fail
  go_ret2;exact⟨rfl,rfl⟩
def AL(ws:List ByteArray)(s:Wd):lQ:=pR ws s λa b=>if i5 a b=true then (.inl (kK (ij a b)),s) else (.inr 2,s)
def CN{a b:Int}(h:i5 a b=true):fN (ij a b):=by
 simp[i5]at h;let ⟨⟨f,g⟩,d,e⟩:=h
 let ⟨c,i⟩:=Plain.La (a:=b) (b:=1000-a) (A:=1099511627776) (B:=1000) d e ak ak
 unfold ij;have j:0<=b*(1000-a)/(1000+a):=Int.ediv_nonneg c ak;have k:b*(1000-a)/(1000+a)<=b*(1000-a):=Int.ediv_le_self _ c;exact⟨ak,ak⟩
def wJ(b:d<w.heap.size)(a:FF w w'):XB d w w':=⟨a.cell (p:=(aA d 0)) b,λX _ _ _ c _=>a.block X (ar.1 c).1⟩
def Zp{M:Dv}{v:Dv}(h:Ds B N d M w A s C)(p:yj w v ws):
  Calls prog 93 #[tp d,v] w (vG B N d M w (C+3) (AL ws s)):=by
 refine Kf d (λn y w3=>FF w w3/\∃a b,cD ws 2=some [a,b]/\n=(if i5 a b=true then 0 else 2)/\y=(if i5 a b=true then ij a b else 0)) (λn y w3=>FF w w3/\∃a b,cD ws 2=some [a,b]/\n=(if i5 a b=true then 0 else 2)/\y=(if i5 a b=true then ij a b else 0)) (p.e h 2 (au _ _)) (λw2 a b c f=>?_) (λn y w3 i=>?_) (λk w2 c=>?_) (λn y w4 i k=>?_) (λy w4 i=>?_);refine(Ke a b w2).mono ?_;rintro e w3⟨rfl,rfl⟩;exact⟨⟨_,_,rfl,c,a,b,f,rfl,rfl⟩,wJ (aN h.q.1 c.size) (au _ _)⟩;obtain⟨c,a,b,f,rfl,rfl⟩:=i;refine(vf (by split<;>omega) (h.e c).1.I).mono ?_;rintro e w4⟨rfl,l⟩;exact⟨rfl,c.trans (l.mono c.size),a,b,f,rfl,rfl⟩;exact vG.e h ak (by unfold AL pR;rw[k]) c;obtain⟨c,a,b,f,rfl,rfl⟩:=i;have g:¬i5 a b=true:=λq=>k (aH q);rw[ay g];exact vG.j (n:=2) h ak (by unfold AL pR;rw[f];exact ay g) c;obtain⟨c,a,b,f,o,rfl⟩:=i;have g:i5 a b=true:=by
  cases hq:i5 a b with
  |true=>rfl
  |false=>rw[hq]at o;cases o
 rw[aH g];refine(vl (h.e c).1.j (CN g)).mono ?_;rintro e r⟨rfl,m⟩;exact⟨_,rfl,vG.H h ak (by unfold AL pR;rw[f];exact aH g) (c.trans (m.mono c.size))⟩
def qy.e{M:Dv}{r:DS ⊕ Nat}{e:Ending}(h:Ds B N d M w A s C)(c:qy d M A s w r s' e w')(a:Bk s' C'):vG B N d M w C' (r,s') e w':=by
 obtain⟨rfl,g,i,f⟩:=c;obtain⟨x,z⟩:=h.fz i.b f a.1 a.2;exact⟨rfl,g,x,z⟩
def JC(ws:List ByteArray)(s:Wd):lQ:=qB ws s (.inl ⟨#[99,114,97,115,104]⟩,s.aU)
def Zg{M:Dv}{v:Dv}(h:Ds B N d M w A s C)(f:yj w v ws)(g:C<=800000000):
  Calls prog 83 #[tp d,v] w (vG B N d M w (C+3) (JC ws s)):=by
 obtain⟨ao,c,rfl,_,_⟩:=f.b;refine(Zf ao ws.length c h.b h.h ak).mono ?_;intro e w' a;unfold JC qB;by_cases h0:ws.length=0;rw[aH h0]at a⊢;rw[aH h0]at a;exact a.e h h.H.ac;rw[ay h0]at a⊢;rw[ay h0]at a;exact a.e h (h.H.e ak)
def AI(ws:List ByteArray)(s:Wd):lQ:=qB ws s (if s.sv.isSome=true then .inr 6 else .inl RST,s.e)
def Tz{M:Dv}{v:Dv}(h:Ds B N d M w A s C)(f:yj w v ws)(g:C<=800000000):
  Calls prog 92 #[tp d,v] w (vG B N d M w (C+3) (AI ws s)):=by
 obtain⟨ao,c,rfl,_,_⟩:=f.b;refine(Ty ao ws.length c h.b h.h ak h.j h.ab).mono ?_;intro e w' a;unfold AI qB;by_cases h0:ws.length=0;rw[aH h0]at a⊢;rw[aH h0]at a;exact a.e h h.H.O;rw[ay h0]at a⊢;rw[ay h0]at a;exact a.e h (h.H.e ak)
def Tg(ws:List ByteArray)(s:Wd):lQ:=qB ws s (.inl (kK s.dP.length),s)
def abh{M:Dv}{v:Dv}(h:Ds B N d M w A s C)(f:yj w v ws):
  Calls prog 89 #[tp d,v] w (vG B N d M w (C+3) (Tg ws s)):=by
 obtain⟨ao,c,rfl,_,_⟩:=f.b;refine(abg ao ws.length c h.b h.h.j h.j).mono ?_;intro e w' a;unfold Tg qB;by_cases h0:ws.length=0;rw[aH h0]at a⊢;exact a.e h (h.H.e ak);rw[ay h0]at a⊢;exact a.e h (h.H.e ak)
def upP(ws:List ByteArray)(s:Wd):lQ:=qB ws s (.inl ⟨(Lib.formatBool s.sv.isSome).toArray⟩,s)
def upT{M:Dv}{v:Dv}(h:Ds B N d M w A s C)(f:yj w v ws):
  Calls prog 95 #[tp d,v] w (vG B N d M w (C+3) (upP ws s)):=by
 obtain⟨ao,c,rfl,_,_⟩:=f.b;refine(upD ao ws.length c h.b).mono ?_;intro e w' a;unfold upP qB;by_cases h0:ws.length=0;rw[aH h0]at a⊢;exact a.e h (h.H.e ak);rw[ay h0]at a⊢;exact a.e h (h.H.e ak)
def bF.ac(h:bF w A s)(hs:w.heap.size<=w'.heap.size)(o:∀y,wfoot w A s y\/qA w y 201->w'.heap[y]?=w.heap[y]?):bF w' A s/\∀k,wfoot w' A s k->wfoot w A s k:=by
 have E:=o A.Q (.inl (.Q rfl));have z:∀i,w'.cell? (aA A.Q i)=w.cell? (aA A.Q i):=λi=>aa E;have I:∀i,w'.frozen? (aA A.Q i)=w.frozen? (aA A.Q i):=λi=>aG E;have K:=o A.G (.inl (.G rfl));have O:= NetIs.ab h.p hs (z _) (z _) I λv g l L=>by
  let ⟨S,n,P⟩:=h.p.b
  rw[l]at n;injection n with n
  subst n;exact o g (.inr (cT P L).2)
 have N:= DiskIs.ab h.y (λi _ _=>z i) I;have d:∀v,s.sv=some v->∀y,eM w A.a y->y≠A.a.q->w'.heap[y]?=w.heap[y]?:=λv l y R _=>o y (.inl (.sv (l▸rfl) R));refine⟨⟨h.b.H (h.b.b.e E) (λi _ _=>z i) I,N,O,h.x.imp λv l=>⟨(z _).trans l.1,aZ l.2 λg L=>o g (.inl (.ev v l.1 L))⟩,h.u.e K,λi=>(aG (a:=(aA A.G i)) K).trans (h.C i),λi r=>(h.e i r).e K,λi r=>(h.o i r).j (o _ (.inl (.c i r rfl))) (o _ (.inl (.m i r rfl))),h.J,λv l=>?_,h.F,h.B⟩,λk f=>?_⟩;have u:=h.t v l;exact⟨u.b.ae hs (by rw[u.q,u.j,u.e,u.h];exact N) (d v l),u.q,u.j,u.e,u.h,u.o,u.p,u.t⟩;rcases f with f|f|⟨v,D,M⟩|⟨i,r,f⟩|⟨i,r,f⟩|⟨D,M⟩
 exact .Q f;exact .G f;exact .ev v ((z _).symm.trans D) M;exact .c i r f;exact .m i r f;let ⟨v,l⟩:=aP.1 D
 have T:=(h.t v l).b.e;exact .sv D ((iE (d v l _ (.inr (.inr (.inr (.inl rfl)))) ak) (d v l _ (.inr (.inr (.inl rfl))) ak) k).1 M)
def Ah(ws:List ByteArray)(s:Wd):lQ:=Bm ws s λa b c k=>if pL a b c k=true then (.inl ⟨#[98,101,103,105,110]⟩,(Wd.h a b c k.toNat).start) else (.inr 2,s)
def Bg(ws:List ByteArray)(w:World)(n:Int)(y:Option Addr)(w3:World):Prop:=
 FF w w3/\∃a b c k,cD ws 4=some [a,b,c,k]/\((n=0/\pL a b c k=true/\∃A,y=some ⟨A.Q,0,none⟩/\bF w3 A (Wd.h a b c k.toNat).start/\Ex w.heap.size w3 A (Wd.h a b c k.toNat).start)\/(n=2/\pL a b c k=false))
def Ds.ac{M:Dv}{w4:Ba}{c:Wa}(h:Ds B N d M w A s C)(a:FF w w4)(m:bF w4 c s')(n:Ex w.heap.size w4 c s')(f:Bk s' C'):
  Ds B N d M (w4.setCell (aA d 0) (tp c.Q)) c s' C'/\Dz N d w (w4.setCell (aA d 0) (tp c.Q)):=by
 have o:∀y,y≠d->(w4.setCell (aA d 0) (tp c.Q)).heap[y]?=w4.heap[y]?:=λy g=>aQ w4 (aA d 0) _ y g;have l:= h.b.e.e (a.block d h.q.1);obtain⟨x,y⟩:=m.ac (w':=w4.setCell (aA d 0) (tp c.Q)) aY (λy g=>o y (by
  rintro rfl;rcases g with q|q
  exact m.ab l cn cn cn cn cn q;exact l.j q cn rfl))
 have r:= (a.cell (p:=(aA d 0)) h.q.1).trans h.b.h;have t:= (a.cell (p:=(aA d 1)) h.q.1).trans h.b.i;have z:Dz N d w (w4.setCell (aA d 0) (tp c.Q)):=⟨a.os,a.tape,a.output,by have:=a.size;simpa using this,λk f v=>(o k v).trans (a.block k (jd h.p)),λk f=>(o k (by
  rintro rfl;exact h.b.e.h rfl f)).trans (a.block k f.h)⟩
 refine⟨⟨⟨Wal.cZ l,az _ _ _ r,(am _ _ _ _ (by intro q;injection q with _ q;cases q)).trans t,x⟩,λi=>?_,λk f=>aO h.p (n k (y k f)),h.j.e (z.O (Pz h.u h.o) h.u),h.u,h.o,aO h.p z.i,f.1,f.2⟩,z⟩;rw[aT];exact(a.frozen (p:=(aA d i)) h.q.1).trans (h.x i)
def Zd{M:Dv}{v:Dv}(h:Ds B N d M w A s C)(J:yj w v ws):
  Calls prog 80 #[tp d,v] w (vG B N d M w (C+3) (Ah ws s)):=by
 refine Jw d (Bg ws w) (Bg ws w) (J.e h 4 (au _ _)) (λw2 a b c k f l=>?_) (λn y w3 m=>?_) (λr w2 f=>?_) (λn y w4 m r=>?_) (λy w4 m=>?_);have u:= aN h.q.1 f.size;cases g:pL a b c k with
 |true=>
  have o:=g;unfold pL Ay at o;simp at o;obtain⟨⟨G,H,I,K,L⟩,Q,R⟩:=o;have r:=G9 a b c k.toNat w2 ak ak G H I K L;rw[kY ak]at r;refine r.mono ?_;rintro e w3⟨D,rfl,x,i,E⟩;exact⟨⟨0,_,rfl,f.trans (i.mono f.size),a,b,c,k,l,.inl ⟨rfl,g,D,rfl,x,E.h f.size⟩⟩,wJ u i⟩
 |false=>
  refine(Tj a b c k w2 ?_).mono ?_;unfold pL at g;rw[XS]at g;rcases g with q|q
  exact .inl q;exact .inr (jd (qJ q));rintro e w3⟨rfl,i⟩;exact⟨⟨2,_,rfl,f.trans (i.mono f.size),a,b,c,k,l,.inr ⟨rfl,g⟩⟩,wJ u i⟩
 obtain⟨f,a,b,c,k,l,m⟩:=m;refine(vf (n:=n) (by rcases m with⟨rfl,_⟩|⟨rfl,_⟩<;>omega) (h.e f).1.I).mono ?_;rintro e w4⟨rfl,F⟩;refine⟨rfl,f.trans (F.mono f.size),a,b,c,k,l,?_⟩;rcases m with⟨G,H,D,I,x,E⟩|q
 obtain⟨O,P⟩:=x.h F;exact .inl ⟨G,H,D,I,O,E.e P f.size⟩;exact .inr q;exact vG.e h ak (by unfold Ah Bm;rw[r]) f;obtain⟨f,a,b,c,k,l,⟨rfl,_⟩|⟨rfl,g⟩⟩:=m;exact absurd rfl r;exact vG.j (n:=2) h ak (by unfold Ah Bm;rw[l];exact ay (by rw[g];decide)) f;obtain⟨f,a,b,c,k,l,⟨_,g,D,rfl,x,E⟩|⟨q,_⟩⟩:=m;obtain⟨t,z⟩:=h.ac f x E (Bk.j g (C+3));refine⟨(f.frozen (p:=(aA d 0)) h.q.1).trans (h.x 0),⟨_,(f.cell (p:=(aA d 0)) h.q.1).trans h.b.h⟩,?_⟩;unfold Ah Bm;rw[l];dsimp only;rw[aH g];exact⟨rfl,D,t,z⟩;cases q
def OA{e:Ev}(h:m5 B w)(he:Jt e):
  Calls prog 147 #[.agg (eE e).toArray] w λr w'=>r=.returned (.string (nD e))/\FF w w':=by
 obtain⟨N,O,P,i4⟩:=he;have l:FF w (w.alloc (.cells (eE e).toArray 45)):=(au _ _).alloc (aj _) _;have Q:=iU N;have R:=iU O;have T:(kM e.d e.N6).size<=200:=by
  have J:=iU P;unfold kM;rw[fy,fy];have h4:(if e.d=⟨#[]⟩ then (⟨#[95]⟩:DS) else e.d).size<=20:=by
   split;decide;exact i4
  have h5:(⟨#[32]⟩:DS).size=1:=rfl;omega
 have U:Hid (∀W,Below (w.alloc (.cells (eE e).toArray 45)).heap.size (w.alloc (.cells (eE e).toArray 45)) W->Calls prog 78 #[iI e.b] W λr w'=>r=.returned (.string (kK e.b))/\FF W w'):=λW c=>vl (h.on (l.trans (c.mono l.size))) N;have V:Hid (∀W,Below (w.alloc (.cells (eE e).toArray 45)).heap.size (w.alloc (.cells (eE e).toArray 45)) W->Calls prog 78 #[iI e.Js] W λr w'=>r=.returned (.string (kK e.Js))/\FF W w'):=λW c=>vl (h.on (l.trans (c.mono l.size))) O;have X:Hid (∀W,Below (w.alloc (.cells (eE e).toArray 45)).heap.size (w.alloc (.cells (eE e).toArray 45)) W->Calls prog 153 #[.agg #[.string e.d,iI e.N6]] W λr w'=>r=.returned (.string (kM e.d e.N6))/\FF W w'):=λW c=>CO e.d (h.on (l.trans (c.mono l.size))) ak P;obtain⟨j,Y⟩:∃t,kK e.b=t:=⟨_,rfl⟩;obtain⟨k,Z⟩:∃t,kK e.Js=t:=⟨_,rfl⟩;obtain⟨m,J⟩:∃t,kM e.d e.N6=t:=⟨_,rfl⟩;have F:Hid (kK e.b=j):=Y;have G:Hid (kK e.Js=k):=Z;have L:Hid (kM e.d e.N6=m):=J;rw[Y]at U Q;rw[Z]at V R;rw[J]at X T;have c1:(w.alloc (.cells (eE e).toArray 45)).cell? (FI w 1)=some (iI e.Aa):=by simp[eE]
 have y:(w.alloc (.cells (eE e).toArray 45)).cell? (FI w 0)=some (iI e.b)/\(w.alloc (.cells (eE e).toArray 45)).cell? (FI w 2)=some (iI e.Js)/\(w.alloc (.cells (eE e).toArray 45)).cell? (FI w 3)=some (.string e.d)/\(w.alloc (.cells (eE e).toArray 45)).cell? (FI w 4)=some (iI e.N6)/\(w.alloc (.cells (eE e).toArray 45)).cell? (FI w 5)=some (.bool e.Gj)/\(w.alloc (.cells (eE e).toArray 45)).cell? (FI w 6)=some (.bool e.XA):=by simp[eE]
 have ad:w.heap.size<(w.alloc (.cells (eE e).toArray 45)).heap.size:=aY;clear h N O P i4 Y Z J;go_in;go_upto_region 1 with fail
 generalize hW:w.alloc (.cells (eE e).toArray 45)=w1 at *;clear hW;have o:Hid (∀W,FF w1 W->W.cell? (aA w.heap.size 0)=some (iI e.b)/\W.cell? (aA w.heap.size 2)=some (iI e.Js)/\W.cell? (aA w.heap.size 3)=some (.string e.d)/\W.cell? (aA w.heap.size 4)=some (iI e.N6)/\W.cell? (aA w.heap.size 5)=some (.bool e.Gj)/\W.cell? (aA w.heap.size 6)=some (.bool e.XA)):=λW c=>by
  have H:∀i,W.cell? (FI w i)=w1.cell? (FI w i):=λi=>c.cell (p:=(FI w i)) ad;rw[H,H,H,H,H,H];exact y
 have I:Hid (∀W,FF w1 W->FF w W):=λW c=>l.trans (c.mono l.size);have q:= iS w1;have c0:=y.1;have c2:=y.2.1;by_cases M:e.Aa=2
 .have z :Hid _:= M;have aS:¬9223372036854775807<j.size+1:=ak;have a0:¬9223372036854775807<j.size+1+k.size:=ak;have a1:¬9223372036854775807<6+(j.size+1+k.size):=ak;have k3:(e.Aa==2)=true:=dD M;go_upto_region 4 with fail
  refine Gen.start (S:=λw'=>w'.cell? (FI w 0)=some (iI e.b)/\w'.cell? (FI w 2)=some (iI e.Js)/\True) bt ⟨c0,c2,aB⟩ (λqH=>?_);refine tz ?_;refine on 3 λK s=>?_;go_simp;refine(U.out w1.drew q).mono ?_;rintro r w2⟨rfl,c⟩;have f:= q.trans (c.mono q.size);have A:=(o.out w2 f).1;have C:=(o.out w2 f).2.1;dsimp only;refine s.out _ _ ⟨A,C,aB⟩ (λqH=>?_);try simp only[Act.put,ax,aJ,aI]
  refine tk 4 9 qH ?_;go_frame;refine on 8 λK s=>?_;go_simp;refine(V.out w2 f).mono ?_;rintro r w3⟨rfl,c⟩;have a:= f.trans (c.mono f.size);have A:=(o.out w3 a).1;have C:=(o.out w3 a).2.1;dsimp only;refine s.out _ _ ⟨A,C,aB⟩ (λqH=>?_);try simp only[Act.put,ax,aJ,aI]
  refine tz ?_;refine la 11 λK s=>?_;go_simp;refine s.out _ _ ?_;obtain⟨c0,c2,c3,c4,c5,c6⟩:=o.out w3 a;cases hov:e.Gj with
  |false=>
   rw[hov]at c5;have u:¬9223372036854775807<6+(j.size+1+k.size)+5:=ak;have v:Hid (nD e=⟨#[119,114,105,116,101,32]⟩++(j++⟨#[32]⟩++k)++⟨#[32,111,112,101,110]⟩):=by
    unfold Hid nD;rw[aH hov,aH z.out,F.out,G.out]
   go_wp2;go_ret;exact⟨v.out▸rfl,I.out w3 a⟩
  |true=>
   rw[hov]at c5;have x:=X.out w3 a;cases hhi:e.XA with
   |true=>
    rw[hhi]at c6;have n :Hid _:= hhi;have v:Hid (nD e=⟨#[119,114,105,116,101,32]⟩++(j++⟨#[32]⟩++k)++(⟨#[32]⟩++m)++⟨#[32,104,105,116]⟩):=by
     unfold Hid nD;rw[ay (by rw[hov];decide),aH hhi,aH z.out,F.out,G.out,L.out]
    have u:¬9223372036854775807<1+m.size:=ak;have D:¬9223372036854775807<6+(j.size+1+k.size)+(1+m.size):=ak;have bm:¬9223372036854775807<6+(j.size+1+k.size)+(1+m.size)+4:=ak;go_wp2_with fail
    refine x.mono ?_;rintro r w4⟨rfl,c⟩;have g:= a.trans (c.mono a.size);obtain⟨d0,d2,d3,d4,d5,E⟩:=o.out w4 g;rw[n.out]at E;go_wp2;go_ret;exact⟨v.out▸rfl,I.out w4 g⟩
   |false=>
    rw[hhi]at c6;have n :Hid _:= hhi;have v:Hid (nD e=⟨#[119,114,105,116,101,32]⟩++(j++⟨#[32]⟩++k)++(⟨#[32]⟩++m)):=by
     unfold Hid nD;rw[ay (by rw[hov];decide),ay (by rw[hhi];decide),aH z.out,F.out,G.out,L.out]
    have u:¬9223372036854775807<1+m.size:=ak;have D:¬9223372036854775807<6+(j.size+1+k.size)+(1+m.size):=ak;go_wp2_with fail
    refine x.mono ?_;rintro r w4⟨rfl,c⟩;have g:= a.trans (c.mono a.size);obtain⟨d0,d2,d3,d4,d5,E⟩:=o.out w4 g;rw[n.out]at E;go_wp2;go_ret;exact⟨v.out▸rfl,I.out w4 g⟩
 .have z :Hid _:= M;have aS:¬9223372036854775807<j.size+1:=ak;have a0:¬9223372036854775807<j.size+1+k.size:=ak;have a1:¬9223372036854775807<5+(j.size+1+k.size):=ak;have k3:(e.Aa==2)=false:=dD M;go_upto_region 4 with fail
  refine Gen.start (S:=λw'=>w'.cell? (FI w 0)=some (iI e.b)/\w'.cell? (FI w 2)=some (iI e.Js)/\True) bt ⟨c0,c2,aB⟩ (λqH=>?_);refine tz ?_;refine on 3 λK s=>?_;go_simp;refine(U.out w1.drew q).mono ?_;rintro r w2⟨rfl,c⟩;have f:= q.trans (c.mono q.size);have A:=(o.out w2 f).1;have C:=(o.out w2 f).2.1;dsimp only;refine s.out _ _ ⟨A,C,aB⟩ (λqH=>?_);try simp only[Act.put,ax,aJ,aI]
  refine tk 4 9 qH ?_;go_frame;refine on 8 λK s=>?_;go_simp;refine(V.out w2 f).mono ?_;rintro r w3⟨rfl,c⟩;have a:= f.trans (c.mono f.size);have A:=(o.out w3 a).1;have C:=(o.out w3 a).2.1;dsimp only;refine s.out _ _ ⟨A,C,aB⟩ (λqH=>?_);try simp only[Act.put,ax,aJ,aI]
  refine tz ?_;refine la 11 λK s=>?_;go_simp;refine s.out _ _ ?_;obtain⟨c0,c2,c3,c4,c5,c6⟩:=o.out w3 a;cases hov:e.Gj with
  |false=>
   rw[hov]at c5;have u:¬9223372036854775807<5+(j.size+1+k.size)+5:=ak;have v:Hid (nD e=⟨#[114,101,97,100,32]⟩++(j++⟨#[32]⟩++k)++⟨#[32,111,112,101,110]⟩):=by
    unfold Hid nD;rw[aH hov,ay z.out,F.out,G.out]
   go_wp2;go_ret;exact⟨v.out▸rfl,I.out w3 a⟩
  |true=>
   rw[hov]at c5;have x:=X.out w3 a;cases hhi:e.XA with
   |true=>
    rw[hhi]at c6;have n :Hid _:= hhi;have v:Hid (nD e=⟨#[114,101,97,100,32]⟩++(j++⟨#[32]⟩++k)++(⟨#[32]⟩++m)++⟨#[32,104,105,116]⟩):=by
     unfold Hid nD;rw[ay (by rw[hov];decide),aH hhi,ay z.out,F.out,G.out,L.out]
    have u:¬9223372036854775807<1+m.size:=ak;have D:¬9223372036854775807<5+(j.size+1+k.size)+(1+m.size):=ak;have bm:¬9223372036854775807<5+(j.size+1+k.size)+(1+m.size)+4:=ak;go_wp2_with fail
    refine x.mono ?_;rintro r w4⟨rfl,c⟩;have g:= a.trans (c.mono a.size);obtain⟨d0,d2,d3,d4,d5,E⟩:=o.out w4 g;rw[n.out]at E;go_wp2;go_ret;exact⟨v.out▸rfl,I.out w4 g⟩
   |false=>
    rw[hhi]at c6;have n :Hid _:= hhi;have v:Hid (nD e=⟨#[114,101,97,100,32]⟩++(j++⟨#[32]⟩++k)++(⟨#[32]⟩++m)):=by
     unfold Hid nD;rw[ay (by rw[hov];decide),ay (by rw[hhi];decide),ay z.out,F.out,G.out,L.out]
    have u:¬9223372036854775807<1+m.size:=ak;have D:¬9223372036854775807<5+(j.size+1+k.size)+(1+m.size):=ak;go_wp2_with fail
    refine x.mono ?_;rintro r w4⟨rfl,c⟩;have g:= a.trans (c.mono a.size);obtain⟨d0,d2,d3,d4,d5,E⟩:=o.out w4 g;rw[n.out]at E;go_wp2;go_ret;exact⟨v.out▸rfl,I.out w4 g⟩
def aa3(w:World)(B:Nat)(v:Value)(l:List Ev):Prop:=w.ownsRow B 45 10 v l.length (fq l)
def aa3.e{v:Dv}(h:aa3 w B v l):∃ao c,v=.slice ao l.length c/\(0<l.length->∃g,ao=some ⟨g,0,none⟩/\B<=g/\g<w.heap.size/\∀k (d:k<l.length) j u,(eE l[k])[j]?=some u->w.cell? ⟨g,k*10+j,none⟩=some u):=by
 obtain⟨ao,c,e,_,p⟩:=Net.cP h;refine⟨ao,c,e,λh0=>?_⟩;rcases h.2 with⟨b,q⟩|⟨g,m,n,b,_⟩
 omega;rw[b]at e;injection e with e _ _
 have a:=bj h g (b▸rfl);refine⟨g,e.symm,a.1,a.2,λk d j u f=>?_⟩;have o:j<10:=by
  have:=(bB.1 f).1;simpa[eE] using this
 have i:=h;rw[aa3,b]at i;rw[bC i (k*10+j) ak,jX l k j d o];exact f
def Be(w:World)(B:Nat)(v:Value)(l:List ByteArray):Prop:=w.ownsRow B 9 1 v l.length (l.map Value.string)
def Be.e{wr w1:Ba}{v b:Dv}{l:List DS}{o:Obj}(h:Be wr B v l)(c:Below B w wr)(d:B<=wr.heap.size)(a:w1.ownsRow B 9 1 b (l.length+1) (l.map Value.string++[.string x]))(f:(wr.alloc o).grownBy w1 v.ownBlock):Be w1 B b (l++[x])/\Below B w w1:=by
 refine⟨?_,?_⟩;unfold Be;rw[aL,dE];exact a;exact(c.alloc d o).grown f fS (λk g=>(bj h k g).1)
def xE{d:DS}{v:Int}(a:d.size<=20)(b:fN v):(kM d v).size<=200:=by
 have c:=iU b;unfold kM;rw[fy,fy];have e:(if d=⟨#[]⟩ then (⟨#[95]⟩:DS) else d).size<=20:=by
  split;decide;exact a
 have f:(⟨#[32]⟩:DS).size=1:=rfl;omega
def GU{e:Ev}(h:Jt e):(nD e).size<=500:=by
 obtain⟨a,b,c,d⟩:=h;have k1:=iU a;have f:=iU b;have g:=xE d c;have i:(if e.Aa=2 then (⟨#[119,114,105,116,101,32]⟩:DS) else ⟨#[114,101,97,100,32]⟩).size<=6:=by split<;>decide
 have j:(⟨#[32]⟩:DS).size=1:=rfl;have k:(⟨#[32,111,112,101,110]⟩:DS).size=5:=rfl;have l:(⟨#[32,104,105,116]⟩:DS).size=4:=rfl;unfold nD;split;simp;omega;split;simp;omega;simp;omega
def Ed(m:Nat):∀(a:List (List UInt8)),(∀x∈a,x.length<=m)->Lib.lens a<=m*a.length
 | [],_=>aj _
 |x::t,h=>by
  have c:=Ed m t λy b=>h y (cJ _ b);have d:=h x dj;have e:Lib.lens (x::t)=x.length+Lib.lens t:=by simp[Lib.lens]
  rw[e,bJ,Nat.mul_succ];omega
def WG(h:∀e∈l,Jt e)(d:l.length<=1000000000):(Lib.join ((l.map nD).map (·.data.toList)) [44,32]).length<=140737488355328:=by
 cases l with
 |nil=>exact iu _
 |cons e t=>
  rw[bT,bT,Lib.join_length];have g:=Ed 500 ((nD e).data.toList::(t.map nD).map (·.data.toList)) (λx c=>by
   rw[<-bT (f:=λb:DS=>b.data.toList),<-bT]at c;obtain⟨b,i,rfl⟩:=ed.1 c;obtain⟨j,a,rfl⟩:=ed.1 i;exact GU (h j a))
  simp at g d⊢;omega
def Jx{M:Dv}(ao:Option Addr)(c:Nat)(h:xT w d M A s)(hb:m5 B w)(hev:∀e∈s.bO,Jt e)(hl:s.bO.length<=1000000000):
  Calls prog 81 #[tp d,.slice ao 0 c] w λe w'=>e=.returned (.string ⟨(Lib.join (s.bO.map λe=>(nD e).data.toList) [44,32]).toArray⟩)/\FF w w':=by
 have hn:=nG ao c 0 w;have hevs:=JI (A:=A) (s:=s) (w:=w) h.b ak;have c0:=h.h;generalize s.bO=l at *;obtain⟨i0,hi,hz0,hz1,hz2⟩:=dg (P:=prog) (e:=9) (show (prog.info? 9).map (λi=>(i.zero,i.size,i.bytes))=some (some (.string ⟨#[]⟩),1,16) by kernel_rfl);have HB :Hid _:= hb;have HV :Hid _:= hev;go_in;go_wp2_with fail
 refine hn.mono ?_;rintro e w1⟨rfl,hw1⟩;rw[hw1];go_wp2_with fail
 refine hevs.mono ?_;rintro e w2⟨v,rfl,hrow,hb2⟩;obtain⟨aq9,ce,rfl,hcell⟩:=aa3.e hrow;have HC :Hid _:= hcell;go_wp2;go_loopw [5,16] (λv5 i wr=>∃k:Nat,k<=l.length/\i = iI k/\Be wr w2.heap.size v5 ((l.take k).map nD)/\FF w2 wr) (λ_ i _=>l.length-(intOf i).toNat)
 case atStart=>exact⟨0,ak,rfl,i6 _ _ _ _,au _ _⟩
 case round=>
  obtain⟨k,hk,rfl,hT,hbr⟩:=hrel;by_cases hlt:k<l.length
  .obtain⟨g,rfl,hg0,hg1,hcell⟩:=HC.out ak;have hltz:(k:Int)<(l.length:Int):=ak;obtain⟨x,hx⟩:∃x,l[k]'hlt=x:=⟨_,rfl⟩;have hcc:∀j u,(eE x)[j]?=some u->wr.cell? (aA g (k*10+j))=some u:=λj u hu=>(hbr.cell (p:=(aA g (k*10+j))) hg1).trans (hcell k hlt j u (hx▸hu));have q0:wr.cell? (aA g (k*10))=some (iI x.b):=hcc 0 _ rfl;have q1:=hcc 1 _ rfl;have q2:=hcc 2 _ rfl;have q3:=hcc 3 _ rfl;have q4:=hcc 4 _ rfl;have q5:=hcc 5 _ rfl;have q6:=hcc 6 _ rfl;have q7:=hcc 7 _ rfl;have q8:=hcc 8 _ rfl;have q9:=hcc 9 _ rfl;have HX:Hid (nD (l[k]'hlt)=nD x):=by rw[Hid,hx]
   have HO:Hid (Jt x):=by rw[<-hx];exact HV.out _ (bp hlt)
   have HT:Hid (Be wr w2.heap.size u5 ((l.take k).map nD)):=hT;clear hcc hcell hx hT;have hcall:∀W,FF w2 W->Calls prog 147 #[.agg (eE x).toArray] W λr w'=>r=.returned (.string (nD x))/\FF W w':=λW hbW=>OA (B:=B) (e:=x) (w:=W) (HB.out.on (hb2.trans (hbW.mono hb2.size))) HO.out;unfold eE at hcall;go_wp2_with fail
   refine(hcall _ (hbr.alloc hbr.size _)).mono ?_;rintro e w4⟨rfl,hb4⟩;have hb5:= ((au _ _).alloc (aj _) _).trans (hb4.mono aY);have hT4:Be w4 w2.heap.size u5 ((l.take k).map nD):=bq HT.out hb5;have hbr4:FF w2 w4:=hbr.trans (hb5.mono hbr.size);have hlk:((l.take k).map nD).length=k:=by rw[bz,cx];omega
   obtain⟨t,ht⟩:∃t,nD x=t:=⟨_,rfl⟩;have HTX:Hid (nD x=t):=ht;rw[ht];clear hcall hb4 hb5 q0 q1 q2 q3 q4 q5 q6 q7 q8 q9 ht;obtain⟨L,hL⟩:∃L,(l.take k).map nD=L:=⟨_,rfl⟩;rw[hL]at hT4 hlk;have HLL:Hid ((l.take k).map nD=L):=hL;unfold Be at hT4;rw[hlk]at hT4;have HLK :Hid _:= hlk;go_wp2_with (at_builtin;refine eO _ rfl _ _ 55 rfl w2.heap.size 9 i0 (.string ⟨#[]⟩) 1 16 underlying55 hi hz0 hz1 hz2 rfl cn _ _ _ rfl (qF hT4 _) (FI w4 0) 1 1 [.string t] rfl rfl (Lease.zT _) (by intro u hu;simp at hu;subst hu;rfl) ?c3 ?c4 ?c5 ?_)
   case c3=>unfold maxLen;omega
   case c4=>omega
   case c5=>have:=hbr4.size;simp;omega
   intro v' w5 hown' hgrow _;have R:= Be.e (wr:=w4) (v:=u5) (by unfold Be;rw[HLK.out];exact hT4) hbr4 hbr4.size (HLK.out▸hown') hgrow;have R2:Hid (Be w5 w2.heap.size v' ((l.take (k+1)).map nD)/\FF w2 w5):=by
    unfold Hid;rw[bw hlt,dE];show Be w5 w2.heap.size v' ((l.take k).map nD++[nD (l[k]'hlt)])/\_;rw[HX.out,HTX.out,HLL.out];exact R
   go_wp2;go_roundw
   case rel=>exact⟨k+1,ak,by go_num,R2.out.1,R2.out.2⟩
   case measure=>simp[intOf];omega
  .obtain rfl:k=l.length:=ak;have hltz:¬(l.length:Int)<(l.length:Int):=ak;rw[fP]at hT;have hjoin:Calls prog 148 #[u5,.string ⟨#[44,32]⟩] wr λe w'=>e=.returned (.string ⟨(Lib.join (l.map λe=>(nD e).data.toList) [44,32]).toArray⟩)/\FF wr w':=by
    obtain⟨L,hL⟩:∃L,l.map nD=L:=⟨_,rfl⟩;have hLl:L.length=l.length:=by rw[<-hL,bz]
    have e1:(l.map λe=>(nD e).data.toList)=L.map (·.data.toList):=by rw[<-hL,kO];rfl
    rw[e1];rw[hL]at hT;by_cases h0:L=[];subst h0;rcases hT.2 with⟨rfl,_⟩|⟨g,cap,cur,rfl,_⟩
    refine(ae none 0 ⟨#[44,32]⟩ wr).mono ?_;rintro e w'⟨rfl,rfl⟩;exact⟨rfl,au _ _⟩;refine(ae (some (aA g 0)) cap ⟨#[44,32]⟩ wr).mono ?_;rintro e w'⟨rfl,rfl⟩;exact⟨rfl,au _ _⟩;have hpos:= List.length_pos_iff.2 h0;rcases hT.2 with⟨_,h1⟩|⟨g,cap,cur,rfl,_,hgh,hcap,_⟩
    rw[h1]at hpos;cases hpos;have hT':= hT;refine aq g 0 cap L (sep:=⟨#[44,32]⟩) wr (λj x hx=>?_) ((bj hT g rfl).2) ak ?_ ?_;rw[cC,bY,bC hT' j (jd ((bB.1 hx).1)),cU,hx];rfl;first|exact hcap|omega
    rw[<-hL];exact WG HV.out ak
   have HW :Hid _:= hb2.trans (hbr.mono hb2.size);go_wp2_with fail
   refine hjoin.mono ?_;rintro e w4⟨rfl,hb4⟩;have HF :Hid _:= HW.out.trans (hb4.mono HW.out.size);go_wp2;go_ret;exact⟨rfl,HF.out⟩
def D5(ws:List ByteArray)(s:Wd):lQ:=qB ws s (.inl ⟨(Lib.join (s.bO.map λe=>(nD e).data.toList) [44,32]).toArray⟩,s)
def Sz{M:Dv}{v:Dv}(h:Ds B N d M w A s C)(f:yj w v ws)(l:C<=800000000):
  Calls prog 81 #[tp d,v] w (vG B N d M w (C+3) (D5 ws s)):=by
 obtain⟨ao,c,rfl,_,_⟩:=f.b;unfold D5 qB;by_cases h0:ws.length=0;rw[h0,aH rfl];refine(Jx ao c h.b h.j h.y.j (jd h.h.Z)).mono ?_;rintro e w'⟨rfl,g⟩;exact vG.H h ak rfl g
 .rw[ay h0];have i:=nF ao c ws.length 0 w ak;have k:Hid (vG B N d M w (C+3) (.inr 3,s) (cH 3) w):=vG.e h ak rfl (au _ _)

  go_in;go_wp2_with fail
  apply i.mono;rintro e w2⟨rfl,a⟩;rw[a]

  go_wp2;exact⟨rfl,k.out⟩
def db:List (ByteArray×Nat):=[(⟨#[97,103,97,105,110]⟩,79),(⟨#[98,101,103,105,110]⟩,80),(⟨#[99,97,108,108,115]⟩,81),(⟨#[99,97,108,109]⟩,82),(⟨#[99,114,97,115,104]⟩,83),(⟨#[100,101,108,105,118,101,114]⟩,84),(⟨#[102,97,105,108,115]⟩,85),(⟨#[103,111,101,115]⟩,86),(⟨#[104,101,108,112]⟩,87),(⟨#[108,111,115,101]⟩,88),(⟨#[109,97,110,121]⟩,89),(⟨#[114,101,97,100]⟩,90),(⟨#[114,101,98,111,114,110]⟩,91),(⟨#[114,101,115,116,97,114,116]⟩,92),(⟨#[115,104,111,114,116]⟩,93),(⟨#[116,119,105,99,101]⟩,94),(⟨#[117,112]⟩,95),(⟨#[118,97,108,117,101]⟩,96),(⟨#[119,114,105,116,101]⟩,97)]
def sF(d:Nat):List (ByteArray×Nat)->Nat->List MapEntry
 | [],_=>[]
 |(x,f)::t,i=>⟨.string x,.func (.func f) #[tp d] #[],i⟩::sF d t (i+1)
def iN:List (ByteArray×Nat)->ByteArray->Option Nat
 | [],_=>none
 |(y,f)::t,x=>if x=y then some f else iN t x
def Cy(x y:DS):(x==y)=decide (x=y):=by
 have e:(x==y)=(x.data==y.data):=rfl;rw[e];by_cases h:x=y;subst h;simp;have a:¬x.data=y.data:=λq=>h (by cases x;cases y;exact cr ByteArray.mk q);rw[aK h];simpa using a
def GX(d:Nat)(x:DS):∀(l:List (DS×Nat)) (i j:Nat),∃n,Instr.findNow .string (.string x) (sF d l i) j=some ((iN l x).map λf=>(n,.func (.func f) #[tp d] #[]))
 | [],_,_=>⟨0,rfl⟩
 |(y,f)::t,i,j=>by
  by_cases h:x=y;subst h;refine⟨j,?_⟩;have e:Instr.sameNow .string (.string x) (.string x)=some true:=by
   show some (x==x)=_;rw[Cy,aX rfl]
  simp only[sF,Instr.findNow,e,iN,dG];rfl;obtain⟨n,a⟩:=GX d x t (i+1) (j+1);refine⟨n,?_⟩;have e:Instr.sameNow .string (.string x) (.string y)=some false:=by
   show some (x==y)=_;rw[Cy,aK h]
  simp only[sF,Instr.findNow,e,iN,ay h];exact a
def Bp{P:Ft}{d:Array Oper}{rest:List Oper}{o:Oper}{a:Act}{Q:Exit->Act->Ba->Prop}(n:o.guard=none){m x v:Operand}{t:DU}(h:o.op=Op.insert t m x v){k e:DU}(p:P.underlying t=some (.map k e))(i:P.underlying k=some .string){b:Nat}{g:Array MapEntry}{c:Nat}(q:a.eval m=.map (some b))(j:w.heap[b]?=some (.map g c)){s:DS}(r:a.eval x=.string s){val:Dv}(u:a.eval v=val)(y:Instr.findNow .string (.string s) g.toList 0=some none)(z:∀w',w'.heap[b]?=some (.map (g.push ⟨.string s,val,c⟩) (c+1))->Below b w w'->w'.heap.size=w.heap.size->wpList P d Q rest (a.put o.dst undef) w'):wpList P d Q (o::rest) a w:=by
 refine wpList_plain n λK l=>?_;have f:(Instr.mapUpdate t (.map (some b)) (.string s) val).run P w=.ok () (w.putObj b (.map (g.push ⟨.string s,val,c⟩) (c+1))):=by
  simp[Instr.mapUpdate,iM p,xQ j,(MapKept.run_checkKey (k:=.string s) i (by simp[MapKept.IsKey]) false 9999),MapKept.run_findKey i y,MapKept.run_setObj_map _ j,Result.andThen,World.putObj]
 unfold Oper.wp;simp[execOp,h,q,r,u,f,Result.andThen];refine l _ _ (z _ (World.putObj_heap_same (ar.1 j).1) ⟨rfl,rfl,rfl,aY,λk i=>World.putObj_heap_other ak⟩ aY)
def gE(w:World)(m d:Nat):Prop:=w.heap[m]?=some (.map (sF d db 0).toArray 19)
def s0:Wd:=(Wd.h 20 8 0 2).start
def OY(h:m5 B w):
  Calls prog 45 #[] w λe w'=>∃A,e=.returned (tp w.heap.size)/\Ds B (w.heap.size+2) w.heap.size (.map (some (w.heap.size+1))) w' A s0 0/\gE w' (w.heap.size+1) w.heap.size/\FF w w':=by
 have P:∀(fn:Fn) (first t:Array Dv) (w:Ba),(Instr.makeFunc fn first t).run prog w=.ok (.func fn first t) w:=λ_ _ _ _=>rfl;have u:=@run_makeMap prog;go_in;go_upto_region 2 with fail
 generalize r:w.alloc (.cells #[.pointer none,.map none] 168)=w1;have D:FF w w1:=by rw[<-r];exact(au _ _).alloc (aj _) _
 have d:w1.heap.size=w.heap.size+1:=by rw[<-r];simp
 have c0:w1.cell? (FI w 0)=some (.pointer none):=by rw[<-r];simp
 have c1:w1.cell? (FI w 1)=some (.map none):=by rw[<-r];simp
 have cf:∀i,w1.frozen? (FI w i)=false:=λi=>by rw[<-r];simp
 have R:qA w1 w.heap.size 168:=by rw[<-r];exact⟨_,_,bo w _⟩

 have b:(w1.alloc (.map #[] 0)).heap[w.heap.size+1]?=some (.map #[] 0):=by rw[<-d];exact World.alloc_heap_new w1 _
 have l:Below (w.heap.size+1) w1 (w1.alloc (.map #[] 0)):=(au _ _).alloc ak _;have E:Hid ((w1.alloc (.map #[] 0)).heap.size=w.heap.size+2):=by rw[Hid,World.size_alloc];omega
 have K:(Instr.makeMap 166 none).run prog w1=.ok (.map (some (w.heap.size+1))) (w1.alloc (.map #[] 0)):=by rw[u,d]
 have S:Hid (w1.heap.size=w.heap.size+1):=d;have d1:=(l.cell (p:=(aA w.heap.size 1)) jB).trans c1;have L:=(l.frozen (p:=(aA w.heap.size 1)) jB).trans (cf 1);clear u d;generalize w1.alloc (.map #[] 0)=w2 at *;go_wp2_with (refine Bp rfl rfl underlying166 underlying9 rfl b rfl rfl bt ?_;intro w' c f v;replace l:=l.trans f;replace E:Hid (w'.heap.size=w.heap.size+2):=v.trans E.out;replace b:=c;replace d1:=(f.cell (p:=(aA w.heap.size 1)) (nK _)).trans d1;replace L:=(f.frozen (p:=(aA w.heap.size 1)) (nK _)).trans L;clear f v c)
 have T:gE w' (w.heap.size+1) w.heap.size:=b.trans bt;have U:=(l.cell (p:=(FI w 0)) (nK _)).trans c0;have F:∀y,y≠w.heap.size->(w'.setCell (FI w 1) (.map (some (w.heap.size+1)))).heap[y]?=w'.heap[y]?:=λy s=>aQ w' (FI w 1) _ y s;have M:(w'.setCell (FI w 1) (.map (some (w.heap.size+1)))).cell? (FI w 0)=some (.pointer none):=(am _ _ _ _ (by intro q;injection q with _ q;cases q)).trans U;have V:(w'.setCell (FI w 1) (.map (some (w.heap.size+1)))).cell? (FI w 1)=some (.map (some (w.heap.size+1))):=az _ _ _ d1;have N:∀i,(w'.setCell (FI w 1) (.map (some (w.heap.size+1)))).frozen? (FI w i)=false:=λi=>by
  rw[aT];exact(l.frozen (p:=(FI w i)) (nK _)).trans (cf i)
 have et:qA (w'.setCell (FI w 1) (.map (some (w.heap.size+1)))) w.heap.size 168:=Wal.cZ (R.e (l.block _ (nK _)));have W:gE (w'.setCell (FI w 1) (.map (some (w.heap.size+1)))) (w.heap.size+1) w.heap.size:=(F _ ak).trans T;have X:(w'.setCell (FI w 1) (.map (some (w.heap.size+1)))).heap.size=w.heap.size+2:=by rw[mz];exact E.out
 have O:FF w (w'.setCell (aA w.heap.size 1) (.map (some (w.heap.size+1)))):=(D.trans (l.mono (cL _))).setCell (p:=(aA w.heap.size 1)) (aj _) _;generalize w'.setCell ⟨w.heap.size,1,none⟩ (.map (some (w.heap.size+1)))=w3 at *;have z:=G9 20 8 0 2 w3 ak ak ak ak ak ak ak;have Y:Hid (w3.heap.size=w.heap.size+2):=X;have Z:Hid (∀A w4,bF w4 A s0->FF w3 w4->Ex w3.heap.size w4 A s0->Ds B (w.heap.size+2) w.heap.size (.map (some (w.heap.size+1))) (w4.setCell (aA w.heap.size 0) (tp A.Q)) A s0 0/\gE (w4.setCell (aA w.heap.size 0) (tp A.Q)) (w.heap.size+1) w.heap.size/\FF w (w4.setCell (aA w.heap.size 0) (tp A.Q))):=λA w4 x a G=>by
  have g:w.heap.size<w3.heap.size:=ak;have o:∀y,y≠w.heap.size->(w4.setCell (FI w 0) (tp A.Q)).heap[y]?=w4.heap[y]?:=λy s=>aQ w4 (FI w 0) _ y s;have H:qA w4 w.heap.size 168:=et.e (a.block _ g);let ⟨p1,p2⟩:=x.ac (w':=w4.setCell (FI w 0) (tp A.Q)) aY (λy s=>o y (by
   intro e;rw[e]at s;rcases s with q|q
   exact x.ab H cn cn cn cn cn q;exact H.j q cn rfl))
  have C:Bk s0 0:=Bk.j (tob:=20) (tv:=8) (td:=0) (n:=2) cn 0;have m:FF w (w4.setCell (FI w 0) (tp A.Q)):=(O.trans (a.mono O.size)).setCell (p:=(FI w 0)) (aj _) _;refine⟨⟨⟨Wal.cZ H,az _ _ _ ((a.cell (p:=(FI w 0)) g).trans M),(am _ _ _ _ (by intro q;injection q with _ q;cases q)).trans ((a.cell (p:=(FI w 1)) g).trans V),p1⟩,λi=>?_,λk hk=>by have:=G k (p2 k hk);omega,h.on m,h.h,ak,?_,C.1,C.2⟩,?_,m⟩;rw[aT];exact(a.frozen (p:=(FI w i)) g).trans (N i);rw[mz];have:=a.size;omega;unfold gE;rw[o _ ak,a.block _ ak];exact W
 have I:Hid (∀w4,FF w3 w4->w4.cell? (FI w 0)=some (.pointer none)/\w4.frozen? (FI w 0)=false):=λw4 a=>⟨(a.cell (p:=(FI w 0)) jB).trans M,(a.frozen (p:=(FI w 0)) jB).trans (N 0)⟩;apply z.mono;rintro e w4⟨A,rfl,x,a,G⟩;let ⟨g0,g1⟩:=I.out w4 a
 have HF:=Z.out A w4 x a G;have J :Hid _:= HF;go_wp2;go_ret;exact⟨A,rfl,J.out⟩
def S8(ws:List ByteArray)(s:Wd):lQ:=qB ws s (.inl Lz,s)
def kI(f:Nat)(ws:List ByteArray)(s:Wd):lQ:=
 if f=79 then Za ws s
 else if f=80 then Ah ws s
 else if f=81 then D5 ws s
 else if f=82 then u9 ws s
 else if f=83 then JC ws s
 else if f=84 then SF ws s
 else if f=85 then Eb ws s
 else if f=86 then sU ws s
 else if f=87 then S8 ws s
 else if f=88 then abf ws s
 else if f=89 then Tg ws s
 else if f=90 then He ws s
 else if f=91 then WU ws s
 else if f=92 then AI ws s
 else if f=93 then AL ws s
 else if f=94 then Zr ws s
 else if f=95 then upP ws s
 else if f=96 then kT ws s λo=>kN s o
 else lq ws s
def tW(r:Nat):Bool:=r==32
def iG(a:ByteArray):List ByteArray:=Lib.goFieldsP tW a
def lK(a:ByteArray)(s:Wd):lQ:=match iG a with
 | []=>(.inl ⟨#[111,107]⟩,s)
 |x::ws=>match iN db x with
  |none=>(.inr 3,s)
  |some f=>kI f ws s
def nE(a:ByteArray)(s:Wd):ByteArray:=match (lK a s).1 with
 |.inl t=>t
 |.inr n=>jO n
def l9(f:Nat)(ws:List ByteArray):Nat:=if f=82/\(cD ws 1).isSome=true then 3600000 else 3
def oJ(a:ByteArray):Nat:=match iG a with
 | []=>3
 |x::ws=>match iN db x with
  |none=>3
  |some f=>l9 f ws
def GF(s:DS)(h:pos<s.size):pos+(Utf8.decode s pos).2<=s.size:=by
 rw[Lib.decode_at];rcases Lib.decodeN_shape (s.size-pos) (s.get! pos).toNat (s.get! (pos+1)).toNat (s.get! (pos+2)).toNat (s.get! (pos+3)).toNat with⟨_,e⟩|⟨_,_,_,_,e⟩|⟨_,_,_,_,_,_,e⟩|⟨_,_,_,_,_,_,_,e⟩|e<;>rw[e]<;>dsimp only<;>omega
def Hu(l:List (Nat×Nat)):Nat:=(l.map λx=>x.2-x.1+1).sum
def Hq(l:List (Nat×Nat))(a b:Nat):Hu (l++[(a,b)])=Hu l+(b-a+1):=by simp[Hu]
def Wt(pos:Nat)(r:List (Nat×Nat)×Option Nat):Prop:=match r.2 with
 |some a=>Hu r.1<=a/\a<=pos
 |none=>Hu r.1<=pos
def Wt.e{q:Nat}{r:List (Nat×Nat)×Option Nat}(h:Wt pos r)(b:pos<=q):Wt q r:=by
 obtain⟨l,c⟩:=r;cases c with
 |none=>exact aO h b
 |some a=>exact⟨h.1,aO h.2 b⟩
def oO{p:Nat->Bool}{s:DS}:∀(f pos:Nat) (d:Option Nat) (b:List (Nat×Nat)),pos<=s.size->Wt pos (b,d)->Wt s.size (Lib.spansFromP p s f pos d b)
 |0,pos,d,b,j,h=>by
  unfold Lib.spansFromP;exact h.e j
 |f+1,pos,d,b,j,h=>by
  by_cases c:pos<s.size;have k:=Lib.decode_width_pos s pos c;have i:=GF s c;unfold Lib.spansFromP;rw[aH c];cases hb:p (Utf8.decode s pos).1 with
  |true=>
   rw[aH rfl];cases d with
   |some a=>
    have g:Hu b<=a/\a<=pos:=h;exact oO f _ none _ i (by show Hu (b++[(a,pos)])<=_;rw[Hq];omega)
   |none=>
    have g:Hu b<=pos:=h;exact oO f _ none _ i (by show Hu b<=_;omega)
  |false=>
   rw[ay cn];cases d with
   |some a=>
    have g:Hu b<=a/\a<=pos:=h;exact oO f _ (some a) _ i ⟨g.1,ak⟩
   |none=>
    have g:= h;exact oO f _ (some pos) _ i ⟨g,ak⟩
  rw[Lib.spansFromP_end p s (f+1) pos d b c];exact h.e j
def Hj(p:Nat->Bool)(s:DS):Hu (Lib.spansOfP p s)<=s.size+1:=by
 have h:=oO (p:=p) (s:=s) s.size 0 none [] (iu _) (iu _);unfold Lib.spansOfP;generalize Lib.spansFromP p s s.size 0 none []=r at h;obtain⟨l,b⟩:=r;cases b with
 |some a=>
  have c:Hu l<=a/\a<=s.size:=h;show Hu (l++[(a,s.size)])<=_;rw[Hq];omega
 |none=>
  have c:Hu l<=s.size:=h;show Hu l<=_;omega
def SO(s:DS)(a b:Nat):(s.extract a b).size<=b-a:=by
 rw[W9];omega
def wN(a:DS):((iG a).map λx=>x.size+1).sum<=a.size+1:=by
 refine aO ?_ (Hj tW a);unfold iG Lib.goFieldsP Hu;generalize Lib.spansOfP tW a=l;induction l with
 |nil=>exact aj _
 |cons x t b=>
  have h:=SO a x.1 x.2;simp only[bT,List.sum_cons];omega
def Po(a:DS):(iG a).length<=a.size+1:=by
 refine aO ?_ (wN a);generalize iG a=l;induction l with
 |nil=>exact aj _
 |cons x t b=>simp;omega
def Kj(a:DS):∀x∈iG a,x.size<=a.size:=by
 intro x b;have h:=wN a;have:x.size+1<=((iG a).map λx=>x.size+1).sum:=by
  generalize iG a=l at b;induction l with
  |nil=>cases b
  |cons y t c=>
   simp;rcases bG.1 b with rfl|q
   omega;have:=c q;omega
 omega
def wI:∀{l:List (DS×Nat)},iN l x=some f->(x,f)∈l
 | [],h=>by cases h
 |(y,g)::t,h=>by
  unfold iN at h;split at h;rename_i e;injection h with h
  subst e h;exact dj;exact cJ _ (wI h)
def Ol(h:iN db x=some 82):x.size=4:=by
 have a:∀p∈db,p.2=82->p.1.size=4:=cn;exact a _ (wI h) rfl
def rF(h:iN db x=some f):f∈db.map (·.2):=ed.2 ⟨_,wI h,rfl⟩
def JY{y:DS}{n:Int}(h:rI y=some n):1<=y.size:=by
 cases hs:y.size with
 |succ k=>omega
 |zero=>
  have e:y=⟨#[]⟩:=by
   cases y with
   |mk a=>congr 1;exact Array.eq_empty_of_size_eq_zero hs
  subst e;exfalso;revert h;have:rI ⟨#[]⟩=none:=by decide +kernel
  rw[this];intro q;cases q
def Ww(b:DS):oJ b<=514286*(b.size+1):=by
 have d:=wN b;unfold oJ;cases hl:iG b with
 |nil=>dsimp only;omega
 |cons x ws=>
  rw[hl]at d;dsimp only;cases hf:iN db x with
  |none=>dsimp only;omega
  |some f=>
   dsimp only;unfold l9;split;rename_i hc;obtain⟨rfl,e⟩:=hc;have g:=Ol hf;obtain⟨l,c⟩:=aP.1 e;unfold cD at c;split at c;rename_i a;match ws,a,c with
   | [y],_,c=>
    unfold jb at c;cases hy:rI y with
    |none=>rw[hy]at c;cases c
    |some n=>
     have:=JY hy;simp at d;omega
   | [],a,_=>simp at a
   |_::_::_,a,_=>simp at a;omega
   cases c;omega
end Wld
end Go.Proofs.YtbebfliimjjohabGreatDoor
