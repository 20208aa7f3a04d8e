/- Parts of the proof. -/
import Derived.Test.YtbebfliimjjohabGreatDoorM41
import Derived.Lib.JoinLaws
import Derived.RangeFuncRecord
import Derived.WideMake
import Derived.Lib.MapLaws
import Derived.Lib.RuneCount
set_option maxRecDepth 100000
set_option maxHeartbeats 8000000
set_option linter.all false
open Go.Proofs.Tryz
namespace Go.Proofs.YtbebfliimjjohabGreatDoor open Gen (la on tk)
open Go.RowKit Go.Maps
open Cache (tp bp bD)
open Lease (dA gv)
open Wal (bW)
open Net (fm)
namespace Wld
variable{n y:Int}{X:Int->Wd->Prop}{ws:List Bh}{l:List Ev}{B N d C C' pos:Nat}{A:Wa}{s s':Wd}{w w3 w2 w1:A1}{r:mQ}
def Cc(B N d q:Nat)(M:Value)(w:World)(C:Nat)(X:Int->Wd->Prop)(n:Int)(w3:World):Prop:=∃A s',X n s'/\0<=n/\A.Q=q/\Ds B N d M w3 A s' C/\Dz N d w w3
def Cc.e{q:Nat}{M:Bg}(h:Cc B N d q M w C X n w3):
  Calls prog 144 #[eV n] w3 (λe w4=>e=(if n=0 then .returned (.tuple #[]) else cn n)/\Cc B N d q M w C X n w4):=by
 let ⟨A,s,b,h0,c,a,f⟩:=h
 apply (wv h0 a.I).mono;rintro e w4⟨rfl,g⟩;let ⟨x,z⟩:=a.e g
 exact⟨rfl,A,s,b,h0,c,x,f.h z⟩
def Cc.H{M:Bg}{e:Ending}(h:Ds B N d M w A s C)(a:Below w.heap.size w w2)(b:Op A s w2 n s' e w3)(c:f9 s' C')(h0:0<=n)(g:X n s'):∃n,e=.returned (eV n)/\Cc B N d A.Q M w C' X n w3:=by
 obtain⟨rfl,i,j,f⟩:=b;obtain⟨x,z⟩:=h.Z a j f c (au _ _);exact⟨n,rfl,i,s',g,h0,f.Q,x,z⟩
def Cc.I{M:Bg}{e:Ending}(h:Ds B N d M w A s C)(c:Below w.heap.size w w2)(g:Op A s w2 n s' e w3):Zl d w2 w3:=by
 let ⟨_,k,l,f⟩:=g
 let ⟨x,_⟩:=h.e c
 have hd:=Fz.O x.b.b f x.b.e;refine⟨aj (a:=(aA d 0)) hd,λX m t fz i j=>?_⟩;have z:Dz N d w2 w3:=Dz.V x.b.b f x.t;exact z.b X ⟨_,i,by rcases j with rfl|rfl<;>rfl⟩
def Cc.h{q:Nat}{M:Bg}{w4:A1}{T:Bh}(h:Cc B N d q M w C X n w4)(b:∀s',X n s'->r=uZ n T s'):ui B N d M w C r (if n=0 then .returned (.string T) else cn n) w4:=by
 obtain⟨A,s',c,h0,_,e,f⟩:=h;rw[b s' c];refine⟨?_,A,e,f⟩;unfold uZ;by_cases a:n=0;rw[az a];simp only[az a];rw[ax a];simp only[ax a];rw[lS h0]
def Ds.q{M:Bg}(h:Ds B N d M w A s C):d<w.heap.size/\cC w (aA d 0) (tp A.Q):=⟨h.b.e.H,h.b.h⟩
def ui.e{M:Bg}(h:Ds B N d M w A s C)(a:C<=C')(b:r=(.inr 3,s))(c:Below w.heap.size w w2):ui B N d M w C' r (cn 3) w2:=by
 rw[b];exact ui.h h a c
structure wQ(w:World)(v:Value)(ws:List ByteArray):Prop where
 b:X9 w v ws
 h:∀x∈ws,x.size<=1000000
 i:ws.length<=1000000
def wQ.e{M:Bg}{v:Bg}(h:wQ w v ws)(f:Ds B N d M w A s C)(a:Int)(c:Below w.heap.size w w1):Calls prog 145 #[v,iI a] w1 (fZ ws a w1):=
 IY a (f.j.on c) (h.b.e c) h.h h.i
def I1(ws:List ByteArray)(s:Wd):mQ:=qZ ws s λk o=>uZ (s.b5 k o) ⟨#[114,101,97,100]⟩ (s.b4 k o)
def adh{M:Bg}{v:Bg}(h:Ds B N d M w A s C)(j:wQ w v ws)(l:C<=800000000):
  Calls prog 90 #[tp d,v] w (ui B N d M w (C+3) (I1 ws s)):=by
 refine QW (Cc B N d A.Q M w (C+3) λn s'=>∃a b,cm ws 2=some [a,b]/\n=s.b5 a b/\s'=s.b4 a b) (Cc B N d A.Q M w (C+3) λn s'=>∃a b,cm ws 2=some [a,b]/\n=s.b5 a b/\s'=s.b4 a b) h.q.1 h.q.2 (j.e h 2 (au _ _)) (λw2 a b c f=>?_) (λn w3 g=>g.e) (λk w2 c=>?_) (λn w4 g=>?_);apply (Vm a b (h.e c).1.b.b h.h (by omega)).mono;intro e w3 i;exact⟨Cc.H h c i (Bk.ag h.h a b) (s.cj a b) ⟨a,b,f,rfl,rfl⟩,Cc.I h c i⟩;exact ui.e h (by omega) (by unfold I1 qZ;rw[k]) c;apply g.h;rintro s'⟨a,b,f,rfl,rfl⟩;unfold I1 qZ;rw[f]
def abk{M:Bg}{v:Bg}(h:Ds B N d M w A s C)(m:wQ w v ws)(P:C<=800000000)(t:∀g o n c,v=.slice (some (aA g o)) n c->∃cs f,w.heap[g]?=some (.cells cs 9 f)):
  Calls prog 97 #[tp d,v] w (ui B N d M w (C+3) (pu ws s)):=by
 have K:=m;obtain⟨ao,c,rfl,hc,L⟩:=m.b;by_cases p:ws.length=3;obtain⟨r,o,rfl,u,j⟩:=L (by omega);have y:w.cell? ⟨r,o+2,none⟩=some (.string (ws.getD 2 ⟨#[]⟩)):=by
  rw[j 2 (by omega),aG,aB (by omega)];rfl
 have z:(ws.getD 2 ⟨#[]⟩).size<=1000000:=by
  rw[aG,aB (by omega)];exact m.h _ (bA _)
 have D:(ws.take 2).length=2:=by rw[cu];omega
 have k:wQ w (.slice (some (aA r o)) 2 c) (ws.take 2):=⟨⟨_,c,by rw[D],by omega,λ_=>⟨r,o,rfl,u,λi R=>by rw[List.getElem_take];exact j i (by omega)⟩⟩,λx y=>m.h x (List.mem_of_mem_take y),by omega⟩;rw[p];refine Ma ws (Cc B N d A.Q M w (C+3) λn s'=>∃a b,cm (ws.take 2) 2=some [a,b]/\n=s.bl a b (ws.getD 2 ⟨#[]⟩)/\s'=s.bk a b (ws.getD 2 ⟨#[]⟩)) (Cc B N d A.Q M w (C+3) λn s'=>∃a b,cm (ws.take 2) 2=some [a,b]/\n=s.bl a b (ws.getD 2 ⟨#[]⟩)/\s'=s.bk a b (ws.getD 2 ⟨#[]⟩)) h.q.1 h.q.2 (by omega) (t r o _ _ rfl) y (k.e h 2 (au _ _)) (λw2 a b l E=>?_) (λn w3 F=>F.e) (λG w2 l=>?_) (λn w4 F=>?_);apply (Ra a b (h.e l).1.b.b h.h (by omega) z).mono;intro e w3 J;exact⟨Cc.H h l J (Bk.ab h.h a b) (s.ch a b) ⟨a,b,E,rfl,rfl⟩,Cc.I h l J⟩;exact ui.e h (by omega) (by unfold pu qZ;rw[az p,G]) l;apply F.h;rintro s'⟨a,b,E,rfl,rfl⟩;unfold pu qZ;rw[az p,E]
 .have G:=oR ao c ws.length 3 w (by omega);have O:Hid (ui B N d M w (C+3) (pu ws s) (cn 3) w):=ui.e h (by omega) (by unfold pu;rw[ax p]) (au _ _);go_enter func97,ntmps97;go_wp2_with fail
  apply G.mono;rintro e w2⟨rfl,k⟩;rw[k];go_wp2_with fail
  exact⟨rfl,O.out⟩
def yu(ws:List ByteArray)(s:Wd):mQ:=kJ ws s λr=>if r<0\/200<r then (.inr 2,s) else (.inl ⟨#[99,97,108,109]⟩,s.an r.toNat)
def ac4{M:Bg}{v:Bg}(h:Ds B N d M w A s C)(l:wQ w v ws)(n:C+3600000<=800000000)(i:∀a:Nat,cm ws 1=some [(a:Int)]->∀j,j<a->(s.an j).sv.isSome=true):
  Calls prog 82 #[tp d,v] w (ui B N d M w (C+3600000) (yu ws s)):=by
 refine DE h.q.1 h.q.2 (l.e h 1 (au _ _)) (λw2 a c g k=>?_) (λm w2 c=>?_) (λa w2 g k c=>?_);let ⟨x,z⟩:=h.e c
 apply (Qd C a x.b.b h.h (by omega) (i a g)).mono;rintro e w3⟨rfl,o,y,f⟩;let ⟨u,t⟩:=h.Z c y f ((h.h.ap x.b.b.B a (i a g)).e (show C+18000*a<=C+3600000 by omega)) (au _ _)
 refine⟨rfl,?_⟩;unfold yu kJ;rw[g];dsimp only;rw[ax (by omega)];exact⟨rfl,_,u,t⟩;exact ui.e h (by omega) (by unfold yu kJ;rw[m]) c;unfold yu kJ;rw[g];dsimp only;rw[az k];exact ui.h h (by omega) c (r:=.inr 2)
def wD(h:oD B w)(a:gv y):Calls prog 78 #[iI y] w λe b=>e=.returned (.string (lH y))/\Below w.heap.size w b:=by
 refine(af y (by have:=a.1;omega) (by have:=a.2;omega) h.i.here).mono ?_;rintro e b⟨rfl,k,c,rfl⟩;exact⟨rfl,Lib.below_grow _ _ (aa _) k c⟩
def kI(a:gv y):(lH y).size<=100:=by
 have b:=Lib.itoa_length_le y (by have:=a.1;omega) (by have:=a.2;omega);show (Lib.itoa y).toArray.size<=100;rw[ge];omega
def DW(d:Bh)(h:oD B w)(hd:d.size<=1000000)(m:gv y):
  Calls prog 153 #[.agg #[.string d,iI y]] w λe f=>e=.returned (.string (lJ d y))/\Below w.heap.size w f:=by
 have c:Below w.heap.size w (w.alloc (.cells #[.string d,iI y] 41)):=(au _ _).alloc (aa _) _;have g:=wD (h.on c) m;have p:=kI m;have n:Hid (lJ d y=(if d=⟨#[]⟩ then ⟨#[95]⟩ else d)++⟨#[32]⟩++lH y):=rfl;generalize lH y=t at *;generalize lJ d y=r at *;have o:Hid (∀f,Below (w.alloc (.cells #[.string d,iI y] 41)).heap.size (w.alloc (.cells #[.string d,iI y] 41)) f->Below w.heap.size w f):=λf i=>c.trans (i.mono c.size);by_cases h0:d=⟨#[]⟩
 .have k:Hid (r=⟨#[95]⟩++⟨#[32]⟩++t):=by rw[Hid,n.out,az h0]
  subst h0;go_enter func153,ntmps153;go_wp2_with fail
  apply g.mono;rintro e w2⟨rfl,i⟩;have l :Hid _:= o.out w2 i;have j:¬9223372036854775807<2+t.size:=by omega
  go_wp2_with fail
  go_ret;exact⟨by rw[k.out];rfl,l.out⟩
 .have k:Hid (r=d++⟨#[32]⟩++t):=by rw[Hid,n.out,ax h0]
  have q:d.toList.isEmpty=false:=by
   cases hl:d.toList with
   |nil=>
    rw[iw]at hl;exact absurd (vj (b:=⟨#[]⟩) hl) h0
   |cons a b=>rfl
  have s:¬9223372036854775807<d.size+1:=by omega
  go_enter func153,ntmps153;go_wp2_with fail
  apply g.mono;rintro e w2⟨rfl,i⟩;have l :Hid _:= o.out w2 i;have j:¬9223372036854775807<d.size+1+t.size:=by omega
  go_wp2_with fail
  go_ret;exact⟨by rw[k.out];rfl,l.out⟩
def ui.H{M:Bg}{t:Bh}(h:Ds B N d M w A s C)(a:C<=C')(b:r=(.inl t,s))(c:Below w.heap.size w w2):ui B N d M w C' r (.returned (.string t)) w2:=by
 rw[b];exact ui.h h a c
def bM.ac{w':A1}(h:bM w A s)(hs:w.heap.size<=w'.heap.size)(o:∀y,wfoot w A s y\/rD w y 201->w'.heap[y]?=w.heap[y]?):bM w' A s/\∀k,wfoot w' A s k->wfoot w A s k:=by
 have E:=o A.Q (.inl (.Q rfl));have z:∀i,w'.cell? (aA A.Q i)=w.cell? (aA A.Q i):=λi=>aj E;have I:∀i,w'.frozen? (aA A.Q i)=w.frozen? (aA A.Q i):=λi=>aJ E;have K:=o A.G (.inl (.G rfl));have O:= NetIs.ab h.p hs (z _) (z _) I λv g l L=>by
  let ⟨S,n,P⟩:=h.p.b
  rw[l]at n;injection n with n
  subst n;exact o g (.inr (dg P L).2)
 have N:= DiskIs.ab h.y (λi _ _=>z i) I;have d:∀v,s.sv=some v->∀y,fy w A.a y->y≠A.a.q->w'.heap[y]?=w.heap[y]?:=λv l y R _=>o y (.inl (.sv (by rw[l];rfl) R));refine⟨⟨h.b.H (h.b.h.e E) (λi _ _=>z i) I,N,O,h.x.imp λv l=>⟨(z _).trans l.1,bp l.2 λg L=>o g (.inl (.ev v l.1 L))⟩,h.u.e K,λi=>(aJ (a:=(aA A.G i)) K).trans (h.C i),λi r=>(h.e i r).e K,λi r=>(h.o i r).j (o _ (.inl (.c i r rfl))) (o _ (.inl (.m i r rfl))),h.J,λv l=>?_,h.F,h.B⟩,λk f=>?_⟩;have u:=h.t v l;exact⟨u.b.ae hs (by rw[u.q,u.j,u.e,u.h];exact N) (d v l),u.q,u.j,u.e,u.h,u.o,u.p,u.t⟩;rcases f with f|f|⟨v,D,M⟩|⟨i,r,f⟩|⟨i,r,f⟩|⟨D,M⟩
 exact .Q f;exact .G f;exact .ev v ((z _).symm.trans D) M;exact .c i r f;exact .m i r f;let ⟨v,l⟩:=aV.1 D
 have T:=(h.t v l).b.e;exact .sv D ((jg (d v l _ (.inr (.inr (.inr (.inl rfl)))) (by omega)) (d v l _ (.inr (.inr (.inl rfl))) (by omega)) k).1 M)
def Qn{e:Ev}(h:oD B w)(he:KO e):
  Calls prog 147 #[.agg (eZ e).toArray] w λr s=>r=.returned (.string (oQ e))/\Below w.heap.size w s:=by
 obtain⟨P,Q,R,i4⟩:=he;have m:Below w.heap.size w (w.alloc (.cells (eZ e).toArray 45)):=(au _ _).alloc (aa _) _;have T:=kI P;have U:=kI Q;have V:(lJ e.d e.yO).size<=200:=by
  have M:=kI R;unfold lJ;rw[jb,jb];have h4:(if e.d=⟨#[]⟩ then (⟨#[95]⟩:Bh) else e.d).size<=20:=by
   split;decide;exact i4
  have h5:(⟨#[32]⟩:Bh).size=1:=rfl;omega
 have X:Hid (∀W,Below (w.alloc (.cells (eZ e).toArray 45)).heap.size (w.alloc (.cells (eZ e).toArray 45)) W->Calls prog 78 #[iI e.b] W λr s=>r=.returned (.string (lH e.b))/\Below W.heap.size W s):=λW f=>wD (h.on (m.trans (f.mono m.size))) P;have Y:Hid (∀W,Below (w.alloc (.cells (eZ e).toArray 45)).heap.size (w.alloc (.cells (eZ e).toArray 45)) W->Calls prog 78 #[iI e.rG] W λr s=>r=.returned (.string (lH e.rG))/\Below W.heap.size W s):=λW f=>wD (h.on (m.trans (f.mono m.size))) Q;have Z:Hid (∀W,Below (w.alloc (.cells (eZ e).toArray 45)).heap.size (w.alloc (.cells (eZ e).toArray 45)) W->Calls prog 153 #[.agg #[.string e.d,iI e.yO]] W λr s=>r=.returned (.string (lJ e.d e.yO))/\Below W.heap.size W s):=λW f=>DW e.d (h.on (m.trans (f.mono m.size))) (by omega) R;obtain⟨k,h1⟩:∃t,lH e.b=t:=⟨_,rfl⟩;obtain⟨l,h2⟩:∃t,lH e.rG=t:=⟨_,rfl⟩;obtain⟨n,M⟩:∃t,lJ e.d e.yO=t:=⟨_,rfl⟩;have H:Hid (lH e.b=k):=h1;have I:Hid (lH e.rG=l):=h2;have N:Hid (lJ e.d e.yO=n):=M;rw[h1]at X T;rw[h2]at Y U;rw[M]at Z V;have c1:(w.alloc (.cells (eZ e).toArray 45)).cell? (aA w.heap.size 1)=some (iI e.m9):=by simp[eZ]
 have A:(w.alloc (.cells (eZ e).toArray 45)).cell? (aA w.heap.size 0)=some (iI e.b)/\(w.alloc (.cells (eZ e).toArray 45)).cell? (aA w.heap.size 2)=some (iI e.rG)/\(w.alloc (.cells (eZ e).toArray 45)).cell? (aA w.heap.size 3)=some (.string e.d)/\(w.alloc (.cells (eZ e).toArray 45)).cell? (aA w.heap.size 4)=some (iI e.yO)/\(w.alloc (.cells (eZ e).toArray 45)).cell? (aA w.heap.size 5)=some (.bool e.Hy)/\(w.alloc (.cells (eZ e).toArray 45)).cell? (aA w.heap.size 6)=some (.bool e.Zk):=by simp[eZ]
 have ad:w.heap.size<(w.alloc (.cells (eZ e).toArray 45)).heap.size:=by simp
 clear h P Q R i4 h1 h2 M;go_enter func147,ntmps147;go_upto_region 1 with fail
 generalize hW:w.alloc (.cells (eZ e).toArray 45)=w1 at *;clear hW;have q:Hid (∀W,Below w1.heap.size w1 W->W.cell? (aA w.heap.size 0)=some (iI e.b)/\W.cell? (aA w.heap.size 2)=some (iI e.rG)/\W.cell? (aA w.heap.size 3)=some (.string e.d)/\W.cell? (aA w.heap.size 4)=some (iI e.yO)/\W.cell? (aA w.heap.size 5)=some (.bool e.Hy)/\W.cell? (aA w.heap.size 6)=some (.bool e.Zk)):=λW f=>by
  have J:∀i,W.cell? (aA w.heap.size i)=w1.cell? (aA w.heap.size i):=λi=>f.cell (p:=(aA w.heap.size i)) ad;rw[J,J,J,J,J,J];exact A
 have L:Hid (∀W,Below w1.heap.size w1 W->Below w.heap.size w W):=λW f=>m.trans (f.mono m.size);have u:= dJ w1;have c0:=A.1;have c2:=A.2.1;by_cases O:e.m9=2
 .have C :Hid _:= O;have aI:¬9223372036854775807<k.size+1:=by omega
  have aS:¬9223372036854775807<k.size+1+l.size:=by omega
  have a0:¬9223372036854775807<6+(k.size+1+l.size):=by omega
  have k3:(e.m9==2)=true:=by simpa using O
  go_upto_region 4 with fail
  refine Gen.start (S:=λs=>s.cell? (aA w.heap.size 0)=some (iI e.b)/\s.cell? (aA w.heap.size 2)=some (iI e.rG)/\True) (by kernel_rfl) ⟨c0,c2,aE⟩ (λa=>?_);refine tk 0 10 a ?_;go_frame;refine tk 1 2 a ?_;go_frame;refine tk 2 3 a ?_;go_frame;refine tk 5 6 a ?_;go_frame;refine tk 6 7 a ?_;go_frame;refine tk 7 8 a ?_;go_frame;refine on 3 λK v=>?_;go_simp;refine(X.out w1.drew u).mono ?_;rintro r w2⟨rfl,f⟩;have g:= u.trans (f.mono u.size);have D:=(q.out w2 g).1;have E:=(q.out w2 g).2.1;dsimp only;refine v.out _ _ ⟨D,E,aE⟩ (λa=>?_);try simp only[Act.put,ar,aD,aC]
  refine tk 4 9 a ?_;go_frame;refine on 8 λK v=>?_;go_simp;refine(Y.out w2 g).mono ?_;rintro r w3⟨rfl,f⟩;have c:= g.trans (f.mono g.size);have D:=(q.out w3 c).1;have E:=(q.out w3 c).2.1;dsimp only;refine v.out _ _ ⟨D,E,aE⟩ (λa=>?_);try simp only[Act.put,ar,aD,aC]
  refine tk 9 10 a ?_;go_frame;refine tk 10 11 a ?_;go_frame;refine la 11 λK v=>?_;go_simp;refine v.out _ _ ?_;obtain⟨c0,c2,c3,c4,c5,c6⟩:=q.out w3 c;cases hov:e.Hy with
  |false=>
   rw[hov]at c5;have x:¬9223372036854775807<6+(k.size+1+l.size)+5:=by omega
   have y:Hid (oQ e=⟨#[119,114,105,116,101,32]⟩++(k++⟨#[32]⟩++l)++⟨#[32,111,112,101,110]⟩):=by
    unfold Hid oQ;rw[az hov,az C.out,H.out,I.out]
   go_wp2_with fail
   go_ret;exact⟨by rw[y.out];rfl,L.out w3 c⟩
  |true=>
   rw[hov]at c5;have z:=Z.out w3 c;cases hhi:e.Zk with
   |true=>
    rw[hhi]at c6;have o :Hid _:= hhi;have y:Hid (oQ e=⟨#[119,114,105,116,101,32]⟩++(k++⟨#[32]⟩++l)++(⟨#[32]⟩++n)++⟨#[32,104,105,116]⟩):=by
     unfold Hid oQ;rw[ax (by rw[hov];decide),az hhi,az C.out,H.out,I.out,N.out]
    have x:¬9223372036854775807<1+n.size:=by omega
    have F:¬9223372036854775807<6+(k.size+1+l.size)+(1+n.size):=by omega
    have a1:¬9223372036854775807<6+(k.size+1+l.size)+(1+n.size)+4:=by omega
    go_wp2_with fail
    refine z.mono ?_;rintro r w4⟨rfl,f⟩;have j:= c.trans (f.mono c.size);obtain⟨d0,d2,d3,d4,d5,G⟩:=q.out w4 j;rw[o.out]at G;go_wp2_with fail
    go_ret;exact⟨by rw[y.out];rfl,L.out w4 j⟩
   |false=>
    rw[hhi]at c6;have o :Hid _:= hhi;have y:Hid (oQ e=⟨#[119,114,105,116,101,32]⟩++(k++⟨#[32]⟩++l)++(⟨#[32]⟩++n)):=by
     unfold Hid oQ;rw[ax (by rw[hov];decide),ax (by rw[hhi];decide),az C.out,H.out,I.out,N.out]
    have x:¬9223372036854775807<1+n.size:=by omega
    have F:¬9223372036854775807<6+(k.size+1+l.size)+(1+n.size):=by omega
    go_wp2_with fail
    refine z.mono ?_;rintro r w4⟨rfl,f⟩;have j:= c.trans (f.mono c.size);obtain⟨d0,d2,d3,d4,d5,G⟩:=q.out w4 j;rw[o.out]at G;go_wp2_with fail
    go_ret;exact⟨by rw[y.out];rfl,L.out w4 j⟩
 .have C :Hid _:= O;have aI:¬9223372036854775807<k.size+1:=by omega
  have aS:¬9223372036854775807<k.size+1+l.size:=by omega
  have a0:¬9223372036854775807<5+(k.size+1+l.size):=by omega
  have k3:(e.m9==2)=false:=by simpa using O
  go_upto_region 4 with fail
  refine Gen.start (S:=λs=>s.cell? (aA w.heap.size 0)=some (iI e.b)/\s.cell? (aA w.heap.size 2)=some (iI e.rG)/\True) (by kernel_rfl) ⟨c0,c2,aE⟩ (λa=>?_);refine tk 0 10 a ?_;go_frame;refine tk 1 2 a ?_;go_frame;refine tk 2 3 a ?_;go_frame;refine tk 5 6 a ?_;go_frame;refine tk 6 7 a ?_;go_frame;refine tk 7 8 a ?_;go_frame;refine on 3 λK v=>?_;go_simp;refine(X.out w1.drew u).mono ?_;rintro r w2⟨rfl,f⟩;have g:= u.trans (f.mono u.size);have D:=(q.out w2 g).1;have E:=(q.out w2 g).2.1;dsimp only;refine v.out _ _ ⟨D,E,aE⟩ (λa=>?_);try simp only[Act.put,ar,aD,aC]
  refine tk 4 9 a ?_;go_frame;refine on 8 λK v=>?_;go_simp;refine(Y.out w2 g).mono ?_;rintro r w3⟨rfl,f⟩;have c:= g.trans (f.mono g.size);have D:=(q.out w3 c).1;have E:=(q.out w3 c).2.1;dsimp only;refine v.out _ _ ⟨D,E,aE⟩ (λa=>?_);try simp only[Act.put,ar,aD,aC]
  refine tk 9 10 a ?_;go_frame;refine tk 10 11 a ?_;go_frame;refine la 11 λK v=>?_;go_simp;refine v.out _ _ ?_;obtain⟨c0,c2,c3,c4,c5,c6⟩:=q.out w3 c;cases hov:e.Hy with
  |false=>
   rw[hov]at c5;have x:¬9223372036854775807<5+(k.size+1+l.size)+5:=by omega
   have y:Hid (oQ e=⟨#[114,101,97,100,32]⟩++(k++⟨#[32]⟩++l)++⟨#[32,111,112,101,110]⟩):=by
    unfold Hid oQ;rw[az hov,ax C.out,H.out,I.out]
   go_wp2_with fail
   go_ret;exact⟨by rw[y.out];rfl,L.out w3 c⟩
  |true=>
   rw[hov]at c5;have z:=Z.out w3 c;cases hhi:e.Zk with
   |true=>
    rw[hhi]at c6;have o :Hid _:= hhi;have y:Hid (oQ e=⟨#[114,101,97,100,32]⟩++(k++⟨#[32]⟩++l)++(⟨#[32]⟩++n)++⟨#[32,104,105,116]⟩):=by
     unfold Hid oQ;rw[ax (by rw[hov];decide),az hhi,ax C.out,H.out,I.out,N.out]
    have x:¬9223372036854775807<1+n.size:=by omega
    have F:¬9223372036854775807<5+(k.size+1+l.size)+(1+n.size):=by omega
    have a1:¬9223372036854775807<5+(k.size+1+l.size)+(1+n.size)+4:=by omega
    go_wp2_with fail
    refine z.mono ?_;rintro r w4⟨rfl,f⟩;have j:= c.trans (f.mono c.size);obtain⟨d0,d2,d3,d4,d5,G⟩:=q.out w4 j;rw[o.out]at G;go_wp2_with fail
    go_ret;exact⟨by rw[y.out];rfl,L.out w4 j⟩
   |false=>
    rw[hhi]at c6;have o :Hid _:= hhi;have y:Hid (oQ e=⟨#[114,101,97,100,32]⟩++(k++⟨#[32]⟩++l)++(⟨#[32]⟩++n)):=by
     unfold Hid oQ;rw[ax (by rw[hov];decide),ax (by rw[hhi];decide),ax C.out,H.out,I.out,N.out]
    have x:¬9223372036854775807<1+n.size:=by omega
    have F:¬9223372036854775807<5+(k.size+1+l.size)+(1+n.size):=by omega
    go_wp2_with fail
    refine z.mono ?_;rintro r w4⟨rfl,f⟩;have j:= c.trans (f.mono c.size);obtain⟨d0,d2,d3,d4,d5,G⟩:=q.out w4 j;rw[o.out]at G;go_wp2_with fail
    go_ret;exact⟨by rw[y.out];rfl,L.out w4 j⟩
def acX(w:World)(B:Nat)(v:Value)(l:List Ev):Prop:=w.ownsRow B 45 10 v l.length (fS l)
def acX.e{v:Bg}(h:acX w B v l):∃ao c,v=.slice ao l.length c/\(0<l.length->∃g,ao=some ⟨g,0,none⟩/\B<=g/\g<w.heap.size/\∀k (d:k<l.length) j u,(eZ l[k])[j]?=some u->w.cell? ⟨g,k*10+j,none⟩=some u):=by
 obtain⟨ao,c,e,_,p⟩:=Net.cZ h;refine⟨ao,c,e,λh0=>?_⟩;rcases h.2 with⟨b,q⟩|⟨g,m,n,b,_⟩
 omega;rw[b]at e;injection e with e _ _
 have a:=bv h g (by rw[b];rfl);refine⟨g,e.symm,a.1,a.2,λk d j u f=>?_⟩;have o:j<10:=by
  have:=(aT.1 f).1;simpa[eZ] using this
 have i:=h;rw[acX,b]at i;rw[bJ i (k*10+j) (by omega),kH l k j d o];exact f
def Cb(w:World)(B:Nat)(v:Value)(l:List ByteArray):Prop:=w.ownsRow B 9 1 v l.length (l.map Value.string)
def Cb.e{wr:A1}{v b:Bg}{l:List Bh}{x:Bh}{o:Obj}(h:Cb wr B v l)(c:Below B w wr)(d:B<=wr.heap.size)(a:w1.ownsRow B 9 1 b (l.length+1) (l.map Value.string++[.string x]))(f:(wr.alloc o).grownBy w1 v.ownBlock):Cb w1 B b (l++[x])/\Below B w w1:=by
 refine⟨?_,?_⟩;unfold Cb;rw[aM,dQ];exact a;exact(c.alloc d o).grown f (by simp;omega) (λk g=>(bv h k g).1)
def Ja{d:Bh}{v:Int}(hd:d.size<=20)(a:gv v):(lJ d v).size<=200:=by
 have b:=kI a;unfold lJ;rw[jb,jb];have c:(if d=⟨#[]⟩ then (⟨#[95]⟩:Bh) else d).size<=20:=by
  split;decide;exact hd
 have e:(⟨#[32]⟩:Bh).size=1:=rfl;omega
def IG{e:Ev}(h:KO e):(oQ e).size<=500:=by
 obtain⟨a,b,c,d⟩:=h;have k1:=kI a;have f:=kI b;have g:=Ja d c;have i:(if e.m9=2 then (⟨#[119,114,105,116,101,32]⟩:Bh) else ⟨#[114,101,97,100,32]⟩).size<=6:=by split<;>decide
 have j:(⟨#[32]⟩:Bh).size=1:=rfl;have k:(⟨#[32,111,112,101,110]⟩:Bh).size=5:=rfl;have l:(⟨#[32,104,105,116]⟩:Bh).size=4:=rfl;unfold oQ;split;simp;omega;split;simp;omega;simp;omega
def Fy(m:Nat):∀(xs:List (List UInt8)),(∀x∈xs,x.length<=m)->Lib.lens xs<=m*xs.length
 | [],_=>aa _
 |x::t,h=>by
  have b:=Fy m t λy a=>h y (bI _ a);have c:=h x cX;have e:Lib.lens (x::t)=x.length+Lib.lens t:=by simp[Lib.lens]
  rw[e,bT,Nat.mul_succ];omega
def Yt(h:∀e∈l,KO e)(d:l.length<=1000000000):(Lib.join ((l.map oQ).map (·.data.toList)) [44,32]).length<=140737488355328:=by
 cases l with
 |nil=>exact jx _
 |cons e t=>
  rw[cE,cE,Lib.join_length];have g:=Fy 500 ((oQ e).data.toList::(t.map oQ).map (·.data.toList)) (λx c=>by
   rw[<-cE (f:=λb:Bh=>b.data.toList),<-cE]at c;obtain⟨b,i,rfl⟩:=dY.1 c;obtain⟨j,a,rfl⟩:=dY.1 i;exact IG (h j a))
  simp at g d⊢;omega
theorem KX{B d:Nat}{M:Value}{A:Wa}{s:Wd}(ao:Option Addr)(c:Nat){w:World}(h:yN w d M A s)(hb:oD B w)(hev:∀ e∈s.ba,KO e)(hl:s.ba.length≤1000000000) :
  Calls Tryz.prog 81 #[tp d,.slice ao 0 c] w fun e w'=>e = .returned (.string ⟨(Lib.join (s.ba.map fun e=>(oQ e).data.toList) [44,32]).toArray⟩)∧Below w.heap.size w w':=by
 have hn:=oS ao c 0 w
 have hevs:=La (A:=A) (s:=s) (w:=w) h.b (by omega)
 have c0:=h.h
 generalize s.ba=l at *
 obtain⟨i0,hi,hz0,hz1,hz2⟩:=dw (P:=Tryz.prog) (e:=9) (show (Tryz.prog.info? 9).map (fun i=>(i.zero,i.size,i.bytes))=some (some (.string ⟨#[]⟩),1,16) by kernel_rfl)
 have HB :Hid _:= hb
 have HV :Hid _:= hev
 go_enter Tryz.func81,Tryz.ntmps81
 go_wp2_with fail
 refine hn.mono ?_
 rintro e w1 ⟨rfl,hw1⟩
 rw[hw1]
 go_wp2_with fail
 refine hevs.mono ?_
 rintro e w2 ⟨v,rfl,hrow,hb2⟩
 obtain⟨ae,ce,rfl,hcell⟩:=acX.e hrow
 have HC :Hid _:= hcell
 go_wp2_with fail
 go_loopw [5,16] (fun v5 i wr=>∃ k:Nat,k≤l.length∧i = .int .i64 k∧Cb wr w2.heap.size v5 ((l.take k).map oQ)∧Below w2.heap.size w2 wr) (fun _ i _=>l.length-(intOf i).toNat)
 case atStart=>exact⟨0,by omega,rfl,jE _ _ _ _,au _ _⟩
 case round=>
  obtain⟨k,hk,rfl,hT,hbr⟩:=hrel
  by_cases hlt:k<l.length
  ·obtain⟨g,rfl,hg0,hg1,hcell⟩:=HC.out (by omega)
   have hltz:(k:Int)<(l.length:Int):=by omega
   obtain⟨x,hx⟩:∃ x,l[k]'hlt=x:=⟨_,rfl⟩
   have hcc:∀ j u,(eZ x)[j]?=some u→wr.cell? ⟨g,k*10+j,none⟩=some u:=fun j u hu=>(hbr.cell (p:=⟨g,k*10+j,none⟩) hg1).trans (hcell k hlt j u (by rw[hx];exact hu))
   have q0:wr.cell? ⟨g,k*10,none⟩=some (.int .i64 x.b):=hcc 0 _ rfl
   have q1:=hcc 1 _ rfl
   have q2:=hcc 2 _ rfl
   have q3:=hcc 3 _ rfl
   have q4:=hcc 4 _ rfl
   have q5:=hcc 5 _ rfl
   have q6:=hcc 6 _ rfl
   have q7:=hcc 7 _ rfl
   have q8:=hcc 8 _ rfl
   have q9:=hcc 9 _ rfl
   have HX:Hid (oQ (l[k]'hlt)=oQ x):=by rw[Hid,hx]
   have HO:Hid (KO x):=by rw[← hx];exact HV.out _ (bA hlt)
   have HT:Hid (Cb wr w2.heap.size u5 ((l.take k).map oQ)):=hT
   clear hcc hcell hx hT
   have hcall:∀ W,Below w2.heap.size w2 W→Calls Tryz.prog 147 #[.agg (eZ x).toArray] W fun r w'=>r = .returned (.string (oQ x))∧Below W.heap.size W w':=fun W hbW=>Qn (B:=B) (e:=x) (w:=W) (HB.out.on (hb2.trans (hbW.mono hb2.size))) HO.out
   unfold eZ at hcall
   go_wp2_with fail
   refine(hcall _ (hbr.alloc hbr.size _)).mono ?_
   rintro e w4 ⟨rfl,hb4⟩
   have hb5:= ((au _ _).alloc (aa _) _).trans (hb4.mono (by simp))
   have hT4:Cb w4 w2.heap.size u5 ((l.take k).map oQ):=bD HT.out hb5
   have hbr4:Below w2.heap.size w2 w4:=hbr.trans (hb5.mono hbr.size)
   have hlk:((l.take k).map oQ).length=k:=by rw[bH,cu];omega
   obtain⟨t,ht⟩:∃ t,oQ x=t:=⟨_,rfl⟩
   have HTX:Hid (oQ x=t):=ht
   rw[ht]
   clear hcall hb4 hb5 q0 q1 q2 q3 q4 q5 q6 q7 q8 q9 ht
   obtain⟨L,hL⟩:∃ L,(l.take k).map oQ=L:=⟨_,rfl⟩
   rw[hL] at hT4 hlk
   have HLL:Hid ((l.take k).map oQ=L):=hL
   unfold Cb at hT4
   rw[hlk] at hT4
   have HLK :Hid _:= hlk
   go_wp2_with (at_builtin;refine fC _ rfl _ _ 55 rfl w2.heap.size 9 i0 (.string ⟨#[]⟩) 1 16 Tryz.underlying55 hi hz0 hz1 hz2 rfl (by decide) _ _ _ rfl (rH hT4 _) ⟨w4.heap.size,0,none⟩ 1 1 [.string t] rfl rfl (Lease.A3 _) (by intro u hu;simp at hu;subst hu;rfl) ?c3 ?c4 ?c5 ?_)
   case c3=>unfold maxLen;omega
   case c4=>omega
   case c5=>have:=hbr4.size;simp;omega
   intro v' w5 hown' hgrow _
   have R:= Cb.e (wr:=w4) (v:=u5) (by unfold Cb;rw[HLK.out];exact hT4) hbr4 hbr4.size (by rw[HLK.out];exact hown') hgrow
   have R2:Hid (Cb w5 w2.heap.size v' ((l.take (k+1)).map oQ)∧Below w2.heap.size w2 w5):=by
    unfold Hid
    rw[bF hlt,dQ]
    show Cb w5 w2.heap.size v' ((l.take k).map oQ++[oQ (l[k]'hlt)])∧_
    rw[HX.out,HTX.out,HLL.out]
    exact R
   go_wp2_with fail
   go_roundw
   case rel=>exact⟨k+1,by omega,by go_num,R2.out.1,R2.out.2⟩
   case measure=>simp[intOf];omega
  ·obtain rfl:k=l.length:=by omega
   have hltz:¬ (l.length:Int)<(l.length:Int):=by omega
   rw[gz] at hT
   have hjoin:Calls Tryz.prog 148 #[u5,.string ⟨#[44,32]⟩] wr fun e w'=>e = .returned (.string ⟨(Lib.join (l.map fun e=>(oQ e).data.toList) [44,32]).toArray⟩)∧Below wr.heap.size wr w':=by
    obtain⟨L,hL⟩:∃ L,l.map oQ=L:=⟨_,rfl⟩
    have hLl:L.length=l.length:=by rw[← hL,bH]
    have e1:(l.map fun e=>(oQ e).data.toList)=L.map (·.data.toList):=by rw[← hL,lK];rfl
    rw[e1]
    rw[hL] at hT
    by_cases h0:L = []
    ·subst h0
     rcases hT.2 with ⟨rfl,_⟩|⟨g,cap,cur,rfl,_⟩
     ·refine(Tryz.ae none 0 ⟨#[44,32]⟩ wr).mono ?_
      rintro e w' ⟨rfl,rfl⟩
      exact⟨rfl,au _ _⟩
     ·refine(Tryz.ae (some ⟨g,0,none⟩) cap ⟨#[44,32]⟩ wr).mono ?_
      rintro e w' ⟨rfl,rfl⟩
      exact⟨rfl,au _ _⟩
    ·have hpos:= List.length_pos_iff.2 h0
     rcases hT.2 with ⟨_,h1⟩|⟨g,cap,cur,rfl,_,hgh,hcap,_⟩
     ·rw[h1] at hpos;cases hpos
     ·have hT':= hT
      refine Tryz.aq g 0 cap L (sep:=⟨#[44,32]⟩) wr (fun j x hx=>?_) ((bv hT g rfl).2) (by omega) ?_ ?_
      ·rw[cC,b9,bJ hT' j (by have:=(aT.1 hx).1;omega),di,hx]
       rfl
      ·first|exact hcap|omega
      ·rw[← hL]
       exact Yt HV.out (by omega)
   have HW :Hid _:= hb2.trans (hbr.mono hb2.size)
   go_wp2_with fail
   refine hjoin.mono ?_
   rintro e w4 ⟨rfl,hb4⟩
   have HF :Hid _:= HW.out.trans (hb4.mono HW.out.size)
   go_wp2_with fail
   go_ret
   exact⟨rfl,HF.out⟩
def Fl(ws:List ByteArray)(s:Wd):mQ:=rE ws s (.inl ⟨(Lib.join (s.ba.map λe=>(oQ e).data.toList) [44,32]).toArray⟩,s)
def aa6{M:Bg}{v:Bg}(h:Ds B N d M w A s C)(g:wQ w v ws)(m:C<=800000000)(a:∀e∈s.ba,KO e):
  Calls prog 81 #[tp d,v] w (ui B N d M w (C+3) (Fl ws s)):=by
 obtain⟨ao,c,rfl,_,_⟩:=g.b;unfold Fl rE;by_cases h0:ws.length=0;rw[h0,az rfl];refine(KX ao c h.b h.j a (by have:=h.h.Z;omega)).mono ?_;rintro e n⟨rfl,i⟩;exact ui.H h (by omega) rfl i
 .rw[ax h0];have k:=oR ao c ws.length 0 w (by omega);have l:Hid (ui B N d M w (C+3) (.inr 3,s) (cn 3) w):=ui.e h (by omega) rfl (au _ _)

  go_enter func81,ntmps81;go_wp2_with fail
  apply k.mono;rintro e w2⟨rfl,f⟩;rw[f]

  go_wp2_with fail
  exact⟨rfl,l.out⟩
def dF:List (ByteArray×Nat):=[(⟨#[97,103,97,105,110]⟩,79),(⟨#[98,101,103,105,110]⟩,80),(⟨#[99,97,108,108,115]⟩,81),(⟨#[99,97,108,109]⟩,82),(⟨#[99,114,97,115,104]⟩,83),(⟨#[100,101,108,105,118,101,114]⟩,84),(⟨#[102,97,105,108,115]⟩,85),(⟨#[103,111,101,115]⟩,86),(⟨#[104,101,108,112]⟩,87),(⟨#[108,111,115,101]⟩,88),(⟨#[109,97,110,121]⟩,89),(⟨#[114,101,97,100]⟩,90),(⟨#[114,101,98,111,114,110]⟩,91),(⟨#[114,101,115,116,97,114,116]⟩,92),(⟨#[115,104,111,114,116]⟩,93),(⟨#[116,119,105,99,101]⟩,94),(⟨#[117,112]⟩,95),(⟨#[118,97,108,117,101]⟩,96),(⟨#[119,114,105,116,101]⟩,97)]
def tS(d:Nat):List (ByteArray×Nat)->Nat->List MapEntry
 | [],_=>[]
 |(x,f)::t,i=>⟨.string x,.func (.func f) #[tp d] #[],i⟩::tS d t (i+1)
def iQ:List (ByteArray×Nat)->ByteArray->Option Nat
 | [],_=>none
 |(y,f)::t,x=>if x=y then some f else iQ t x
def DD(x y:Bh):(x==y)=decide (x=y):=by
 have e:(x==y)=(x.data==y.data):=rfl;rw[e];by_cases h:x=y;subst h;simp;have a:¬x.data=y.data:=λq=>h (by cases x;cases y;exact bY ByteArray.mk q);rw[aK h];simpa using a
def IJ(d:Nat)(x:Bh):∀(l:List (Bh×Nat)) (i j:Nat),∃n,Instr.findNow .string (.string x) (tS d l i) j=some ((iQ l x).map λf=>(n,.func (.func f) #[tp d] #[]))
 | [],_,_=>⟨0,rfl⟩
 |(y,f)::t,i,j=>by
  by_cases h:x=y;subst h;refine⟨j,?_⟩;have e:Instr.sameNow .string (.string x) (.string x)=some true:=by
   show some (x==x)=_;rw[DD,aR rfl]
  simp only[tS,Instr.findNow,e,iQ,dC];rfl;obtain⟨n,a⟩:=IJ d x t (i+1) (j+1);refine⟨n,?_⟩;have e:Instr.sameNow .string (.string x) (.string y)=some false:=by
   show some (x==y)=_;rw[DD,aK h]
  simp only[tS,Instr.findNow,e,iQ,ax h];exact a
def Cl{P:Bo}{d:Array Oper}{rest:List Oper}{o:Oper}{a:Act}{Q:Exit->Act->A1->Prop}(n:o.guard=none){m x v:Operand}{t:Bi}(h:o.op=Op.insert t m x v){k e:Bi}(p:P.underlying t=some (.map k e))(i:P.underlying k=some .string){b:Nat}{g:Array MapEntry}{c:Nat}(q:a.eval m=.map (some b))(j:w.heap[b]?=some (.map g c)){s:Bh}(r:a.eval x=.string s){val:Bg}(u:a.eval v=val)(y:Instr.findNow .string (.string s) g.toList 0=some none)(z:∀w',w'.heap[b]?=some (.map (g.push ⟨.string s,val,c⟩) (c+1))->Below b w w'->w'.heap.size=w.heap.size->wpList P d Q rest (a.put o.dst undef) w'):wpList P d Q (o::rest) a w:=by
 refine wpList_plain n λK l=>?_;have f:(Instr.mapUpdate t (.map (some b)) (.string s) val).run P w=.ok () (w.putObj b (.map (g.push ⟨.string s,val,c⟩) (c+1))):=by
  simp[Instr.mapUpdate,jm p,yK j,(MapKept.run_checkKey (k:=.string s) i (by simp[MapKept.IsKey]) false 9999),MapKept.run_findKey i y,MapKept.run_setObj_map _ j,Result.andThen,World.putObj]
 unfold Oper.wp;simp[execOp,h,q,r,u,f,Result.andThen];refine l _ _ (z _ (World.putObj_heap_same (am.1 j).1) ⟨rfl,rfl,rfl,by simp,λk i=>World.putObj_heap_other (by omega)⟩ (by simp))
def ic(w:World)(m d:Nat):Prop:=w.heap[m]?=some (.map (tS d dF 0).toArray 19)
def s0:Wd:=(Wd.h 20 8 0 2).start
def QQ(h:oD B w):
  Calls prog 45 #[] w λe b=>∃A,e=.returned (tp w.heap.size)/\Ds B (w.heap.size+2) w.heap.size (.map (some (w.heap.size+1))) b A s0 0/\ic b (w.heap.size+1) w.heap.size/\Below w.heap.size w b:=by
 have R:∀(fn:Fn) (first u:Array Bg) (w:A1),(Instr.makeFunc fn first u).run prog w=.ok (.func fn first u) w:=λ_ _ _ _=>rfl;have v:=@run_makeMap prog;go_enter func45,ntmps45;go_upto_region 2 with fail
 generalize s:w.alloc (.cells #[.pointer none,.map none] 168)=w1;have D:Below w.heap.size w w1:=by rw[<-s];exact(au _ _).alloc (aa _) _
 have f:w1.heap.size=w.heap.size+1:=by rw[<-s];simp
 have c0:w1.cell? (aA w.heap.size 0)=some (.pointer none):=by rw[<-s];simp
 have c1:w1.cell? (aA w.heap.size 1)=some (.map none):=by rw[<-s];simp
 have cf:∀i,w1.frozen? (aA w.heap.size i)=false:=λi=>by rw[<-s];simp
 have S:rD w1 w.heap.size 168:=by rw[<-s];exact⟨_,_,bw w _⟩

 have c:(w1.alloc (.map #[] 0)).heap[w.heap.size+1]?=some (.map #[] 0):=by rw[<-f];exact World.alloc_heap_new w1 _
 have m:Below (w.heap.size+1) w1 (w1.alloc (.map #[] 0)):=(au _ _).alloc (by omega) _;have E:Hid ((w1.alloc (.map #[] 0)).heap.size=w.heap.size+2):=by rw[Hid,World.size_alloc];omega
 have L:(Instr.makeMap 166 none).run prog w1=.ok (.map (some (w.heap.size+1))) (w1.alloc (.map #[] 0)):=by rw[v,f]
 have T:Hid (w1.heap.size=w.heap.size+1):=f;have d1:=(m.cell (p:=(aA w.heap.size 1)) (by dsimp only;omega)).trans c1;have M:=(m.frozen (p:=(aA w.heap.size 1)) (by dsimp only;omega)).trans (cf 1);clear v f;generalize w1.alloc (.map #[] 0)=w2 at *;go_wp2_with (refine Cl rfl rfl underlying166 underlying9 rfl c rfl rfl (by kernel_rfl) ?_;intro b d g z;replace m:=m.trans g;replace E:Hid (b.heap.size=w.heap.size+2):=z.trans E.out;replace c:=d;replace d1:=(g.cell (p:=(aA w.heap.size 1)) (oW _)).trans d1;replace M:=(g.frozen (p:=(aA w.heap.size 1)) (oW _)).trans M;clear g z d)
 have U:ic b (w.heap.size+1) w.heap.size:=c.trans (by kernel_rfl);have V:=(m.cell (p:=(aA w.heap.size 0)) (oW _)).trans c0;have F:∀y,y≠w.heap.size->(b.setCell (aA w.heap.size 1) (.map (some (w.heap.size+1)))).heap[y]?=b.heap[y]?:=λy t=>aX b (aA w.heap.size 1) _ y t;have N:(b.setCell (aA w.heap.size 1) (.map (some (w.heap.size+1)))).cell? (aA w.heap.size 0)=some (.pointer none):=(ak _ _ _ _ (by intro q;injection q with _ q;cases q)).trans V;have W:(b.setCell (aA w.heap.size 1) (.map (some (w.heap.size+1)))).cell? (aA w.heap.size 1)=some (.map (some (w.heap.size+1))):=ay _ _ _ d1;have O:∀i,(b.setCell (aA w.heap.size 1) (.map (some (w.heap.size+1)))).frozen? (aA w.heap.size i)=false:=λi=>by
  rw[bb];exact(m.frozen (p:=(aA w.heap.size i)) (oW _)).trans (cf i)
 have et:rD (b.setCell (aA w.heap.size 1) (.map (some (w.heap.size+1)))) w.heap.size 168:=Wal.db (S.e (m.block _ (oW _)));have X:ic (b.setCell (aA w.heap.size 1) (.map (some (w.heap.size+1)))) (w.heap.size+1) w.heap.size:=(F _ (by omega)).trans U;have Y:(b.setCell (aA w.heap.size 1) (.map (some (w.heap.size+1)))).heap.size=w.heap.size+2:=by rw[nJ];exact E.out
 have P:Below w.heap.size w (b.setCell (aA w.heap.size 1) (.map (some (w.heap.size+1)))):=(D.trans (m.mono (du _))).setCell (p:=(aA w.heap.size 1)) (aa _) _;generalize b.setCell ⟨w.heap.size,1,none⟩ (.map (some (w.heap.size+1)))=w3 at *;have C:=IV 20 8 0 2 w3 (by omega) (by omega) (by omega) (by omega) (by omega) (by omega) (by omega);have Z:Hid (w3.heap.size=w.heap.size+2):=Y;have HG:Hid (∀A w4,bM w4 A s0->Below w3.heap.size w3 w4->FX w3.heap.size w4 A s0->Ds B (w.heap.size+2) w.heap.size (.map (some (w.heap.size+1))) (w4.setCell (aA w.heap.size 0) (tp A.Q)) A s0 0/\ic (w4.setCell (aA w.heap.size 0) (tp A.Q)) (w.heap.size+1) w.heap.size/\Below w.heap.size w (w4.setCell (aA w.heap.size 0) (tp A.Q))):=λA w4 x a G=>by
  have l:w.heap.size<w3.heap.size:=by omega
  have o:∀y,y≠w.heap.size->(w4.setCell (aA w.heap.size 0) (tp A.Q)).heap[y]?=w4.heap[y]?:=λy t=>aX w4 (aA w.heap.size 0) _ y t;have H:rD w4 w.heap.size 168:=et.e (a.block _ l);let ⟨p1,p2⟩:=x.ac (w':=w4.setCell (aA w.heap.size 0) (tp A.Q)) (by simp) (λy t=>o y (by
   intro e;rw[e]at t;rcases t with q|q
   exact x.ab H (by decide) (by decide) (by decide) (by decide) (by decide) q;exact H.j q (by decide) rfl))
  have I:f9 s0 0:=Bk.j (tob:=20) (tv:=8) (td:=0) (n:=2) (by decide) 0;have r:Below w.heap.size w (w4.setCell (aA w.heap.size 0) (tp A.Q)):=(P.trans (a.mono P.size)).setCell (p:=(aA w.heap.size 0)) (aa _) _;refine⟨⟨⟨Wal.db H,ay _ _ _ ((a.cell (p:=(aA w.heap.size 0)) l).trans N),(ak _ _ _ _ (by intro q;injection q with _ q;cases q)).trans ((a.cell (p:=(aA w.heap.size 1)) l).trans W),p1⟩,λi=>?_,λk hk=>by have:=G k (p2 k hk);omega,h.on r,h.h,by omega,?_,I⟩,?_,r⟩;rw[bb];exact(a.frozen (p:=(aA w.heap.size i)) l).trans (O i);rw[nJ];have:=a.size;omega;unfold ic;rw[o _ (by omega),a.block _ (by omega)];exact X
 have J:Hid (∀w4,Below w3.heap.size w3 w4->w4.cell? (aA w.heap.size 0)=some (.pointer none)/\w4.frozen? (aA w.heap.size 0)=false):=λw4 a=>⟨(a.cell (p:=(aA w.heap.size 0)) (by dsimp only;omega)).trans N,(a.frozen (p:=(aA w.heap.size 0)) (by dsimp only;omega)).trans (O 0)⟩;apply C.mono;rintro e w4⟨A,rfl,x,a,G⟩;let ⟨g0,g1⟩:=J.out w4 a
 have HF:=HG.out A w4 x a G;have K :Hid _:= HF;go_wp2_with fail
 go_ret;exact⟨A,rfl,K.out⟩
def kr(f:Nat)(ws:List ByteArray)(s:Wd):mQ:=
 if f=81 then Fl ws s
 else if f=82 then yu ws s
 else if f=90 then I1 ws s
 else if f=97 then pu ws s
 else (.inr 3,s)
def qT(r:Nat):Bool:=r==32
def iE(a:ByteArray):List ByteArray:=Lib.goFieldsP qT a
def lI(a:ByteArray)(s:Wd):mQ:=match iE a with
 | []=>(.inl ⟨#[111,107]⟩,s)
 |x::ws=>match iQ dF x with
  |none=>(.inr 3,s)
  |some f=>kr f ws s
def nu(a:ByteArray)(s:Wd):ByteArray:=match (lI a s).1 with
 |.inl t=>t
 |.inr n=>jY n
def rr(f:Nat)(ws:List ByteArray):Nat:=if f=82/\(cm ws 1).isSome=true then 3600000 else 3
def oh(a:ByteArray):Nat:=match iE a with
 | []=>3
 |x::ws=>match iQ dF x with
  |none=>3
  |some f=>rr f ws
def Ip(s:Bh)(h:pos<s.size):pos+(Utf8.decode s pos).2<=s.size:=by
 rw[Lib.decode_at];rcases Lib.decodeN_shape (s.size-pos) (s.get! pos).toNat (s.get! (pos+1)).toNat (s.get! (pos+2)).toNat (s.get! (pos+3)).toNat with⟨_,e⟩|⟨_,_,_,_,e⟩|⟨_,_,_,_,_,_,e⟩|⟨_,_,_,_,_,_,_,e⟩|e<;>rw[e]<;>dsimp only<;>omega
def Jn(l:List (Nat×Nat)):Nat:=(l.map λx=>x.2-x.1+1).sum
def Jj(l:List (Nat×Nat))(a b:Nat):Jn (l++[(a,b)])=Jn l+(b-a+1):=by simp[Jn]
def Yb(pos:Nat)(r:List (Nat×Nat)×Option Nat):Prop:=match r.2 with
 |some a=>Jn r.1<=a/\a<=pos
 |none=>Jn r.1<=pos
def Yb.e{q:Nat}{r:List (Nat×Nat)×Option Nat}(h:Yb pos r)(b:pos<=q):Yb q r:=by
 let ⟨l,c⟩:=r
 cases c with
 |none=>exact aP h b
 |some a=>exact⟨h.1,aP h.2 b⟩
def qh{p:Nat->Bool}{s:Bh}:∀(f pos:Nat) (d:Option Nat) (b:List (Nat×Nat)),pos<=s.size->Yb pos (b,d)->Yb s.size (Lib.spansFromP p s f pos d b)
 |0,pos,d,b,j,h=>by
  unfold Lib.spansFromP;exact h.e j
 |f+1,pos,d,b,j,h=>by
  by_cases c:pos<s.size;have k:=Lib.decode_width_pos s pos c;have i:=Ip s c;unfold Lib.spansFromP;rw[az c];cases hb:p (Utf8.decode s pos).1 with
  |true=>
   rw[az rfl];cases d with
   |some a=>
    have g:Jn b<=a/\a<=pos:=h;exact qh f _ none _ i (by show Jn (b++[(a,pos)])<=_;rw[Jj];omega)
   |none=>
    have g:Jn b<=pos:=h;exact qh f _ none _ i (by show Jn b<=_;omega)
  |false=>
   rw[ax (by decide)];cases d with
   |some a=>
    have g:Jn b<=a/\a<=pos:=h;exact qh f _ (some a) _ i ⟨g.1,by omega⟩
   |none=>
    have g:= h;exact qh f _ (some pos) _ i ⟨g,by omega⟩
  rw[Lib.spansFromP_end p s (f+1) pos d b c];exact h.e j
def Jc(p:Nat->Bool)(s:Bh):Jn (Lib.spansOfP p s)<=s.size+1:=by
 have h:=qh (p:=p) (s:=s) s.size 0 none [] (jx _) (jx _);unfold Lib.spansOfP;generalize Lib.spansFromP p s s.size 0 none []=r at h;obtain⟨l,b⟩:=r;cases b with
 |some a=>
  have c:Jn l<=a/\a<=s.size:=h;show Jn (l++[(a,s.size)])<=_;rw[Jj];omega
 |none=>
  have c:Jn l<=s.size:=h;show Jn l<=_;omega
def UR(s:Bh)(a b:Nat):(s.extract a b).size<=b-a:=by
 rw[YN];omega
def xO(a:Bh):((iE a).map λx=>x.size+1).sum<=a.size+1:=by
 refine aP ?_ (Jc qT a);unfold iE Lib.goFieldsP Jn;generalize Lib.spansOfP qT a=l;induction l with
 |nil=>exact aa _
 |cons x t b=>
  have h:=UR a x.1 x.2;simp only[cE,List.sum_cons];omega
def Q8(a:Bh):(iE a).length<=a.size+1:=by
 refine aP ?_ (xO a);generalize iE a=l;induction l with
 |nil=>exact aa _
 |cons x t b=>simp;omega
def LZ(a:Bh):∀x∈iE a,x.size<=a.size:=by
 intro x b;have h:=xO a;have:x.size+1<=((iE a).map λx=>x.size+1).sum:=by
  generalize iE a=l at b;induction l with
  |nil=>cases b
  |cons y t c=>
   simp;rcases bN.1 b with rfl|q
   omega;have:=c q;omega
 omega
end Wld
end Go.Proofs.YtbebfliimjjohabGreatDoor
