/- Parts of the proof. -/
import Derived.Test.YtbebfliimjjohabGreatDoorM38
set_option maxRecDepth 100000
set_option maxHeartbeats 8000000
set_option linter.all false
open Go.Proofs.Tryz
namespace Go.Proofs.YtbebfliimjjohabGreatDoor open Gen (la on tk tw tz)
open Go.RowKit Go.Maps
open Cache (tp aZ)
open Lease (de fN)
namespace Wld
variable{z x:DS}{Post:Ending->Ba->Prop}{n y:Int}{X:Int->Wd->Prop}{ws:List DS}{l:List Int}{d f g B c C N C':Nat}{P:Prop}{D:Type}{A:Wa}{s s':Wd}{w w3 w4 w2:Ba}{r:lQ}
def iS(w:Ba):FF w w.drew:=(au _ _).drew
def vo(h:cD ws 1=some l):∃a,l=[a]:=by
 unfold cD at h;split at h;rename_i c;have b:=kc _ _ h;match l,b with
 | [a],_=>exact⟨a,rfl⟩
 | [],b=>simp at b;omega
 |_::_::_,b=>simp at b;omega
 cases h
def aa4(f g:Nat)(z:ByteArray):Prop:=(f,g,z)=(79,25,⟨#[97,103,97,105,110]⟩)\/(f,g,z)=(84,26,⟨#[100,101,108,105,118,101,114]⟩)\/(f,g,z)=(88,27,⟨#[108,111,115,101]⟩)\/(f,g,z)=(94,28,⟨#[116,119,105,99,101]⟩)\/(f,g,z)=(91,32,⟨#[114,101,98,111,114,110]⟩)
def To{q:Nat}(G:aa4 f g z)(v:Dv)(ws:List DS)(R R':Int->Ba->Prop)(H:d<w.heap.size)(c0:cC w (aA d 0) (tp q))(m:∀w1,FF w w1->Calls prog 145 #[v,iI 1] w1 (gN ws 1 w1))(u:∀w2 a,FF w w2->cD ws 1=some [a]->Calls prog g #[tp q,iI a] w2 (λe w3=>∃n,e=.returned (eV n)/\R n w3))(I:∀n w3,R n w3->cC w3 (aA d 0) (tp q))(x:∀n w3,R n w3->Calls prog 144 #[eV n] w3 (λe w4=>e=(if n=0 then .returned (.tuple #[]) else cH n)/\R' n w4))(y:cD ws 1=none->∀w2,FF w w2->Post (cH 3) w2)(o:∀n w4,R' n w4->Post (if n=0 then .returned (.string z) else cH n) w4):
  Calls prog f #[tp d,v] w Post:=by
 have J :Hid _:= u;have L :Hid _:= x;have M :Hid _:= I;have N :Hid _:= y;have O :Hid _:= o;rcases G with h|h|h|h|h<;>cases h
 all_goals
  go_in;go_upto_region 1 with fail
  refine Gen.start (S:=λP=>cC P (aA d 0) (tp q)) bt c0 (λqH=>?_);refine tz ?_;refine on 5 λK b=>?_;go_simp;refine(m w.drew (iS w)).mono ?_;rintro e w2⟨E,(⟨i,rfl⟩|⟨l,T,i,rfl,A⟩)⟩
  .have j :Hid _:= N.out i w2 ((iS w).trans E);dsimp only;first|exact j.out|exact⟨rfl,j.out⟩|skip
  obtain⟨a,rfl⟩:=vo i;have r:= (iS w).trans E;have B:= (r.cell (p:=(aA d 0)) H).trans c0;obtain⟨ao,cc,C,c⟩:=A.e;obtain⟨g,Q,k⟩:=c aY;subst Q;subst C;have U:= k 0 aY;dsimp only;refine b.out _ _ B (λqH=>?_);try simp
  refine on 6 λK b=>?_;go_simp;refine b.out _ _ B (λqH=>?_);try simp
  refine on 7 λK b=>?_;go_simp;refine b.out _ _ B (λqH=>?_);try simp
  refine on 8 λK b=>?_;go_simp;refine(J.out w2 a r i).mono ?_;rintro e w3⟨n,rfl,F⟩;dsimp only;refine b.out _ _ (M.out n w3 F) (λqH=>?_);try simp
  refine la 9 λK b=>?_;go_simp;refine(L.out n w3 F).mono ?_;rintro e w4⟨s,D⟩;have t:=O.out n w4 D;by_cases i:n=0
  .rw[aH i]at s t;subst s;have j :Hid _:= t;dsimp only;refine b.out _ _ ?_;go_wp2;exact j.out
  rw[ay i]at s t;subst s;have j :Hid _:= t;dsimp only;first|exact j.out|exact⟨rfl,j.out⟩
def XB(d:Nat)(w w':World):Prop:=w'.cell? ⟨d,0,none⟩=w.cell? ⟨d,0,none⟩/\∀(X:Nat) (a:Array Value) (t:TypeId) (f:Nat×Nat),w.heap[X]?=some (.cells a t f)->(t=3\/t=9)->w'.heap[X]?=w.heap[X]?
def XB.e{w':Ba}{v:Dv}(h:XB d w w')(b:de w B v l):de w' B v l:=aZ b λg a=>by
 rcases b.2 with⟨rfl,_⟩|⟨j,c,f,rfl,k,i,_⟩
 simp[Value.ownBlock]at a;simp[Value.ownBlock]at a;subst a;exact h.2 _ _ _ _ i (.inl rfl)
def vp(h:cD ws 2=some l):∃a b,l=[a,b]:=by
 unfold cD at h;split at h;rename_i d;have c:=kc _ _ h;match l,c with
 | [a,b],_=>exact⟨a,b,rfl⟩
 | [],c=>simp at c;omega
 | [_],c=>simp at c;omega
 |_::_::_::_,c=>simp at c;omega
 cases h
def OX(h:cD ws 4=some l):∃a b c d,l=[a,b,c,d]:=by
 unfold cD at h;split at h;rename_i f;have e:=kc _ _ h;match l,e with
 | [a,b,c,d],_=>exact⟨a,b,c,d,rfl⟩
 | [],e=>simp at e;omega
 | [_],e=>simp at e;omega
 | [_,_],e=>simp at e;omega
 | [_,_,_],e=>simp at e;omega
 |_::_::_::_::_::_,e=>simp at e;omega
 cases h
def ka{v:Dv}(h:de w B v l)(b:0<l.length):∃g c,v=.slice (some (aA g 0)) l.length c/\∀i (f:i<l.length),cC w (aA g i) (iI l[i]):=by
 obtain⟨ao,c,rfl,hc⟩:=h.e;let ⟨g,d,a⟩:=hc b
 subst d;exact⟨g,c,rfl,a⟩
def Pd{q:Nat}{v:Dv}(R R':Int->Ba->Prop)(F:d<w.heap.size)(c0:cC w (aA d 0) (tp q))(h:Calls prog 145 #[v,iI 2] w (gN ws 2 w))(s:∀w2 a b,FF w w2->cD ws 2=some [a,b]->Calls prog 16 #[tp q,iI a,iI b] w2 (λe w3=>(∃n,e=.returned (eV n)/\R n w3)/\XB d w2 w3))(t:∀n w3,R n w3->Calls prog 144 #[eV n] w3 (λe w4=>e=(if n=0 then .returned (.tuple #[]) else cH n)/\R' n w4))(u:cD ws 2=none->∀w2,FF w w2->Post (cH 3) w2)(i:∀n w4,R' n w4->Post (if n=0 then .returned (.string ⟨#[114,101,97,100]⟩) else cH n) w4):
  Calls prog 90 #[tp d,v] w Post:=by
 have G :Hid _:= s;have H :Hid _:= t;have I :Hid _:= u;have J :Hid _:= i;go_in;go_wp2_with fail
 apply h.mono;rintro e w2⟨x,(⟨f,rfl⟩|⟨l,O,f,rfl,j⟩)⟩
 .have k :Hid _:= I.out f w2 x;go_wp2;exact⟨rfl,k.out⟩
 obtain⟨a,b,rfl⟩:=vp f;have y:= x.drew;have D:= (x.cell (p:=(aA d 0)) F).trans c0;obtain⟨g,cc,rfl,c⟩:=ka j aY;have L:= c 0 aY;have z:= c 1 aY;have M :Hid _:= j;go_upto_region 2 with fail
 refine Gen.start (S:=λA=>A.cell? ⟨d,0,none⟩=some (tp q)/\A.cell? ⟨g,0,none⟩=some (.int .i64 a)/\A.cell? ⟨g,1,none⟩=some (.int .i64 b)) bt ⟨D,L,z⟩ (λqH=>?_);refine tz ?_;refine on 10 λK B=>?_;go_simp;apply (G.out w2.drew a b y f).mono;rintro e w3⟨⟨n,rfl,N⟩,E⟩;have s3:= E.1.trans D;have m:=XB.e (w:=w2.drew) E M.out

 refine B.out _ _ ⟨s3,by rw[bC m 0 aY];rfl,by rw[bC m 1 aY];rfl⟩ (λqH=>?_)

 refine la 11 λK B=>?_;go_simp;apply (H.out n w3 N).mono;rintro e w4⟨o,C⟩;have r:=J.out n w4 C;by_cases f:n=0
 .rw[aH f]at o r;subst o;have k :Hid _:= r

  apply B.out _ _;go_wp2;exact k.out
 rw[ay f]at o r;subst o;have k :Hid _:= r

 exact⟨rfl,k.out⟩
def JJ{q:Nat}{v:Dv}(t:d<w.heap.size)(c0:cC w (aA d 0) (tp q))(f:Calls prog 145 #[v,iI 2] w (gN ws 2 w))(i:∀w2 a b,FF w w2->cD ws 2=some [a,b]->Calls prog 11 #[tp q,iI a,iI b] w2 (λe w3=>e=.returned (.tuple #[])/\Post (.returned (.string ⟨#[102,97,105,108,115]⟩)) w3))(j:cD ws 2=none->∀w2,FF w w2->Post (cH 3) w2):
  Calls prog 85 #[tp d,v] w Post:=by
 have u :Hid _:= i;have x :Hid _:= j;go_in;go_wp2_with fail
 refine f.mono ?_;rintro e w2⟨k,(⟨h,rfl⟩|⟨l,C,h,rfl,m⟩)⟩
 .have n :Hid _:= x.out h w2 k;go_wp2;exact⟨rfl,n.out⟩
 obtain⟨a,b,rfl⟩:=vp h;have o:= k.drew;have y:= (k.cell (p:=(aA d 0)) t).trans c0;obtain⟨g,cc,rfl,c⟩:=ka m aY;have z:= c 0 aY;have r:= c 1 aY;go_upto_region 2 with fail
 refine Gen.start (S:=λs=>cC s (aA d 0) (tp q)/\cC s (aA g 0) (iI a)/\cC s (aA g 1) (iI b)) bt ⟨y,z,r⟩ (λqH=>?_);refine tz ?_;refine la 10 λK A=>?_;go_simp;refine(u.out w2.drew a b o h).mono ?_;rintro e w3⟨rfl,B⟩;have n :Hid _:= B;dsimp only;refine A.out _ _ ?_;go_wp2;exact n.out
def OH{q:Nat}{ao:Option Addr}(R R':Int->Ba->Prop)(y:d<w.heap.size)(c0:cC w (aA d 0) (tp q))(b:Calls prog 145 #[.slice ao ws.length c,iI ws.length] w.drew (gN ws ws.length w.drew))(o:∀w2 j l B,FF w w2->cD ws ws.length=some l->de w2 B j l->Calls prog 37 #[tp q,j] w2 (λe w3=>(∃n,e=.returned (eV n)/\R n w3)/\XB d w2 w3))(r:∀n w3,R n w3->Calls prog 144 #[eV n] w3 (λe w4=>e=(if n=0 then .returned (.tuple #[]) else cH n)/\R' n w4))(s:cD ws ws.length=none->∀w2,FF w w2->Post (cH 3) w2)(f:∀n w4,R' n w4->Post (if n=0 then .returned (.string ⟨#[103,111,101,115]⟩) else cH n) w4):
  Calls prog 86 #[tp d,.slice ao ws.length c] w Post:=by
 have z :Hid _:= o;have A :Hid _:= r;have C :Hid _:= s;have D :Hid _:= f;go_in;go_upto_region 1 with fail
 refine Gen.start (S:=λE=>cC E (aA d 0) (tp q)) bt c0 (λqH=>?_);refine tz ?_;refine on 7 λK g=>?_;go_simp;refine b.mono ?_;rintro e w2⟨v,(⟨a,rfl⟩|⟨l,j,a,rfl,t⟩)⟩;have h :Hid _:= C.out a w2 ((iS w).trans v);dsimp only;exact⟨rfl,h.out⟩;have i:= (iS w).trans v;have x:= (i.cell (p:=(aA d 0)) y).trans c0;dsimp only;refine g.out _ _ x (λqH=>?_);try simp
 refine on 8 λK g=>?_;go_simp;refine(z.out w2 j l _ i a t).mono ?_;rintro e w3⟨⟨n,rfl,F⟩,G⟩;have s3:= G.1.trans x;dsimp only;refine g.out _ _ s3 (λqH=>?_);try simp
 refine la 9 λK g=>?_;go_simp;refine(A.out n w3 F).mono ?_;rintro e w4⟨k,u⟩;have m:=D.out n w4 u;by_cases a:n=0
 .rw[aH a]at k m;subst k;have h :Hid _:= m;dsimp only;refine g.out _ _ ?_;go_wp2;exact h.out
 rw[ay a]at k m;subst k;have h :Hid _:= m;dsimp only;exact⟨rfl,h.out⟩
def Kr{q i o:Nat}(ws:List DS)(R R':Int->Ba->Prop)(T:d<w.heap.size)(c0:cC w (aA d 0) (tp q))(U:3<=c)(j:∃cs f,w.heap[i]?=some (.cells cs 9 f))(V:cC w (aA i (o+2)) (.string x))(s:Calls prog 145 #[.slice (some (aA i o)) 2 c,iI 2] w (gN (ws.take 2) 2 w))(k:∀w2 a b,FF w w2->cD (ws.take 2) 2=some [a,b]->Calls prog 23 #[tp q,iI a,iI b,.string x] w2 (λe w3=>(∃n,e=.returned (eV n)/\R n w3)/\XB d w2 w3))(m:∀n w3,R n w3->Calls prog 144 #[eV n] w3 (λe w4=>e=(if n=0 then .returned (.tuple #[]) else cH n)/\R' n w4))(G:cD (ws.take 2) 2=none->∀w2,FF w w2->Post (cH 3) w2)(t:∀n w4,R' n w4->Post (if n=0 then .returned (.string ⟨#[119,114,105,116,101]⟩) else cH n) w4):
  Calls prog 97 #[tp d,.slice (some (aA i o)) 3 c] w Post:=by
 have W :Hid _:= k;have X :Hid _:= m;have Y :Hid _:= G;have Z :Hid _:= t;have H:=nG (some (aA i o)) c 3 w;go_in;go_wp2_with fail
 apply H.mono;rintro e w1⟨rfl,I⟩;rw[I];go_wp2_with fail
 apply s.mono;rintro e w2⟨u,(⟨r,rfl⟩|⟨l,v2,r,rfl,v⟩)⟩
 .have y :Hid _:= Y.out r w2 u;go_wp2;exact⟨rfl,y.out⟩
 obtain⟨a,b,rfl⟩:=vp r;have J:= u.drew;have Q:= (u.cell (p:=(aA d 0)) T).trans c0;have k:=W.out w2.drew a b J r;obtain⟨g,cc,rfl,h⟩:=ka v aY;have ha:= h 0 aY;have L:= h 1 aY;have HV :Hid _:= v;let ⟨cs,f,j⟩:=j
 have z:= (ar.1 j).1;have A:=(u.block i z).trans j;have B:= (u.cell (p:=(aA i (o+2))) z).trans V;go_upto_region 3 with fail
 refine Gen.start (S:=λD=>D.cell? ⟨d,0,none⟩=some (tp q)/\D.cell? ⟨g,0,none⟩=some (.int .i64 a)/\D.cell? ⟨g,1,none⟩=some (.int .i64 b)/\D.cell? ⟨i,o+2,none⟩=some (.string x)) bt ⟨Q,ha,L,B⟩ (λqH=>?_);refine tz ?_;refine on 13 λK M=>?_;go_simp;apply k.mono;rintro e w3⟨⟨n,rfl,hr⟩,N⟩;have s3:= N.1.trans Q;have C:=XB.e (w:=w2.drew) N HV.out;have O:= (aa (a:=⟨i,o+2,none⟩) (N.2 _ _ _ _ A (.inr rfl))).trans B;have m:=X.out n w3 hr

 refine M.out _ _ ⟨s3,by rw[bC C 0 aY];rfl,by rw[bC C 1 aY];rfl,O⟩ (λqH=>?_)

 refine la 14 λK M=>?_;go_simp;apply m.mono;rintro e w4⟨E,P⟩;have F:=Z.out n w4 P;by_cases r:n=0
 .rw[aH r]at E F;subst E;have y :Hid _:= F

  apply M.out _ _;go_wp2;exact y.out
 rw[ay r]at E F;subst E;have y :Hid _:= F

 exact⟨rfl,y.out⟩
def Kf(d:Nat){v:Dv}(R R':Int->Int->Ba->Prop)(h:Calls prog 145 #[v,iI 2] w (gN ws 2 w))(q:∀w2 a b,FF w w2->cD ws 2=some [a,b]->Calls prog 15 #[iI a,iI b] w2 (λe w3=>(∃n y,e=.returned (.tuple #[iI y,eV n])/\R n y w3)/\XB d w2 w3))(r:∀n y w3,R n y w3->Calls prog 144 #[eV n] w3 (λe w4=>e=(if n=0 then .returned (.tuple #[]) else cH n)/\R' n y w4))(s:cD ws 2=none->∀w2,FF w w2->Post (cH 3) w2)(i:∀n y w4,R' n y w4->n≠0->Post (cH n) w4)(u:∀y w4,R' 0 y w4->Calls prog 78 #[iI y] w4 (λe B=>∃t,e=.returned (.string t)/\Post (.returned (.string t)) B)):
  Calls prog 93 #[tp d,v] w Post:=by
 have E :Hid _:= q;have F :Hid _:= r;have G :Hid _:= s;have H :Hid _:= i;have I :Hid _:= u;go_in;go_wp2_with fail
 refine h.mono ?_;rintro e w2⟨C,(⟨f,rfl⟩|⟨l,P,f,rfl,j⟩)⟩
 .have k :Hid _:= G.out f w2 C;go_wp2;exact⟨rfl,k.out⟩
 obtain⟨a,b,rfl⟩:=vp f;have x:= C.drew;obtain⟨g,cc,rfl,c⟩:=ka j aY;have J:= c 0 aY;have z:= c 1 aY;have L :Hid _:= j;go_upto_region 2 with fail
 refine Gen.start (S:=λD=>D.cell? ⟨g,0,none⟩=some (.int .i64 a)/\D.cell? ⟨g,1,none⟩=some (.int .i64 b)) bt ⟨J,z⟩ (λqH=>?_);refine tz ?_;refine on 6 λK A=>?_;go_simp;refine(E.out w2.drew a b x f).mono ?_;rintro e w3⟨⟨n,y,rfl,M⟩,N⟩;have m:=XB.e (w:=w2.drew) N L.out;dsimp only;refine A.out _ _ ⟨by rw[bC m 0 aY];rfl,by rw[bC m 1 aY];rfl⟩ (λqH=>?_);try simp
 refine tz ?_;refine la 11 λK A=>?_;go_simp;refine A.out _ _ ?_;go_wp2_with fail
 refine(F.out n y w3 M).mono ?_;rintro e w4⟨p,o⟩;by_cases f:n=0
 .rw[aH f]at p;subst p;subst f;go_wp2_with fail
  refine(I.out y w4 o).mono ?_;rintro e B⟨t,rfl,O⟩;have k :Hid _:= O;go_wp2;exact k.out
 .rw[ay f]at p;subst p;have k :Hid _:= H.out n y w4 o f;go_wp2;exact⟨rfl,k.out⟩
def Jw(d:Nat){v:Dv}(R R':Int->Option Addr->Ba->Prop)(o:Calls prog 145 #[v,iI 4] w (gN ws 4 w))(j:∀w2 a b c k,FF w w2->cD ws 4=some [a,b,c,k]->Calls prog 22 #[.agg #[iI a,iI b,iI c],iI k] w2 (λe w3=>(∃n y,e=.returned (.tuple #[.pointer y,eV n])/\R n y w3)/\XB d w2 w3))(m:∀n y w3,R n y w3->Calls prog 144 #[eV n] w3 (λe w4=>e=(if n=0 then .returned (.tuple #[]) else cH n)/\R' n y w4))(z:cD ws 4=none->∀w2,FF w w2->Post (cH 3) w2)(p:∀n y w4,R' n y w4->n≠0->Post (cH n) w4)(A:∀y w4,R' 0 y w4->w4.frozen? (aA d 0)=false/\(∃u,cC w4 (aA d 0) u)/\Post (.returned (.string ⟨#[98,101,103,105,110]⟩)) (w4.setCell (aA d 0) (.pointer y))):
  Calls prog 80 #[tp d,v] w Post:=by
 have E :Hid _:= j;have F :Hid _:= m;have G :Hid _:= z;have H :Hid _:= p;have I :Hid _:= A;go_in;go_wp2_with fail
 refine o.mono ?_;rintro e w2⟨D,(⟨h,rfl⟩|⟨l,T,h,rfl,q⟩)⟩
 .have r :Hid _:= G.out h w2 D;go_wp2;exact⟨rfl,r.out⟩
 obtain⟨a,b,c,k,rfl⟩:=OX h;have B:= D.drew;have j:=E.out w2.drew a b c k B h;obtain⟨g,cc,rfl,f⟩:=ka q aY;have h0:= f 0 aY;have J:= f 1 aY;have L:= f 2 aY;have M:= f 3 aY;have N :Hid _:= q;go_upto_region 2 with fail
 refine Gen.start (S:=λt=>t.cell? ⟨g,0,none⟩=some (.int .i64 a)/\t.cell? ⟨g,1,none⟩=some (.int .i64 b)/\t.cell? ⟨g,2,none⟩=some (.int .i64 c)/\t.cell? ⟨g,3,none⟩=some (.int .i64 k)) bt ⟨h0,J,L,M⟩ (λqH=>?_);refine tz ?_;refine on 13 λK C=>?_;go_simp;refine j.mono ?_;rintro e w3⟨⟨n,y,rfl,O⟩,P⟩;have i:=XB.e (w:=w2.drew) P N.out;have m:=F.out n y w3 O;dsimp only;refine C.out _ _ ⟨by rw[bC i 0 aY];rfl,by rw[bC i 1 aY];rfl,by rw[bC i 2 aY];rfl,by rw[bC i 3 aY];rfl⟩ (λqH=>?_);try simp only[Act.put,ax,aJ,aI]
 refine tz ?_;refine la 18 λK C=>?_;go_simp;refine C.out _ _ ?_;go_wp2_with fail
 refine m.mono ?_;rintro e w4⟨x,s⟩;by_cases h:n=0
 .rw[aH h]at x;subst x;subst h;obtain⟨U,⟨u,V⟩,Q⟩:=I.out y w4 s;have r :Hid _:= Q;go_wp2;exact r.out
 .rw[ay h]at x;subst x;have r :Hid _:= H.out n y w4 s h;go_wp2;exact⟨rfl,r.out⟩
def Cz{q:Nat}{v:Dv}(t:d<w.heap.size)(c0:cC w (aA d 0) (tp q))(h:Calls prog 145 #[v,iI 1] w (gN ws 1 w))(m:∀w2 (a:Nat),FF w w2->cD ws 1=some [(a:Int)]->a<=200->Calls prog 12 #[tp q,iI a] w2 (λe w3=>e=.returned (.tuple #[])/\Post (.returned (.string ⟨#[99,97,108,109]⟩)) w3))(n:cD ws 1=none->∀w2,FF w w2->Post (cH 3) w2)(i:∀a w2,cD ws 1=some [a]->(a<0\/200<a)->FF w w2->Post (cH 2) w2):
  Calls prog 82 #[tp d,v] w Post:=by
 have u :Hid _:= m;have x :Hid _:= n;have s :Hid _:= i;go_in;go_wp2_with fail
 apply h.mono;rintro e w2⟨j,(⟨f,rfl⟩|⟨l,B,f,rfl,o⟩)⟩
 .have b :Hid _:= x.out f w2 j;go_wp2;exact⟨rfl,b.out⟩
 obtain⟨a,rfl⟩:=vo f;obtain⟨g,cc,rfl,c⟩:=ka o aY;have C:= c 0 aY;have D:= (j.cell (p:=(aA d 0)) t).trans c0;by_cases h0:a<0
 .have b :Hid _:= s.out a w2 f (.inl h0) j;have y:= aX h0;go_wp2;exact⟨rfl,b.out⟩
 .have y:= aK h0;by_cases r:200<a
  .have b :Hid _:= s.out a w2 f (.inr r) j;have z:= aX r;go_wp2;exact⟨rfl,b.out⟩
  .have z:= aK r;obtain⟨k,rfl⟩:∃k:Nat,a=k:=⟨a.toNat,ak⟩;go_wp2_with fail
   apply (u.out w2 k j f ak).mono;rintro e w3⟨rfl,A⟩;have b :Hid _:= A;go_wp2;exact b.out
def V41(w w4:World)(p:Nat):Prop:=w.heap.size<=p/\FF w w4/\cC w4 (aA p 0) (.string ⟨#[]⟩)/\cC w4 (aA p 1) (iI 0)/\(∀i,w4.frozen? (aA p i)=false)/\p<w4.heap.size
def V41.h(h:FF w w3):V41 w (w3.alloc (.cells #[.string ⟨#[]⟩,iI 0] 41)) w3.heap.size:=⟨h.size,h.trans (((au _ _).alloc (aj _) _).mono h.size),by unfold cC aA;simp,by unfold cC aA;simp,λ_=>by simp,by simp⟩
def V41.e{g:Ba}{p:Nat}:V41 w w4 p->FF w4 g->V41 w g p:=λ⟨a,b,c,d,e,f⟩ h=>⟨a,b.trans (h.mono b.size),(h.cell (p:=aA p 0) f).trans c,(h.cell (p:=aA p 1) f).trans d,λi=>(h.frozen (p:=aA p i) f).trans (e i),aN f h.size⟩
def abc{A B C E F G H:Type}{X Y:A->B->C->D->E->F->G->H->Prop}(k:(∀a b c d e f g h,X a b c d e f g h->Y a b c d e f g h)->P)(t:∀a b c d e f g h,X a b c d e f g h->Y a b c d e f g h):P:=k t
def abb{A B C E:Type}{X Y:A->B->C->D->E->Prop}(k:(∀a b c d e,X a b c d e->Y a b c d e)->P)(t:∀a b c d e,X a b c d e->Y a b c d e):P:=k t
def Ki{q:Nat}(v:Dv)(ws:List DS)(R:Int->DS->Int->Prop)(hd:d<w.heap.size)(c0:cC w (aA d 0) (tp q))(hnum:∀w1,FF w w1->Calls prog 145 #[v,iI 1] w1 (gN ws 1 w1))(hop:∀w2 a,FF w w2->cD ws 1=some [a]->Calls prog 152 #[tp q,iI a] w2 (λe w3=>(∃n dd y,e=.returned (.tuple #[.agg #[.string dd,iI y],eV n])/\R n dd y)/\FF w2 w3))(hch:∀n w3,FF w w3->Calls prog 144 #[eV n] w3 (λe w4=>e=(if n=0 then .returned (.tuple #[]) else cH n)/\FF w3 w4))(hno:cD ws 1=none->∀w2,FF w w2->Post (cH 3) w2)(hbad:∀n dd y w4,R n dd y->n≠0->FF w w4->Post (cH n) w4)(hsh:∀dd y w4,R 0 dd y->FF w w4->Calls prog 153 #[.agg #[.string dd,iI y]] w4 (λe w5=>∃t,e=.returned (.string t)/\Post (.returned (.string t)) w5)):
  Calls prog 96 #[tp d,v] w Post:=by
 have HM:Hid _:=hnum;have HO:Hid _:=hop;have HC:Hid _:=hch;have HN:Hid _:=hno;have HY:Hid _:=hbad;have HS:Hid _:=hsh;have HD:Hid (∀W,FF w W->W.cell? (aA d 0)=some (tp q)):=λW hb=>(hb.cell (p:=(aA d 0)) hd).trans c0;clear hnum hop hch hno hbad hsh;go_in;go_upto_region 1 with fail
 have hbw1:FF w w.drew:=iS w;refine Gen.start (S:=λw'=>w'.cell? (aA d 0)=some (tp q)/\True) bt ⟨c0,aB⟩ (λqH=>?_);generalize w.drew=w1 at *;refine tz ?_;apply abc (X:=λw4 p n dd y (_ _:Nat) (_:Int)=>V41 w w4 p/\R n dd y)
 .intro tl;apply abb (X:=λw3 p g (_:Nat) a=>V41 w w3 p/\cC w3 (aA g 0) (iI a)/\cD ws 1=some [a])
  .intro t8;refine tw 5 12 (λK hK=>?_) λK hK=>?_
   .go_simp;refine(HM.out w1 hbw1).mono ?_;rintro e w2⟨hb,(⟨hn,rfl⟩|⟨l,v2,hn,rfl,hv2⟩)⟩;have HP:Hid (Post (cH 3) w2):=HN.out hn w2 (hbw1.trans (hb.mono hbw1.size));dsimp only;exact⟨rfl,HP.out⟩;obtain⟨a,rfl⟩:=vo hn;obtain⟨g,cc,rfl,hcell⟩:=ka hv2 aY;have ha:w2.cell? (aA g 0)=some (iI a):=hcell 0 aY;have HA:Hid (cD ws 1=some [a]):=hn;have hlg:g<w2.heap.size:=(bj hv2 g rfl).2;have hbw2:FF w w2:=hbw1.trans (hb.mono hbw1.size);clear hcell hv2 hn;dsimp only;refine hK.out _ _ ⟨HD.out _ hbw2,aB⟩ (λqH=>?_);clear hK K;try simp only[Act.put,ax,aJ,aI]
    refine tk 6 7 qH ?_;go_frame;refine tw 7 12 (λK hK=>?_) λK hK=>?_
    .go_simp;refine hK.out _ _ ⟨qH.1,aB⟩ (λqH=>?_);clear hK K;try simp only[Act.put,ax,aJ,aI]
     refine tw 8 12 (λK hK=>?_) λK hK=>?_
     .go_simp;refine(HO.out w2 a hbw2 HA.out).mono ?_;rintro e w3⟨⟨n,dd,y,rfl,hr⟩,hb⟩;dsimp only;refine hK.out _ _ ⟨HD.out _ (hbw2.trans (hb.mono hbw2.size)),aB⟩ (λqH=>?_);clear hK K;try simp only[Act.put,ax,aJ,aI]
      have hbw3:=hbw2.trans (hb.mono hbw2.size);refine tz ?_;refine on 12 λK hK=>?_;go_simp;have hv:=V41.h hbw3;refine hK.out _ _ ⟨HD.out _ hv.2.1,aB⟩ (λqH=>?_);clear hK K;try simp only[Act.put,ax,aJ,aI]
      generalize w3.alloc (.cells #[.string ⟨#[]⟩,.int .i64 0] 41)=w4 at *;generalize w3.heap.size=p at *;exact tl w4 p n dd y g cc a ⟨hv,hr⟩
     .go_simp;have ha:=(((au w2.heap.size w2).alloc (aj _) (.cells #[.string ⟨#[]⟩,iI 0] 41)).cell (p:=aA g 0) hlg).trans ha;have hv:=V41.h hbw2;refine hK.out _ _ ⟨HD.out _ hv.2.1,aB⟩ (λqH=>?_);clear hK K;try simp only[Act.put,ax,aJ,aI]
      generalize w2.alloc (.cells #[.string ⟨#[]⟩,.int .i64 0] 41)=w3 at *;generalize w2.heap.size=p at *;exact t8 w3 p g cc a ⟨hv,ha,HA.out⟩
    .go_simp;have ha:=(((au w2.heap.size w2).alloc (aj _) (.cells #[.string ⟨#[]⟩,iI 0] 41)).cell (p:=aA g 0) hlg).trans ha;have hv:=V41.h hbw2;refine hK.out _ _ ⟨HD.out _ hv.2.1,aB⟩ (λqH=>?_);clear hK K;try simp only[Act.put,ax,aJ,aI]
     generalize w2.alloc (.cells #[.string ⟨#[]⟩,.int .i64 0] 41)=w3 at *;generalize w2.heap.size=p at *;refine on 7 λK hK=>?_;go_simp;refine hK.out _ _ ⟨qH.1,aB⟩ (λqH=>?_);clear hK K;try simp only[Act.put,ax,aJ,aI]
     exact t8 w3 p g cc a ⟨hv,ha,HA.out⟩
   .go_simp;have hv:=V41.h hbw1;refine hK.out _ _ ⟨HD.out _ hv.2.1,aB⟩ (λqH=>?_);clear hK K;try simp only[Act.put,ax,aJ,aI]
    generalize w1.alloc (.cells #[.string ⟨#[]⟩,.int .i64 0] 41)=w2 at *;generalize w1.heap.size=p at *;refine on 5 λK hK=>?_;go_simp;have hbw2:=hv.2.1;refine(HM.out w2 hbw2).mono ?_;rintro e w3⟨hb,(⟨hn,rfl⟩|⟨l,v2,hn,rfl,hv2⟩)⟩;have HP:Hid (Post (cH 3) w3):=HN.out hn w3 (hbw2.trans (hb.mono hbw2.size));dsimp only;exact⟨rfl,HP.out⟩;obtain⟨a,rfl⟩:=vo hn;obtain⟨g,cc,rfl,hcell⟩:=ka hv2 aY;have ha:w3.cell? (aA g 0)=some (iI a):=hcell 0 aY;have HA:Hid (cD ws 1=some [a]):=hn;have hlg:g<w3.heap.size:=(bj hv2 g rfl).2;have hbw3:FF w w3:=hbw2.trans (hb.mono hbw2.size);have hv:=hv.e hb;clear hcell hv2 hn;dsimp only;refine hK.out _ _ ⟨HD.out _ hbw3,aB⟩ (λqH=>?_);clear hK K;try simp only[Act.put,ax,aJ,aI]
    refine tk 6 7 qH ?_;go_frame;refine on 7 λK hK=>?_;go_simp;refine hK.out _ _ ⟨qH.1,aB⟩ (λqH=>?_);clear hK K;try simp only[Act.put,ax,aJ,aI]
    exact t8 w3 p g cc a ⟨hv,ha,HA.out⟩
  .intro w3 p g cc a ⟨hv,ha,hA⟩;have hbw3:=hv.2.1;have HV:Hid _:=hv;have HA:Hid _:=hA;clear hv hA;refine on 8 λK hK=>?_;go_simp;refine(HO.out w3 a hbw3 HA.out).mono ?_;rintro e w4⟨⟨n,dd,y,rfl,hr⟩,hb⟩;dsimp only;refine hK.out _ _ ⟨HD.out _ (hbw3.trans (hb.mono hbw3.size)),aB⟩ (λqH=>?_);clear hK K;try simp only[Act.put,ax,aJ,aI]
   refine tz ?_;exact tl w4 p n dd y g cc a ⟨V41.e HV.out hb,hr⟩
 .intro w4 p n dd y g cc a ⟨⟨hpB,hbw4,p0,p1,pf,_⟩,hr⟩;have HR:Hid _:=hr;have pf0:=pf 0;have pf1:=pf 1;clear pf hr;refine on 13 λK hK=>?_;go_simp;have hbs:FF w ((w4.setCell (aA p 0) (.string dd)).setCell (aA p 1) (iI y)):=(hbw4.setCell (p:=(aA p 0)) hpB _).setCell (p:=(aA p 1)) hpB _;have t0:((w4.setCell (aA p 0) (.string dd)).setCell (aA p 1) (iI y)).cell? (aA p 0)=some (.string dd):=by
   rw[am _ _ _ _ (by intro q;injection q with _ q;cases q)];exact az _ _ _ p0
  have t1:((w4.setCell (aA p 0) (.string dd)).setCell (aA p 1) (iI y)).cell? (aA p 1)=some (iI y):=az _ _ _ ((am _ _ _ _ (by intro q;injection q with _ q;cases q)).trans p1);refine hK.out _ _ ⟨HD.out _ hbs,aB⟩ (λqH=>?_);clear hK K p0 p1 pf0 pf1;try simp only[Act.put,ax,aJ,aI]
  generalize (w4.setCell ⟨p,0,none⟩ (.string dd)).setCell ⟨p,1,none⟩ (.int .i64 y)=w6 at *;refine la 14 λK hK=>?_;go_simp;refine hK.out _ _ ?_;clear hK K qH;have hch:=HC.out n w6 hbs;have hp6:p<w6.heap.size:=by
   unfold World.cell? at t0;cases hq:w6.heap[p]? with
   |none=>simp[hq]at t0
   |some o=>exact(ar.1 hq).1
  go_wp2_with fail
  refine hch.mono ?_;rintro e w7⟨he,hb7⟩;have hbw7:FF w w7:=hbs.trans (hb7.mono hbs.size);by_cases hn:n=0
  .rw[aH hn]at he;subst he;subst hn;have hs:=HS.out dd y w7 HR.out hbw7;have t0:=(hb7.cell (p:=(aA p 0)) hp6).trans t0;have t1:=(hb7.cell (p:=(aA p 1)) hp6).trans t1;clear hch HY HC HS HM HO HN hb7;go_wp2_with fail
   refine hs.mono ?_;rintro e w8⟨t,rfl,hp⟩;have HP:Hid (Post (.returned (.string t)) w8):=hp;clear hs hp;go_wp2;exact HP.out
  .rw[ay hn]at he;subst he;have HP:Hid (Post (cH n) w7):=HY.out n dd y w7 HR.out hn hbw7;clear hch HY HC HS HM HO HN hb7 hn;go_wp2;exact⟨rfl,HP.out⟩
def N8(B N d q:Nat)(M:Value)(w:World)(C:Nat)(X:Int->Wd->Prop)(n:Int)(w3:World):Prop:=∃A s',X n s'/\0<=n/\A.Q=q/\Ds B N d M w3 A s' C/\Dz N d w w3
def N8.I{q:Nat}{M:Dv}(h:N8 B N d q M w C X n w3):cC w3 (aA d 0) (tp q):=by
 obtain⟨A,s,_,_,rfl,h,_⟩:=h;exact h.b.h
def N8.e{q:Nat}{M:Dv}(h:N8 B N d q M w C X n w3):
  Calls prog 144 #[eV n] w3 (λe w4=>e=(if n=0 then .returned (.tuple #[]) else cH n)/\N8 B N d q M w C X n w4):=by
 let ⟨A,s,b,h0,c,a,f⟩:=h
 apply (vf h0 a.I).mono;rintro e w4⟨rfl,g⟩;let ⟨x,z⟩:=a.e g
 exact⟨rfl,A,s,b,h0,c,x,f.h z⟩
def N8.H{M:Dv}{e:Ending}(h:Ds B N d M w A s C)(a:FF w w2)(b:Op A s w2 n s' e w3)(c:Bk s' C')(h0:0<=n)(g:X n s'):∃n,e=.returned (eV n)/\N8 B N d A.Q M w C' X n w3:=by
 obtain⟨rfl,i,j,f⟩:=b;obtain⟨x,z⟩:=h.Z a j f c (au _ _);exact⟨n,rfl,i,s',g,h0,f.Q,x,z⟩
def N8.j{M:Dv}{e:Ending}(h:Ds B N d M w A s C)(c:FF w w2)(g:Op A s w2 n s' e w3):XB d w2 w3:=by
 let ⟨_,m,o,f⟩:=g
 let ⟨x,_⟩:=h.e c
 have i:=Fz.O x.b.b f x.b.e;refine⟨aa (a:=(aA d 0)) i,λX p t fz k l=>?_⟩;have z:Dz N d w2 w3:=Dz.V x.b.b f x.t;exact z.b X ⟨_,k,by rcases l with rfl|rfl<;>rfl⟩
def N8.h{q:Nat}{M:Dv}{T:DS}(h:N8 B N d q M w C X n w4)(b:∀s',X n s'->r=sG n T s'):vG B N d M w C r (if n=0 then .returned (.string T) else cH n) w4:=by
 obtain⟨A,s',c,h0,_,e,f⟩:=h;rw[b s' c];refine⟨?_,A,e,f⟩;unfold sG;by_cases a:n=0;rw[aH a];simp only[aH a];rw[ay a];simp only[ay a];rw[kY h0]
def Ds.q{M:Dv}(h:Ds B N d M w A s C):d<w.heap.size/\cC w (aA d 0) (tp A.Q):=⟨h.b.e.H,h.b.h⟩
def vG.e{M:Dv}(h:Ds B N d M w A s C)(a:C<=C')(b:r=(.inr 3,s))(c:FF w w2):vG B N d M w C' r (cH 3) w2:=by
 rw[b];exact vG.h h a c
structure yj(w:World)(v:Value)(ws:List ByteArray):Prop where
 b:Wq w v ws
 h:∀x∈ws,x.size<=1000000
 i:ws.length<=1000000
def yj.e{M:Dv}{v:Dv}(h:yj w v ws)(f:Ds B N d M w A s C)(a:Int){w1:Ba}(c:FF w w1):Calls prog 145 #[v,iI a] w1 (gN ws a w1):=
 Hb a (f.j.on c) (h.b.e c) h.h h.i
def Za(ws:List ByteArray)(s:Wd):lQ:=kT ws s λk=>sG (s.b0 k) ⟨#[97,103,97,105,110]⟩ (s.bl k)
def SF(ws:List ByteArray)(s:Wd):lQ:=kT ws s λk=>sG (s.a9 k) ⟨#[100,101,108,105,118,101,114]⟩ (s.a6 k)
def abf(ws:List ByteArray)(s:Wd):lQ:=kT ws s λk=>sG (s.a9 k) ⟨#[108,111,115,101]⟩ (s.b4 k)
def Zr(ws:List ByteArray)(s:Wd):lQ:=kT ws s λk=>sG (s.a9 k) ⟨#[116,119,105,99,101]⟩ (s.bu k)
def WU(ws:List ByteArray)(s:Wd):lQ:=kT ws s λk=>sG (s.b0 k) ⟨#[114,101,98,111,114,110]⟩ (s.bc k)
def Tn{M:Dv}{v:Dv}(h:Ds B N d M w A s C)(m:yj w v ws)(o:aa4 f g z){E:Int->Int}{D:Int->Wd}(j:∀(a:Int) {w:Ba},bF w A s->Calls prog g #[tp A.Q,iI a] w (Op A s w (E a) (D a)))(b:∀a,Bk (D a) (C+3))(h0:∀a,0<=E a):
  Calls prog f #[tp d,v] w (vG B N d M w (C+3) (kT ws s λk=>sG (E k) z (D k))):=by
 refine To o v ws (N8 B N d A.Q M w (C+3) λn s'=>∃a,cD ws 1=some [a]/\n=E a/\s'=D a) (N8 B N d A.Q M w (C+3) λn s'=>∃a,cD ws 1=some [a]/\n=E a/\s'=D a) h.q.1 h.q.2 (λw1 b=>m.e h 1 b) (λw2 a c l=>?_) (λn w3 i=>i.I) (λn w3 i=>i.e) (λp w2 b=>?_) (λn w4 i=>?_);refine(j a (h.e c).1.b.b).mono ?_;intro e w3 j;exact N8.H h c j (b a) (h0 a) ⟨a,l,rfl,rfl⟩;exact vG.e h ak (by unfold kT;rw[p]) b;refine i.h ?_;rintro s'⟨a,l,rfl,rfl⟩;unfold kT;rw[l]
def He(ws:List ByteArray)(s:Wd):lQ:=pR ws s λk o=>sG (s.bk k o) ⟨#[114,101,97,100]⟩ (s.bf k o)
def XK{M:Dv}{v:Dv}(h:Ds B N d M w A s C)(k:yj w v ws)(m:C<=800000000):
  Calls prog 90 #[tp d,v] w (vG B N d M w (C+3) (He ws s)):=by
 refine Pd (N8 B N d A.Q M w (C+3) λn s'=>∃a b,cD ws 2=some [a,b]/\n=s.bk a b/\s'=s.bf a b) (N8 B N d A.Q M w (C+3) λn s'=>∃a b,cD ws 2=some [a,b]/\n=s.bk a b/\s'=s.bf a b) h.q.1 h.q.2 (k.e h 2 (au _ _)) (λw2 a b c f=>?_) (λn w3 g=>g.e) (λl w2 c=>?_) (λn w4 g=>?_);apply (Tu a b (h.e c).1.b.b h.h ak).mono;intro e w3 i;exact⟨N8.H h c i (h.H.ag a b) (s.cg a b) ⟨a,b,f,rfl,rfl⟩,N8.j h c i⟩;exact vG.e h ak (by unfold He pR;rw[l]) c;apply g.h;rintro s'⟨a,b,f,rfl,rfl⟩;unfold He pR;rw[f]
def aba{M:Dv}{v:Dv}(h:Ds B N d M w A s C)(k:yj w v ws)(u:C<=800000000):
  Calls prog 86 #[tp d,v] w (vG B N d M w (C+3) (sU ws s)):=by
 obtain⟨ao,c,rfl,hc,x⟩:=k.b;have a:cD ws ws.length=jb ws:=by unfold cD;rw[aH rfl]
 refine OH (N8 B N d A.Q M w (C+3) λn s'=>∃l,cD ws ws.length=some l/\n=s.be l/\s'=s.bd l) (N8 B N d A.Q M w (C+3) λn s'=>∃l,cD ws ws.length=some l/\n=s.be l/\s'=s.bd l) h.q.1 h.q.2 (k.e h ws.length (iS w)) (λw2 y l z g f t=>?_) (λn w3 m=>m.e) (λp w2 g=>?_) (λn w4 m=>?_);have o:l.length<=1000000:=by
  rw[a]at f;rw[kc _ _ f];exact k.i
 refine(SU (h.e g).1.b.b h.h ak t o).mono ?_;intro e w3 r;exact⟨N8.H h g r (h.H.ae l) (s.cf l) ⟨l,f,rfl,rfl⟩,N8.j h g r⟩;exact vG.e h ak (by unfold sU;rw[a]at p;rw[p]) g;refine m.h ?_;rintro s'⟨l,f,rfl,rfl⟩;unfold sU;rw[a]at f;rw[f]
def TQ{M:Dv}{v:Dv}(h:Ds B N d M w A s C)(p:yj w v ws)(P:C<=800000000)(u:∀g o n c,v=.slice (some (aA g o)) n c->∃cs f,w.heap[g]?=some (.cells cs 9 f)):
  Calls prog 97 #[tp d,v] w (vG B N d M w (C+3) (lq ws s)):=by
 have K:=p;obtain⟨ao,c,rfl,hc,L⟩:=p.b;by_cases r:ws.length=3;obtain⟨t,o,rfl,y,k⟩:=L ak;have z:w.cell? ⟨t,o+2,none⟩=some (.string (ws.getD 2 ⟨#[]⟩)):=by
  rw[k 2 ak,aD,aE ak];rfl
 have D:(ws.getD 2 ⟨#[]⟩).size<=1000000:=by
  rw[aD,aE ak];exact p.h _ (bp _)
 have E:(ws.take 2).length=2:=by rw[cx];omega
 have l:yj w (.slice (some (aA t o)) 2 c) (ws.take 2):=⟨⟨_,c,by rw[E],ak,λ_=>⟨t,o,rfl,y,λi R=>by rw[List.getElem_take];exact k i ak⟩⟩,λx z=>p.h x (ZU z),ak⟩;rw[r];refine Kr ws (N8 B N d A.Q M w (C+3) λn s'=>∃a b,cD (ws.take 2) 2=some [a,b]/\n=s.a8 a b (ws.getD 2 ⟨#[]⟩)/\s'=s.a7 a b (ws.getD 2 ⟨#[]⟩)) (N8 B N d A.Q M w (C+3) λn s'=>∃a b,cD (ws.take 2) 2=some [a,b]/\n=s.a8 a b (ws.getD 2 ⟨#[]⟩)/\s'=s.a7 a b (ws.getD 2 ⟨#[]⟩)) h.q.1 h.q.2 ak (u t o _ _ rfl) z (l.e h 2 (au _ _)) (λw2 a b m F=>?_) (λn w3 G=>G.e) (λI w2 m=>?_) (λn w4 G=>?_);apply (Pq a b (h.e m).1.b.b h.h ak D).mono;intro e w3 J;exact⟨N8.H h m J (h.H.ab a b) (s.ce a b) ⟨a,b,F,rfl,rfl⟩,N8.j h m J⟩;exact vG.e h ak (by unfold lq pR;rw[aH r,I]) m;apply G.h;rintro s'⟨a,b,F,rfl,rfl⟩;unfold lq pR;rw[aH r,F]
 .have I:=nF ao c ws.length 3 w ak;have O:Hid (vG B N d M w (C+3) (lq ws s) (cH 3) w):=vG.e h ak (by unfold lq;rw[ay r]) (au _ _);go_in;go_wp2_with fail
  apply I.mono;rintro e w2⟨rfl,l⟩;rw[l];go_wp2;exact⟨rfl,O.out⟩
def Eb(ws:List ByteArray)(s:Wd):lQ:=pR ws s λa b=>(.inl ⟨#[102,97,105,108,115]⟩,s.ab a b)
def WR(h:rI x=some n):-9223372036854775808<=n/\n<=9223372036854775807:=by
 unfold rI at h;cases ha:Lib.atoiAll x.data.toList with
 |ok v=>
  rw[ha]at h;dsimp only at h;split at h;injection h with h
  subst h;exact Lib.atoiAll_bounds ha;cases h
 | «syntax»=>rw[ha]at h;cases h
 |range=>rw[ha]at h;cases h
def Hc:∀{ws:List DS} {l:List Int},jb ws=some l->∀n∈l,-9223372036854775808<=n/\n<=9223372036854775807
 | [],l,h,n,a=>by
  injection h with h
  subst h;cases a
 |x::t,l,h,n,a=>by
  unfold jb at h;cases hx:rI x with
  |none=>rw[hx]at h;cases h
  |some m=>
   rw[hx]at h;dsimp only at h;cases ht:jb t with
   |none=>rw[ht]at h;cases h
   |some b=>
    rw[ht]at h;injection h with h
    subst h;rcases bG.1 a with rfl|a
    exact WR hx;exact Hc ht n a
def OW{k:Int}(h:cD ws k=some l):∀n∈l,-9223372036854775808<=n/\n<=9223372036854775807:=by
 unfold cD at h;split at h;exact Hc h;cases h
def Zj{M:Dv}{v:Dv}(h:Ds B N d M w A s C)(i:yj w v ws):
  Calls prog 85 #[tp d,v] w (vG B N d M w (C+3) (Eb ws s)):=by
 refine JJ h.q.1 h.q.2 (i.e h 2 (au _ _)) (λw2 a b c g=>?_) (λj w2 c=>?_);refine(OB a b (h.e c).1.b.b).mono ?_;rintro e w3⟨rfl,x,f⟩;obtain⟨y,z⟩:=h.Z c x f (h.H.H (OW g a aY).2 b) (au _ _);refine⟨rfl,?_⟩;unfold Eb pR;rw[g];exact⟨rfl,A,y,z⟩;exact vG.e h ak (by unfold Eb pR;rw[j]) c
def u9(ws:List ByteArray)(s:Wd):lQ:=kT ws s λr=>if r<0\/200<r then (.inr 2,s) else (.inl ⟨#[99,97,108,109]⟩,s.a4 r.toNat)
def XE{M:Dv}{v:Dv}(h:Ds B N d M w A s C)(j:yj w v ws)(l:C+3600000<=800000000):
  Calls prog 82 #[tp d,v] w (vG B N d M w (C+3600000) (u9 ws s)):=by
 refine Cz h.q.1 h.q.2 (j.e h 1 (au _ _)) (λw2 a c g i=>?_) (λk w2 c=>?_) (λa w2 g i c=>?_);let ⟨x,z⟩:=h.e c
 apply (Oi C a x.b.b h.h ak x.I x.ab).mono;rintro e w3⟨rfl,m,y,f⟩;let ⟨u,t⟩:=h.Z c y f ((h.H.ah x.b.b.B a).e (show C+18000*a<=C+3600000 by omega)) (au _ _)
 refine⟨rfl,?_⟩;unfold u9 kT;rw[g];dsimp only;rw[ay ak];exact⟨rfl,_,u,t⟩;exact vG.e h ak (by unfold u9 kT;rw[k]) c;unfold u9 kT;rw[g];dsimp only;rw[aH i];exact vG.h h ak c
def vl(h:m5 B w)(a:fN y):Calls prog 78 #[iI y] w λe b=>e=.returned (.string (kK y))/\FF w b:=by
 refine(af y (jd a.1) (jd a.2) h.i.here).mono ?_;rintro e b⟨rfl,k,c,rfl⟩;exact⟨rfl,Lib.below_grow _ _ (aj _) k c⟩
def iU(a:fN y):(kK y).size<=100:=by
 have b:=Lib.itoa_length_le y (jd a.1) (jd a.2);show (Lib.itoa y).toArray.size<=100;rw[f8];omega
def CO(d:DS)(h:m5 B w)(u:d.size<=1000000)(m:fN y):
  Calls prog 153 #[.agg #[.string d,iI y]] w λe f=>e=.returned (.string (kM d y))/\FF w f:=by
 have c:FF w (w.alloc (.cells #[.string d,iI y] 41)):=(au _ _).alloc (aj _) _;have g:=vl (h.on c) m;have p:=iU m;have n:Hid (kM d y=(if d=⟨#[]⟩ then ⟨#[95]⟩ else d)++⟨#[32]⟩++kK y):=rfl;generalize kK y=t at *;generalize kM d y=r at *;have o:Hid (∀f,Below (w.alloc (.cells #[.string d,iI y] 41)).heap.size (w.alloc (.cells #[.string d,iI y] 41)) f->FF w f):=λf i=>c.trans (i.mono c.size);by_cases h0:d=⟨#[]⟩
 .have k:Hid (r=⟨#[95]⟩++⟨#[32]⟩++t):=by rw[Hid,n.out,aH h0]
  subst h0;go_in;go_wp2_with fail
  apply g.mono;rintro e w2⟨rfl,i⟩;have l :Hid _:= o.out w2 i;have j:¬9223372036854775807<2+t.size:=ak;go_wp2;go_ret;exact⟨k.out▸rfl,l.out⟩
 .have k:Hid (r=d++⟨#[32]⟩++t):=by rw[Hid,n.out,ay h0]
  have q:d.toList.isEmpty=false:=by
   cases hl:d.toList with
   |nil=>
    rw[gP]at hl;exact absurd (ul (b:=⟨#[]⟩) hl) h0
   |cons a b=>rfl
  have s:¬9223372036854775807<d.size+1:=ak;go_in;go_wp2_with fail
  apply g.mono;rintro e w2⟨rfl,i⟩;have l :Hid _:= o.out w2 i;have j:¬9223372036854775807<d.size+1+t.size:=ak;go_wp2;go_ret;exact⟨k.out▸rfl,l.out⟩
def vG.H{M:Dv}{t:DS}(h:Ds B N d M w A s C)(a:C<=C')(b:r=(.inl t,s))(c:FF w w2):vG B N d M w C' r (.returned (.string t)) w2:=by
 rw[b];exact vG.h h a c
def vG.j{M:Dv}{n:Nat}(h:Ds B N d M w A s C)(a:C<=C')(b:r=(.inr n,s))(c:FF w w2):vG B N d M w C' r (cH n) w2:=by
 rw[b];exact vG.h h a c
def Zs{M:Dv}{v:Dv}(h:Ds B N d M w A s C)(G:yj w v ws):
  Calls prog 96 #[tp d,v] w (vG B N d M w (C+3) (kT ws s λo=>kN s o)):=by
 refine Ki v ws (λn g y=>∃a,cD ws 1=some [a]/\(n=0->kN s a=(.inl (kM g y),s)/\g.size<=1000000/\fN y)/\(n≠0->0<=n/\kN s a=(.inr n.toNat,s))/\0<=n) h.q.1 h.q.2 (λw1 b=>G.e h 1 b) (λw2 a b f=>?_) (λn w3 b=>?_) (λr w2 b=>?_) (λn g y w4 t r b=>?_) (λg y w4 t b=>?_);have x:=(h.e b).1.b.b;cases hs:s.sv with
 |none=>
  refine(Hm a x hs).mono ?_;rintro e w3⟨rfl,c⟩;exact⟨⟨6,_,_,rfl,a,f,ak,λ_=>⟨ak,by unfold kN;rw[hs];rfl⟩,ak⟩,c⟩
 |some u=>
  by_cases k:Lease.eI a=true;have i:0<=a/\a<=7:=by simpa[Lease.eI,Num.lY] using k
  have I:= kY i.1;have F:=CT x hs λz=>TM (o:=a.toNat) z ak;rw[I]at F;refine F.mono ?_;rintro e w3⟨rfl,c⟩;obtain⟨l,_⟩:=h.h.J u hs;refine⟨⟨0,_,_,rfl,a,f,λ_=>⟨by unfold kN;rw[hs];dsimp only;rw[aH k],by have:=l.N9 a.toNat;omega,?_⟩,λq=>absurd rfl q,ak⟩,c⟩;have m:=l.Ey a.toNat;have p:=l.Cs a.toNat;have K:=l.D1;exact⟨ak,ak⟩;have D:Lease.eI a=false:=dD k;refine(CT x hs λ_=>Pk _ _ D).mono ?_;rintro e w3⟨rfl,c⟩;exact⟨⟨2,_,_,rfl,a,f,ak,λ_=>⟨ak,by unfold kN;rw[hs];dsimp only;rw[ay k];rfl⟩,ak⟩,c⟩
 by_cases h0:0<=n;exact vf h0 (h.e b).1.I;rw[show eV n=.iface 59 (iI n) from ay ak,ay ak];exact wG (h.e b).1.I;exact vG.e h ak (by unfold kT;rw[r]) b;obtain⟨a,f,_,m,p⟩:=t;have:=vG.j (C':=C+3) h ak (show (kT ws s λo=>kN s o)=(.inr n.toNat,s) by unfold kT;rw[f];exact(m r).2) b;rw[kY p]at this;exact this;obtain⟨a,f,i,_,_⟩:=t;obtain⟨i,m,p⟩:=i rfl;refine(CO g (h.e b).1.j m p).mono ?_;rintro e L⟨rfl,E⟩;exact⟨_,rfl,vG.H h ak (by unfold kT;rw[f];exact i) (b.trans (E.mono b.size))⟩
end Wld
end Go.Proofs.YtbebfliimjjohabGreatDoor
