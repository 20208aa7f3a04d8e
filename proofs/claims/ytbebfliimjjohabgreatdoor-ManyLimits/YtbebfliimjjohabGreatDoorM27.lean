/- Parts of the proof. -/
import Derived.Test.YtbebfliimjjohabGreatDoorM26
set_option maxRecDepth 100000
set_option maxHeartbeats 8000000
set_option linter.all false
open Go.Proofs.Tryz
namespace Go.Proofs.YtbebfliimjjohabGreatDoor open Gen (la on tk)
open Go.RowKit Go.Maps
open Lease (Ob gv gV de cP mx cL ji fV fg dA)
open Cache (tp bp bD)
open Wal (R dE bW Oq Fw cY Bx jf)
open Num (M dD)
open Wire (uJ i5 sH tC)
namespace Wld
variable{a:Ad}{l:List Int}{B o:Nat}{w:A1}
def uS(x:Int)(l:List Int):Bool:=l.any λy=>x==y
def aa2(x:Int)(l:List Int)(i:Int):Prop:=(i = -1/\uS x l=false)\/(0<=i/\uS x l=true)
def Ln(x:Int){v:Bg}(h:dA w B v l)(z:l.length<=100):
  Calls prog 283 #[v,iI x] w λe n=>∃i:Int,e=.returned (iI i)/\aa2 x l i/\n=w:=by
 obtain⟨ao,c,rfl,o⟩:=h.e;go_enter func283,ntmps283;go_wp2;go_loop [8] (λi=>∃k:Nat,k<=l.length/\i=iI k/\Hid (uS x (l.take k)=false)) (λi=>l.length-(intOf i).toNat)
 case atStart=>exact⟨0,by omega,rfl,(rfl:uS x (l.take 0)=false)⟩
 case round=>
  obtain⟨k,A,rfl,m⟩:=hrel;by_cases a:k<l.length
  .obtain⟨g,rfl,b⟩:=o (by omega);have d:(k:Int)<(l.length:Int):=by omega
   have c0:=b k a;have f:uS x (l.take (k+1))=(uS x (l.take k)||(x==l[k])):=by unfold uS;rw[bF a,List.any_append];simp
   have j:(x==l[k])=true->uS x l=true:=λe=>by
    exact vm.2 ⟨l[k],bA a,e⟩
   let ⟨y,q⟩:∃y,l[k]=y:=⟨_,rfl⟩
   rw[q]at c0 f j;let ⟨p,r⟩:∃p,(x==y)=p:=⟨_,rfl⟩
   rw[r]at f j;have s :Hid _:= f;have t :Hid _:= j;cases p with
   |true=>
    go_wp2_with fail
    go_ret;exact⟨_,rfl,.inr ⟨by omega,t.out (by first|rfl|trivial)⟩,rfl⟩
   |false=>
    go_wp2_with fail
    go_round
    case rel=>exact⟨k+1,by omega,by go_num,(by rw[s.out,m.out];rfl:uS x (l.take (k+1))=false)⟩
    case measure=>simp[intOf];omega
  .obtain rfl:k=l.length:=by omega
   have d:¬(l.length:Int)<(l.length:Int):=by omega
   have u:Hid (uS x l=false):=by have:=m.out;rw[gz]at this;exact this
   go_wp2;go_ret;exact⟨_,rfl,.inl ⟨rfl,u.out⟩,rfl⟩
def Ce(x:Int){v:Bg}(h:dA w B v l)(g:l.length<=100):
  Calls prog 260 #[v,iI x] w λe c=>e=.returned (.bool (uS x l))/\c=w:=by
 let ⟨b,d⟩:∃b,uS x l=b:=⟨_,rfl⟩
 have f :Hid _:= d;rw[d];go_enter func260,ntmps260;go_wp2_with fail
 apply (Ln x h g).mono;rintro e c⟨i,rfl,a,rfl⟩;rcases a with⟨rfl,a⟩|⟨h0,a⟩
 .go_wp2_with fail
  go_ret;exact⟨by rw[<-f.out,a];rfl,rfl⟩
 .have j:= aR h0;go_wp2_with fail
  go_ret;exact⟨by rw[<-f.out,a];first|rfl|simp[h0],rfl⟩
def cx.aw{y z:A1}{s:Sv}(h:cx y a s)(ho:o<8){v D:Bg}{l:List M}(G:cC y (aA a.S (48+o)) v)(Y:y.grownBy z v.ownBlock)(hM:iy z (a.S+1) D l)(hl:l.length<=10)(L:∀g,D.ownBlock=some g->v.ownBlock=some g\/y.heap.size<=g):
  cx (z.setCell (aA a.S (48+o)) D) a {s with waits:=bB s.waits o l}/\Fs a y (z.setCell (aA a.S (48+o)) D):=by
 have a0:=h.e;have h1:=h.x;have h2:=h.J;have h3:=h.W;have h4:=h.C;have aS:=Y.size;have n:∀k,k<=a.S->v.ownBlock≠some k:=λk N q=>by have:=(h.ac ho G q).1;omega
 have ez:∀k,k<y.heap.size->v.ownBlock≠some k->z.heap[k]?=y.heap[k]?:=λk N O=>Y.block k N (λq=>O q.symm);have Q:∀k,k<y.heap.size->k≠a.S->v.ownBlock≠some k->(z.setCell (aA a.S (48+o)) D).heap[k]?=y.heap[k]?:=λk N hS O=>(aX z (aA a.S (48+o)) D k hS).trans (ez k N O);have eS:=ez a.S (by omega) (n _ (by omega));have w:∀i,i≠48+o->(z.setCell (aA a.S (48+o)) D).cell? (aA a.S i)=y.cell? (aA a.S i):=λi d=>(ak _ _ _ _ (by intro q;injection q with _ q;omega)).trans (aj eS);have n0:cC (z.setCell (aA a.S (48+o)) D) (aA a.S (48+o)) D:=ay _ _ _ ((aj (a:=(aA a.S (48+o))) eS).trans G);have nr:∀u g,cC y (aA a.U 1) u->u.ownBlock=some g->v.ownBlock≠some g:=λu g r c q=>by
  let ⟨_,c1,f1,k1⟩:=h.V r c
  let ⟨_,c2,f2,I⟩:=h.ac ho G q
  exact pr k1 I (by decide) rfl
 have hU:=Q a.U (by omega) (by omega) (n _ (by omega));have hq:=Q a.q (by omega) (by omega) (n _ (by omega));have hT:=Q a.T (by omega) (by omega) (n _ (by omega));have hm:=Q a.m (by omega) (by omega) (n _ (by omega));have K:y.heap.size<=(z.setCell (aA a.S (48+o)) D).heap.size:=by simpa using aS
 refine⟨⟨Wal.db (by rw[eS];exact h.y),λi=>by rw[bb];exact(aJ (a:=(aA a.S i)) eS).trans (h.o i),(w 0 (by omega)).trans h.c0,(w 1 (by omega)).trans h.c1,(w 2 (by omega)).trans h.c2,(w 3 (by omega)).trans h.c3,(w 4 (by omega)).trans h.c4,(w 5 (by omega)).trans h.c5,(w 6 (by omega)).trans h.c6,
  λi d=>(w _ (by omega)).trans (h.vd i d),λi d=>(w _ (by omega)).trans (h.vv i d),λi d j u r=>(w _ (by have:=(aT.1 r).1;rw[Wal.R.j]at this;omega)).trans (h.la i d j u r),(w 47 (by omega)).trans h.A,λi d=>?_,λi j u x d hj O r X=>?_,
  WalIs.ab h.F K hU (λu g r c=>Q g (h.H (.inr (.inr (.inr (.inr (.inr (.inl ⟨u,r,c⟩))))))) (by have:=(h.V r c);let ⟨_,c1,f1,k1⟩:=this;let ⟨c2,f2,I⟩:=h.y;exact pr k1 I (by decide)) (nr u g r c)),DiskIs.ac h.Z hq,h.p.e hT hm,by rw[hT];exact h.tt,h.x,h.J,h.W,h.C,λi d=>?_⟩,
  ⟨Y.os,Y.tape,Y.output,K,λk N hf=>Q k N (λq=>hf (.inr (.inr (.inl q)))) (λq=>hf (.inr (.inr (.inr (.inr (.inr (.inr ⟨o,v,ho,G,q⟩))))))),λk N f=>?_,λi _=>aj hq,λi=>aJ hq,λt ht=>by rw[hq];exact ht⟩⟩
 dsimp only;by_cases q:i=o;subst q;rw[cy];exact⟨D,n0,hM.e⟩;rw[cU q];let ⟨u,r,ad⟩:=h.b i d
 refine⟨u,(w _ (by omega)).trans r,iy.e (bp ad λg c=>ez g (bv ad g c).2 (λq'=>h.t i o u v d ho q r G g c q'))⟩;by_cases q:i=o;subst q;rw[n0]at r;injection r with r
 subst r;have aI:=(w _ (by omega)).symm.trans X;intro g c E;rcases L g c with k|k
 exact h.t i j v x d hj O G aI g k E;have:=h.H (.inr (.inr (.inr (.inr (.inr (.inr ⟨j,x,hj,aI,E⟩))))));omega;have P:=(w _ (by omega)).symm.trans r;by_cases q':j=o;subst q';rw[n0]at X;injection X with X
 subst X;intro g c E;rcases L g E with k|k
 exact h.t i j u v d hj O P G g c k;have:=h.H (.inr (.inr (.inr (.inr (.inr (.inr ⟨i,u,d,P,c⟩))))));omega;exact h.t i j u x d hj O P ((w _ (by omega)).symm.trans X);dsimp only;by_cases q:i=o;subst q;rw[cy];exact hl;rw[cU q];exact h.B i d;rcases f with f|f|f|f|f|⟨u,k1,I⟩|⟨i,u,d,k1,I⟩
 exact .inl f;exact .inr (.inl f);exact .inr (.inr (.inl f));exact .inr (.inr (.inr (.inl f)));exact .inr (.inr (.inr (.inr (.inl f))));exact .inr (.inr (.inr (.inr (.inr (.inl ⟨u,(aj (a:=(aA a.U 1)) hU).symm.trans k1,I⟩)))));by_cases q:i=o;subst q;rw[n0]at k1;injection k1 with k1
 subst k1;rcases L k I with q|q
 exact .inr (.inr (.inr (.inr (.inr (.inr ⟨i,v,d,G,q⟩)))));omega;exact .inr (.inr (.inr (.inr (.inr (.inr ⟨i,u,d,(w _ (by omega)).symm.trans k1,I⟩)))))
def Sv.aw(s:Sv)(m:M)(o:Nat):Sv×Bool:=
 if (s.waits o).any (kx m.c m.n)=true then (s,true) else if 10<=(s.waits o).length then (s,false) else ({s with waits:=bB s.waits o (s.waits o++[m])},true)
variable{s:Sv}
def IE{mk mc mn me ms mv:Int}{ml:Bool}{md:Bh}(h:cx w a s)(L:o<8){x:Sv×Bool}(hx:Hid (s.aw ⟨mk,mc,mn,me,ms,o,mv,ml,md⟩ o=x)):
  Calls prog 225 #[tp a.S,Wire.M.ab ⟨mk,mc,mn,me,ms,o,mv,ml,md⟩] w λe V=>e=.returned (.bool x.2)/\cx V a x.1/\Fs a w V:=by
 have cl:=h.lt;have m:MB (dW w mk mc mn me ms o mv ml md) w.heap.size ⟨mk,mc,mn,me,ms,o,mv,ml,md⟩:=ie w;have F:cx (dW w mk mc mn me ms o mv ml md) a s:=h.j _;have N:Below w.heap.size w (dW w mk mc mn me ms o mv ml md):=(au _ _).alloc (aa _) _;have ad:(dW w mk mc mn me ms o mv ml md).heap.size=w.heap.size+1:=by simp
 have hF:=Fs.H h N;have aI:¬fy (dW w mk mc mn me ms o mv ml md) a w.heap.size:=h.O N (aa _);have co:(0:Int)<=(o:Int):=by omega
 have cp:(o:Int)<8:=by omega
 unfold dW at *;unfold Wire.M.ab


 go_enter func225,ntmps225;go_wp2_with fail
 generalize w.alloc (.cells #[.int .i64 mk,.int .i64 mc,.int .i64 mn,.int .i64 me,.int .i64 ms,.int .i64 o,.int .i64 mv,.bool ml,.string md] 129)=w1 at *;have b5:=m.h;dsimp only at b5;let ⟨v,hv,hm⟩:=F.b o L
 have ck:=F.B o L;obtain⟨ao,X,rfl,cs,_⟩:=Net.cZ hm;have aS:(Value.slice ao (s.waits o).length X).ownBlock≠some w.heap.size:=λq=>aI (.inr (.inr (.inr (.inr (.inr (.inr ⟨o,_,L,hv,q⟩))))));have a0:Hid ((Value.slice ao (s.waits o).length X).ownBlock≠some w.heap.size):=aS

 go_quiet (fail);go_wp2_with fail
 generalize J:w1.drewN _=W;have F2:cx W a s:=by rw[<-J];exact F.ab
 have ba:Fs a w W:=by rw[<-J];exact hF.ab
 have r:MB W w.heap.size ⟨mk,mc,mn,me,ms,o,mv,ml,md⟩:=by rw[<-J];exact⟨m.y,m.i,m.u,m.j,m.p,m.h,m.t,m.x,m.A⟩
 have bc:W.cell? ⟨a.S,48+o,none⟩=some (.slice ao (s.waits o).length X):=by rw[<-J];exact hv
 have P:iy W (a.S+1) (.slice ao (s.waits o).length X) (s.waits o):=by rw[<-J];exact hm
 have ct:W.heap.size=w.heap.size+1:=by rw[<-J];exact ad

 have n:=Cf P (by omega) r.i r.u;let ⟨b,hb⟩:∃b,(s.waits o).any (kx mc mn)=b:=⟨_,rfl⟩
 have z:Hid ((if b=true then (s,true) else if 10<=(s.waits o).length then (s,false) else ({s with waits:=bB s.waits o (s.waits o++[⟨mk,mc,mn,me,ms,o,mv,ml,md⟩])},true))=x):=by rw[<-hb];exact hx.out
 rw[hb]at n

 apply n.mono;rintro e w2⟨rfl,g⟩;have Y:=F2.h g;have C:=ba.I F2 g;have d:=r.e g (by omega);have bg:=(g.cell (p:=⟨a.S,48+o,none⟩) (by dsimp only;omega)).trans bc;have bK:=P.j g;have cv:=g.size

 cases b with
 |true=>
  have e:x=(s,true):=z.out.symm;go_wp2_with fail
  go_ret;rw[e];exact⟨rfl,Y,C⟩
 |false=>
  by_cases Q:10<=(s.waits o).length
  .have e:x=(s,false):=z.out.symm.trans (az Q);have R:(10:Int)<=((s.waits o).length:Int):=by omega
   go_wp2_with fail
   go_ret;rw[e];exact⟨rfl,Y,C⟩
  .have e:Hid (x=({s with waits:=bB s.waits o (s.waits o++[⟨mk,mc,mn,me,ms,o,mv,ml,md⟩])},true)):=z.out.symm.trans (ax Q);have R:¬(10:Int)<=((s.waits o).length:Int):=by omega

   go_wp2_with fail
   let ⟨i0,hi,bO,bR,b1⟩:=dw kw
   refine Gen.start (S:=λV=>MB V w.heap.size ⟨mk,mc,mn,me,ms,o,mv,ml,md⟩) (by kernel_rfl) ⟨d.y,d.i,d.u,d.j,d.p,d.h,d.t,d.x,d.A⟩ (λc=>?_);apply tk 0 7 c

   apply tk 1 2 c

   apply tk 2 9 c

   apply tk 3 6 c

   apply tk 4 5 c

   apply tk 7 8 c

   apply tk 8 9 c

   refine on 5 λK T=>?_;go_simp;have k:Below w2.heap.size w2 (w2.alloc (.cells #[.int .i64 mk,.int .i64 mc,.int .i64 mn,.int .i64 me,.int .i64 ms,.int .i64 o,.int .i64 mv,.bool ml,.string md] 129)).drew:=((au _ _).alloc (aa _) _).drew;have Z:=Y.h k;have b2:=C.I Y k;have cb:=bK.j k;have D:=(k.cell (p:=⟨a.S,48+o,none⟩) (by dsimp only;omega)).trans bg;have f:=d.e k (by omega);have E:=ox w2 ⟨mk,mc,mn,me,ms,o,mv,ml,md⟩;have cw:(w2.alloc (.cells #[.int .i64 mk,.int .i64 mc,.int .i64 mn,.int .i64 me,.int .i64 ms,.int .i64 o,.int .i64 mv,.bool ml,.string md] 129)).drew.heap.size=w2.heap.size+1:=by show (World.alloc _ _).heap.size=_;simp
   refine T.out _ _ f (λc=>?_)


   refine on 6 λK T=>?_;refine App.nD (.tmp 22) (.tmp 24) rfl underlying141 hi bO bR b1 rfl (by decide) (by rfl) cb ⟨w2.heap.size,0,none⟩ 1 1 (by rfl) rfl E (jZ) (by unfold maxLen;omega) (by omega) (by omega) ?_;intro v1 w3 l G cd;have ce:iy w3 (a.S+1) v1 (s.waits o++[⟨mk,mc,mn,me,ms,o,mv,ml,md⟩]):=iy.I l;let ⟨R1,R2⟩:=Z.aw L D G ce (by simp;omega) cd
   have cg:=b2.e R2;have ci:MB w3 w.heap.size ⟨mk,mc,mn,me,ms,o,mv,ml,md⟩:=by
    have e:∀j,w3.cell? ⟨w.heap.size,j,none⟩=_:=λj=>aj (G.block w.heap.size (by omega) (λq=>a0.out q.symm));exact⟨(e _).trans f.y,(e _).trans f.i,(e _).trans f.u,(e _).trans f.j,(e _).trans f.p,(e _).trans f.h,(e _).trans f.t,(e _).trans f.x,(e _).trans f.A⟩
   refine T.out _ _ ci (λc=>?_)


   apply tk 9 10 c

   refine la 10 λK T=>?_;have cA:=Z.e;have U:w3.heap[a.S]?=_:=G.block a.S (by omega) (λq=>by have:=(Z.ac L D q.symm).1;omega);have cG:=(aj (a:=⟨a.S,48+o,none⟩) U).trans D;have cM:w3.frozen? ⟨a.S,48+o,none⟩=false:=(aJ (a:=⟨a.S,48+o,none⟩) U).trans (Z.o _);obtain⟨a1,cT,rfl,_,_⟩:=Net.cZ l;go_simp;apply T.out _ _

   generalize w3.setCell ⟨a.S,48+o,none⟩ _=w5 at *;go_wp2_with fail
   go_ret;rw[e.out];exact⟨rfl,R1,cg⟩
end Wld
namespace Net
variable{ps:List (Int×Bh)}{news:List Bg}{B g c k m:Nat}{f:Nat×Nat}{w:A1}
def TL(ps:List (Int×ByteArray))(p:Int×ByteArray):List (Int×ByteArray):=if ps.length<200 then ps++[p] else ps
def MY{q:Nat}(tz:Int)(s:Bh)(h:fm w B q ps):
  Calls prog 133 #[.pointer (some ⟨q,12405,none⟩),.agg #[.int .i64 tz,.string s]] w λe b=>e=.returned (.tuple #[])/\fm b B q (TL ps (tz,s))/\ik B 201 q w b:=by
 by_cases a:ps.length<200;have e:TL ps (tz,s)=ps++[(tz,s)]:=by simp[TL,a]
 rw[e];exact TE h a;have e:TL ps (tz,s)=ps:=by simp[TL,a]
 rw[e];exact TD h (by have:=h.j;omega)
def fm.e{w':A1}{q:Nat}(h:fm w B q ps)(j:Below w.heap.size w w'):fm w' B q ps:=by
 let ⟨⟨v,p,a⟩,⟨d,b⟩,k,l,r,f⟩:=h
 let ⟨hc,s⟩:=i5 j
 have c:q<w.heap.size:=by omega
 refine⟨⟨v,(hc _ _ c).trans p,a.1,?_⟩,⟨d,(hc _ _ c).trans b⟩,λi=>(s _ _ c).trans (k i),l,by have:=j.size;omega,f⟩;rcases a.2 with h|⟨g,m,n,t,u,o,x⟩
 exact .inl h;exact .inr ⟨g,m,n,t,u,(j.block g (am.1 o).1).trans o,x⟩
def TM{q C:Nat}(tz:Int){sv:Bg}{bs:List Int}(h:fm w B q ps)(hs:sH w C sv bs)(b:C<=w.heap.size):
  Calls prog 177 #[.pointer (some ⟨q,12405,none⟩),.agg #[.int .i64 tz,sv]] w λe a=>e=.returned (.tuple #[])/\fm a B q (TL ps (tz,dD bs))/\ik B 201 q w a:=by
 have d:=λo=>tC (hs.e ((au _ _).alloc b o) (aa _));obtain⟨ao,c,rfl,_⟩:=hs;go_enter func177,ntmps177;go_wp2_with fail
 apply (MY tz _ ((λo=>h.e ((au _ _).alloc (aa _) o)) _)).mono;rintro e a⟨rfl,f,g⟩;go_wp2;go_end0;exact⟨rfl,f,((ik.O).e).V g⟩
def TH{q:Nat}(h:fm w B q ps):
  Calls prog 43 #[.pointer (some ⟨q,12405,none⟩)] w λe d=>e=.returned (.int .i64 ps.length)/\d=w:=by
 obtain⟨⟨v,f,a⟩,_,_,_,_,b⟩:=h;obtain⟨ao,c,rfl,_,_⟩:=cZ a;go_enter func43,ntmps43;go_wp2;go_ret;exact⟨rfl,rfl⟩
def fm.H{q:Nat}(h:fm w B q ps)(k:Nat)(e:k<ps.length):
  ∃g c,w.cell? ⟨q,12405,none⟩=some (.slice (some ⟨g,0,none⟩) ps.length c)/\w.ownsRow B 201 2 (.slice (some ⟨g,0,none⟩) ps.length c) ps.length (cF ps)/\ps.length<=c/\B<=g/\g<w.heap.size /\
   w.cell? ⟨g,k*2,none⟩=some (.int .i64 ps[k].1)/\w.cell? ⟨g,k*2+1,none⟩=some (.string ps[k].2):=by
 obtain⟨⟨v,f,a⟩,_,_,_,_,_⟩:=h;rcases a.2 with⟨_,h0⟩|⟨g,b,i,rfl,j,m,l,_⟩
 omega;have d:=A9 ps k e;refine⟨g,b,f,a,l,j,(a.lt g rfl).2,?_,?_⟩;rw[a.cellAt _ (by omega)];exact d.1;rw[a.cellAt _ (by omega)];exact d.2
def E9{i:Nat}{a:Array Bg}{e:Bi}{u:Bg}(h:w.heap[g]?=some (.cells a e f)):(w.setCell (aA g i) u).heap[g]?=some (.cells (a.setIfInBounds i u) e f):=by
 unfold World.setCell;rw[bU,az rfl,h];rfl
def km{e:Bi}:∀(c:List Bg) (o:Nat) (w:A1) (b:Array Bg),w.heap[g]?=some (.cells b e f)->o+c.length<=b.size ->
  ∃a,(w.setCells g o c).heap[g]?=some (.cells a e f)/\a.size=b.size/\∀i,a[i]?=if o<=i/\i<o+c.length then c[i-o]? else b[i]?
 | [],o,w,b,h,_=>⟨b,h,rfl,λi=>by rw[ax (by simp)]⟩
 |v::c,o,w,b,h,d=>by
  rw[bT]at d;obtain⟨a,j,k,l⟩:=km c (o+1) _ _ (E9 (i:=o) (u:=v) h) (by simp;omega);refine⟨a,j,by simpa using k,λi=>?_⟩;rw[l i,bT];by_cases c1:o+1<=i/\i<o+1+c.length;rw[az c1,az (by omega),show i-o=(i-(o+1))+1 by omega,aY];rw[ax c1];by_cases c2:i=o;subst c2;rw[az (by omega),j4,bm,bi (by omega)];rw[ax (by omega),aN (by omega)]
def E8(g o j:Nat):((aA g o):Addr).add j=(aA g (o+j)):=by unfold Addr.add;split<;>simp_all
def TF(e:ps.length=k+m+1)(a:w.ownsRow B 201 2 (.slice (some (aA g 0)) ps.length c) ps.length (cF ps)):
  ∀j u,((cF ps).drop ((k+1)*2))[j]?=some u->w.drew.cell? (((aA g ((k+1)*2)):Addr).add j)=some u:=by
 intro j u b;rw[mU]at b;have d:=(aT.1 b).1;rw[jB]at d;rw[E8];show w.cell? (aA g ((k+1)*2+j))=some u;rw[a.cellAt _ (by omega)];exact b
def Px(b:ps.length=k+m+1)(a:w.ownsRow B 201 2 (.slice (some (aA g 0)) ps.length c) ps.length (cF ps)):
  ∀j,j<m*2->(w.drew.cell? (aA g (0+k*2+j))).isSome=true/\w.drew.frozen? (aA g (0+k*2+j))=false:=by
 intro j d;refine⟨?_,a.frozenAt _⟩;show (w.cell? (aA g (0+k*2+j))).isSome=true;rw[a.cellAt _ (by omega),aB (by rw[jB];omega)];rfl
def pm:∀(a:List Bg) (o:Nat) (w:A1) (x:Addr),(w.cell? x).isSome=true->((w.setCells g o a).cell? x).isSome=true
 | [],_,_,_,h=>h
 |v::a,o,w,x,h=>by
  rw[World.setCells];apply pm a (o+1) _ x;let ⟨u,c⟩:=aV.1 h
  let ⟨d,b⟩:=dO (p:=(aA g o)) (x:=v) c
  rw[b];rfl
def Dg(b:ps.length=k+m+1)(a:w.ownsRow B 201 2 (.slice (some (aA g 0)) ps.length c) ps.length (cF ps)):
  ∀j,j<2->((w.drew.setCells g (k*2) news).cell? (aA g ((k+m)*2+j))).isSome=true:=by
 intro j d;apply pm _ _ _ _;show (w.cell? (aA g ((k+m)*2+j))).isSome=true;rw[a.cellAt _ (by omega),aB (by rw[jB];omega)];rfl
def Df(W:A1)(g o c:Nat)(hc:∀j,j<2->(W.cell? (aA g (o+j))).isSome=true)(d:∀j,j<2->W.frozen? (aA g (o+j))=false):
  (Builtin.clear_ #[75] 0 #[.slice (some (aA g o)) 1 c]).run prog W=.ok (.tuple #[]) (W.setCells g o [iI 0,.string ⟨#[]⟩]):=by
 have a:=Cn (P:=prog) g o [iI 0,.string ⟨#[]⟩] 0 W (by simpa using hc) (by simpa using d) (by intro v b;simp at b;rcases b with rfl|rfl<;>rfl);simp at a;have e:(Builtin.zeroCells #[Value.int .i64 0,Value.string ⟨#[]⟩] 1).toList=[iI 0,.string ⟨#[]⟩]:=by kernel_rfl
 simp[Builtin.clear_,jm underlying75,Value.cells,e,a]
def wj:∀(ps:List (Int×Bh)) (k:Nat),k<ps.length->cF (ps.eraseIdx k)=(cF ps).take (k*2)++(cF ps).drop ((k+1)*2)
 |p::ps,0,_=>by simp[cF]
 |p::ps,k+1,h=>by
  have e:∀a,cF (p::a)=iI p.1 :: .string p.2::cF a:=λa=>by simp[cF]
  rw[nd,e,e,(wj ps k (by simpa using h))];rw[show (k+1)*2=k*2+1+1 by omega,show (k+1+1)*2=(k+1)*2+1+1 by omega];simp;rw[show k*2+1+1=(k+1)*2 by omega]
def jO:∀(c:List Bg) (o:Nat) (a w:A1),a.grownBy w (some g)->a.grownBy (w.setCells g o c) (some g)
 | [],_,_,_,h=>h
 |v::c,o,a,w,h=>by
  rw[World.setCells];refine jO c (o+1) a _ ⟨h.os,h.tape,h.output,by simpa using h.size,λk d b=>?_⟩;rw[aX w (aA g o) v k (λe=>b (by rw[e]))];exact h.block k d b
def MZ{n o:Bg}(t:ps.length=k+m+1)(u:k<ps.length)(d:w.ownsRow B 201 2 (.slice (some (aA g 0)) ps.length c) ps.length (cF ps))(p:(cF ps).drop ((k+1)*2)=news)(q:news.length=m*2):
  ((w.drew.setCells g (k*2) news).setCells g ((k+m)*2) [n,o]).ownsRow B 201 2 (.slice (some (aA g 0)) (k+m) c) (k+m) (cF (ps.eraseIdx k))/\w.grownBy ((w.drew.setCells g (k*2) news).setCells g ((k+m)*2) [n,o]) (some g):=by
 refine⟨?_,jO _ _ _ _ (jO _ _ _ _ ⟨rfl,rfl,rfl,aa _,λ_ _ _=>rfl⟩)⟩;have v:(cF ps).length=(k+m+1)*2:=by rw[jB,t]
 refine⟨(by rw[jB,gE u];omega),.inr ?_⟩;rcases d.2 with⟨h,_⟩|⟨M,z,e,A,C,D,E,r,b,a⟩
 cases h;injection A with f N F
 injection f with f
 injection f with f
 subst f F;rw[t]at E a;let ⟨c1,G,x,H⟩:=km news (k*2) w.drew e D (by rw[q,b];omega)
 let ⟨c2,I,J,K⟩:=km [n,o] ((k+m)*2) _ c1 G (by rw[x,b];simp;omega)
 refine⟨g,c,c2,rfl,C,I,by omega,r,by rw[J,x,b],?_⟩;rw[wj ps k u];apply iz;intro i;rw[eM];by_cases y:i<(k+m)*2;rw[az y,fh,K i,ax (by simp;omega),H i];have l:∀j,j<(k+m+1)*2->e[j]?=(cF ps)[j]?:=λj L=>by
  rw[<-a,eM,az L,fh]
 by_cases s:i<k*2;rw[ax (by omega),l i (by omega),bn (by rw[cu];omega),eM,az s];rw[az (by omega),aQ (by rw[cu];omega),cu,<-p,show min (k*2) (cF ps).length=k*2 by omega];rw[ax y,ky];rw[aM,cu,cK];omega
def XK(A:k<ps.length)(F:ps.length<=200)(r:ps.length<=c)(G:c<=9223372036854775807)(a:w.ownsRow B 201 2 (.slice (some (aA g 0)) ps.length c) ps.length (cF ps)):
  Calls prog 127 #[.slice (some (aA g 0)) ps.length c,iI k,iI ((k:Int)+1)] w λe C=>e=.returned (.slice (some (aA g 0)) (ps.length-1) c)/\C.ownsRow B 201 2 (.slice (some (aA g 0)) (ps.length-1) c) (ps.length-1) (cF (ps.eraseIdx k))/\w.grownBy C (some g):=by
 obtain⟨D,E,H,l,I⟩:=dw yh;obtain⟨m,i⟩:∃m,ps.length=k+m+1:=⟨ps.length-(k+1),by omega⟩;have b:=TF i a;have h:=Px i a;obtain⟨news,d⟩:∃news,(cF ps).drop ((k+1)*2)=news:=⟨_,rfl⟩;have s:news.length=m*2:=by rw[<-d,cK,jB,i];omega
 have t:∀u∈news,u.oneCell'=true:=λu q=>Kx ps u (by rw[<-d]at q;exact py q);rw[d]at b;rw[i]at r F⊢;have J:((k:Int)==(k:Int)+1)=false:=by simp;omega
 have K:k<=c:=by omega
 have L:(0:Int)<=(k:Int)+1:=by omega
 have M:(k:Int)+1<=(k:Int)+(m:Int)+1:=by omega
 have N:((k:Int)+1).toNat=k+1:=by omega
 have v :Hid _:= b;have x :Hid _:= h;have f :Hid _:= s;have y :Hid _:= t;by_cases z:c=k+1
 .obtain rfl:m=0:=by omega
  have n:= dG (by have:=f.out;omega);subst n;subst z;have O:(k:Int)<=(k:Int)+1:=by omega
  go_enter func127,ntmps127;go_wp2_with fail
  go_region_law (refine step_append_room rfl (.tmp 22) (.tmp 25) 75 rfl 201 D 2 underlying75 E l g 0 k (k+1) (by simp[Act.eval,Act.put]) ⟨g,0,none⟩ 0 0 [] (by simp[Act.eval,Act.put]) rfl (λj u o=>by simp at o) (λu q=>by simp at q) (by omega) (λj o=>by simp at o) ?_);have p:=Df (w.drew.setCells g (k*2) []) g (k*2) 1 (Dg (m:=0) (news:=[]) i a) (λj _=>a.frozenAt _);all_goals go_wp2_with fail
  all_goals go_ret
  exact⟨rfl,MZ i A a d f.out⟩
 .go_enter func127,ntmps127;go_wp2_with fail
  go_region_law (refine step_append_room rfl (.tmp 22) (.tmp 25) 75 rfl 201 D 2 underlying75 E l g 0 k c (by simp[Act.eval,Act.put]) ⟨g,(k+1)*2,none⟩ m (c-(k+1)) news (by simp[Act.eval,Act.put]) f.out v.out y.out (by omega) (λj o=>x.out j (by rw[<-f.out];exact o)) ?_);have p:=Df (w.drew.setCells g (k*2) news) g ((k+m)*2) (c-(k+m)) (Dg i a) (λj _=>by rw[i8];exact a.frozenAt _);all_goals go_wp2_with fail
  all_goals go_ret
  exact⟨rfl,MZ i A a d f.out⟩
end Net
namespace Wld
variable{a:Ad}{ps:List M}{news:List Bg}{B g c k m:Nat}{w:A1}
def Qi(e:ps.length=k+m+1)(a:w.ownsRow B 129 9 (.slice (some (aA g 0)) ps.length c) ps.length (dK ps)):
  ∀j u,((dK ps).drop ((k+1)*9))[j]?=some u->w.drew.cell? (((aA g ((k+1)*9)):Addr).add j)=some u:=by
 intro j u b;rw[mU]at b;have d:=(aT.1 b).1;rw[ij]at d;rw[Net.E8];show w.cell? (aA g ((k+1)*9+j))=some u;rw[a.cellAt _ (by omega)];exact b
def K4(b:ps.length=k+m+1)(a:w.ownsRow B 129 9 (.slice (some (aA g 0)) ps.length c) ps.length (dK ps)):
  ∀j,j<m*9->(w.drew.cell? (aA g (0+k*9+j))).isSome=true/\w.drew.frozen? (aA g (0+k*9+j))=false:=by
 intro j d;refine⟨?_,a.frozenAt _⟩;show (w.cell? (aA g (0+k*9+j))).isSome=true;rw[a.cellAt _ (by omega),aB (by rw[ij];omega)];rfl
def K5(b:ps.length=k+m+1)(a:w.ownsRow B 129 9 (.slice (some (aA g 0)) ps.length c) ps.length (dK ps)):
  ∀j,j<9->((w.drew.setCells g (k*9) news).cell? (aA g ((k+m)*9+j))).isSome=true:=by
 intro j d;apply Net.pm _ _ _ _;show (w.cell? (aA g ((k+m)*9+j))).isSome=true;rw[a.cellAt _ (by omega),aB (by rw[ij];omega)];rfl
def NB:M:=⟨0,0,0,0,0,0,0,false,⟨#[]⟩⟩
def KY(W:A1)(g o c:Nat)(hc:∀j,j<9->(W.cell? (aA g (o+j))).isSome=true)(b:∀j,j<9->W.frozen? (aA g (o+j))=false):
  (Builtin.clear_ #[141] 0 #[.slice (some (aA g o)) 1 c]).run prog W=.ok (.tuple #[]) (W.setCells g o (f8 NB)):=by
 have a:=Cn (P:=prog) g o (f8 NB) 0 W (by simpa[f8] using hc) (by simpa[f8] using b) (jZ);simp at a;have d:(Builtin.zeroCells #[Value.int .i64 0,Value.int .i64 0,Value.int .i64 0,Value.int .i64 0,Value.int .i64 0,Value.int .i64 0,Value.int .i64 0,Value.bool false,Value.string ⟨#[]⟩] 1).toList=f8 NB:=by kernel_rfl
 simp[Builtin.clear_,jm underlying141,Value.cells,d,a]
def Ci(a b:List M):dK (a++b)=dK a++dK b:=by simp[dK]
def wE:∀(ps:List M) (k:Nat),k<ps.length->dK (ps.eraseIdx k)=(dK ps).take (k*9)++(dK ps).drop ((k+1)*9)
 |p::ps,0,_=>by
  rw[List.eraseIdx_cons_zero,kT,Ga,List.take_zero,cH,List.drop_left' (by rw[fP])]
 |p::ps,k+1,h=>by
  have a:List.take ((k+1)*9) (f8 p++dK ps)=f8 p++List.take (k*9) (dK ps):=by
   rw[Jr,iT (l:=f8 p) (by rw[fP];omega),fP,show (k+1)*9-9=k*9 by omega]
  have b:List.drop ((k+1+1)*9) (f8 p++dK ps)=List.drop ((k+1)*9) (dK ps):=by
   rw[Jp,j3 (l:=f8 p) (by rw[fP];omega),fP,cH,show (k+1+1)*9-9=(k+1)*9 by omega]
  rw[nd,kT,kT,(wE ps k (by simpa using h)),a,b,bQ]
def UJ{zs:List Bg}(d:zs.length=9)(s:ps.length=k+m+1)(t:k<ps.length)(e:w.ownsRow B 129 9 (.slice (some (aA g 0)) ps.length c) ps.length (dK ps))(o:(dK ps).drop ((k+1)*9)=news)(p:news.length=m*9):
  ((w.drew.setCells g (k*9) news).setCells g ((k+m)*9) zs).ownsRow B 129 9 (.slice (some (aA g 0)) (k+m) c) (k+m) (dK (ps.eraseIdx k))/\w.grownBy ((w.drew.setCells g (k*9) news).setCells g ((k+m)*9) zs) (some g):=by
 refine⟨?_,Net.jO _ _ _ _ (Net.jO _ _ _ _ ⟨rfl,rfl,rfl,aa _,λ_ _ _=>rfl⟩)⟩;have u:(dK ps).length=(k+m+1)*9:=by rw[ij,s]
 refine⟨(by rw[ij,gE t];omega),.inr ?_⟩;rcases e.2 with⟨h,_⟩|⟨L,y,f,z,A,C,D,q,b,a⟩
 cases h;injection z with l M E
 injection l with l
 injection l with l
 subst l E;rw[s]at D a;let ⟨c1,F,v,G⟩:=Net.km news (k*9) w.drew f C (by rw[p,b];omega)
 let ⟨c2,H,I,J⟩:=Net.km zs ((k+m)*9) _ c1 F (by rw[v,b,d];omega)
 refine⟨g,c,c2,rfl,A,H,by omega,q,by rw[I,v,b],?_⟩;rw[wE ps k t];apply iz;intro i;rw[eM];by_cases x:i<(k+m)*9;rw[az x,fh,J i,ax (by rw[d];omega),G i];have n:∀j,j<(k+m+1)*9->f[j]?=(dK ps)[j]?:=λj K=>by
  rw[<-a,eM,az K,fh]
 by_cases r:i<k*9;rw[ax (by omega),n i (by omega),bn (by rw[cu];omega),eM,az r];rw[az (by omega),aQ (by rw[cu];omega),cu,<-o,show min (k*9) (dK ps).length=k*9 by omega];rw[ax x,ky];rw[aM,cu,cK];omega
def UI(k:Nat)(w:A1)(G:k<ps.length)(H:ps.length<=200)(t:ps.length<=c)(I:c<=9223372036854775807)(a:w.ownsRow B 129 9 (.slice (some (aA g 0)) ps.length c) ps.length (dK ps)):
  Calls prog 197 #[.slice (some (aA g 0)) ps.length c,iI k,iI ((k:Int)+1)] w λe C=>e=.returned (.slice (some (aA g 0)) (ps.length-1) c)/\C.ownsRow B 129 9 (.slice (some (aA g 0)) (ps.length-1) c) (ps.length-1) (dK (ps.eraseIdx k))/\w.grownBy C (some g):=by
 let ⟨D,E,J,l,K⟩:=dw kw
 let ⟨m,i⟩:∃m,ps.length=k+m+1:=⟨ps.length-(k+1),by omega⟩
 have b:=Qi i a;have d:=K4 i a;let ⟨news,f⟩:∃news,(dK ps).drop ((k+1)*9)=news:=⟨_,rfl⟩
 have n:news.length=m*9:=by rw[<-f,cK,ij,i];omega
 have v:∀u∈news,u.oneCell'=true:=λu s=>Bv ps u (by rw[<-f]at s;exact py s);have o:=UJ (zs:=f8 NB) (fP _) i G a f n;have p:=KY (w.drew.setCells g (k*9) news) g ((k+m)*9) (c-(k+m)) (K5 i a) (λj _=>by rw[i8];exact a.frozenAt _);rw[f]at b;rw[i]at t H⊢;have L:((k:Int)==(k:Int)+1)=false:=by simp;omega
 have M:k<=c:=by omega
 have N:(0:Int)<=(k:Int)+1:=by omega
 have O:(k:Int)+1<=(k:Int)+(m:Int)+1:=by omega
 have P:((k:Int)+1).toNat=k+1:=by omega
 have x :Hid _:= b;have y :Hid _:= d;have h :Hid _:= n;have z :Hid _:= v;have F :Hid _:= o;by_cases A:c=k+1
 .obtain rfl:m=0:=by omega
  have q:= dG (by have:=h.out;omega);subst q;subst A;rw[show k+1-(k+0)=1 by omega,lL]at p;have Q:(k:Int)<=(k:Int)+1:=by omega
  go_enter func197,ntmps197;go_wp2_with fail
  go_region_law (refine step_append_room rfl (.tmp 22) (.tmp 25) 141 rfl 129 D 9 underlying141 E l g 0 k (k+1) (by simp[Act.eval,Act.put]) (aA g 0) 0 0 [] (by simp[Act.eval,Act.put]) rfl (λj u r=>by simp at r) (λu s=>by simp at s) (by omega) (λj r=>by simp at r) ?_);all_goals go_wp2_with fail
  all_goals go_ret
  exact⟨rfl,F.out⟩
 .go_enter func197,ntmps197;go_wp2_with fail
  go_region_law (refine step_append_room rfl (.tmp 22) (.tmp 25) 141 rfl 129 D 9 underlying141 E l g 0 k c (by simp[Act.eval,Act.put]) (aA g ((k+1)*9)) m (c-(k+1)) news (by simp[Act.eval,Act.put]) h.out x.out z.out (by omega) (λj r=>y.out j (by rw[<-h.out];exact r)) ?_);all_goals go_wp2_with fail
  all_goals go_ret
  exact⟨rfl,F.out⟩
def Sv.h(s:Sv)(r:R):Sv:=
 if r.o<0 then {s with bO:=r.e} else
 if j0 r.c r.n (s.last (bx r.c))=true then {s with vd:=bB s.vd r.o.toNat r.d,vv:=bB s.vv r.o.toNat r.v,last:=bB s.last (bx r.c) r}
 else {s with vd:=bB s.vd r.o.toNat r.d,vv:=bB s.vv r.o.toNat r.v}
def cx.ai{s:Sv}(h:cx w a s){i:Nat}(b:i<4):cC w (aA a.S (23+i*6)) (iI (s.last i).c)/\cC w (aA a.S (23+i*6+1)) (iI (s.last i).n)/\cC w (aA a.S (23+i*6+2)) (iI (s.last i).o)/\cC w (aA a.S (23+i*6+3)) (iI (s.last i).v)/\cC w (aA a.S (23+i*6+4)) (.string (s.last i).d)/\cC w (aA a.S (23+i*6+5)) (iI (s.last i).e):=
 ⟨h.la i b 0 _ rfl,h.la i b 1 _ rfl,h.la i b 2 _ rfl,h.la i b 3 _ rfl,h.la i b 4 _ rfl,h.la i b 5 _ rfl⟩
def Fx:(prog.info? 138).map (·.size)=some 6:=by kernel_rfl
def Ic{s:Sv}(r:R)(h:cx w a s)(g:r.o<0):
  Calls prog 175 #[tp a.S,r.H] w λe b=>e=.returned (.tuple #[])/\cx b a {s with bO:=r.e}/\Fs a w b:=by
 have F:∀o,cx _ a {s with bO:=r.e}:=λo=>(h.av r.e).j o;have c:∀o,Fs a w ((w.setCell (aA a.S 5) (iI r.e)).alloc o):=λo=>((Fs.j).ac h (by omega)).O (h.av r.e) o;have c5:=h.c5;have i:=h.o;have d:=h.lt;have f:a.S≠w.heap.size:=by omega
 unfold Wal.R.H;go_enter func175,ntmps175;go_wp2_with fail
 exact bz (v:=.tuple #[]) (by simp[results,results175]) rfl ⟨rfl,F _,c _⟩
def Id{s:Sv}(d k f l:Int)(o:Nat)(g:Bh)(h:cx w a s)(hc:0<=d)(N:o<8){s':Sv}(r:Hid ((⟨s.i,s.b,s.o,s.xC,s.bO,s.gq,bB s.vd o g,bB s.vv o f,if j0 d k (s.last (bx d))=true then bB s.last (bx d) ⟨d,k,o,f,g,l⟩ else s.last,s.D,s.mR,s.iu,s.n,s.waits,s.rs,s.dS,s.dX,s.da⟩:Sv)=s')):
  Calls prog 175 #[tp a.S,Wal.R.H ⟨d,k,o,f,g,l⟩] w λe z=>e=.returned (.tuple #[])/\cx z a s'/\Fs a w z:=by
 have aS:=h.lt;have a0:a.S≠w.heap.size:=by omega
 have Z:=Bx.h w ⟨d,k,o,f,g,l⟩ 138;have F:=h.j (.cells #[iI d,iI k,iI o,iI f,.string g,iI l] 138);have hF:Fs a w (w.alloc (.cells #[iI d,iI k,iI o,iI f,.string g,iI l] 138)):=(Fs.j).O h _;have a1:w.heap.size<(w.alloc (.cells #[iI d,iI k,iI o,iI f,.string g,iI l] 138)).heap.size:=by simp
 have ba:(0:Int)<=(o:Int):=by omega
 have bc:(o:Int)<8:=by omega
 have bg:¬(o:Int)<0:=by omega
 unfold Wal.R.H;dsimp only at Z⊢

 go_enter func175,ntmps175;go_wp2_with fail
 generalize w.alloc (.cells #[iI d,iI k,iI o,iI f,.string g,iI l] 138)=w1 at *;let ⟨b0,b1,b2,b3,b4,b5⟩:=Z
 dsimp only at b0 b1 b2 b3 b4 b5;have F2:=F.I.a3 N g f;have P:=hF.V.af F.I (7+o*2) [.string g,iI f] (by simp;omega);have c:∀j,(w1.drew.setCells a.S (7+o*2) [.string g,iI f]).cell? (aA w.heap.size j)=w1.cell? (aA w.heap.size j):=λj=>by
  simp only[World.setCells];rw[ak _ _ _ _ (by intro e;injection e with e;omega),ak _ _ _ _ (by intro e;injection e with e;omega)];rfl
 have E:=(c 0).trans b0;have G:=(c 1).trans b1;have J:=(c 2).trans b2;have K:=(c 3).trans b3;have L:=(c 4).trans b4;have M:=(c 5).trans b5;have ad:(w1.drew.setCells a.S (7+o*2) [.string g,iI f]).heap.size=w1.heap.size:=Vu _ _ _;have dd:=F.vd o N;have dv:=F.vv o N;have hf:=F.o;go_still_tail 11,(by kernel_rfl);go_wp2_with fail
 change Code.wp _ _ _ _ (w1.drew.setCells a.S (7+o*2) [.string g,iI f])

 generalize w1.drew.setCells a.S (7+o*2) [.string g,iI f]=w2 at *;have hs:=λw=>(oz w hc).mono (R':=λe z=>e=.returned (iI (bx d:Nat))/\∃n,z=w.drewN n) (λe z h=>⟨h.1,0,h.2⟩);have t:=mJ d;let ⟨q,Q⟩:∃q,bx d=q:=⟨_,rfl⟩
 rw[Q]at hs t r

 have bK:(0:Int)<=(q:Int):=by omega
 have bR:(q:Int)<4:=by omega
 go_quiet (first|(go_at_call 137;refine Calls.quiet_of (hs _)));go_wp2_with fail
 generalize v:w2.drewN _=W;have T:cx W a {s with vd:=bB s.vd o g,vv:=bB s.vv o f}:=by rw[<-v];exact F2.ab
 have U:Fs a w W:=by rw[<-v];exact P.ab
 have E:cC W (aA w.heap.size 0) (iI d):=by rw[<-v];exact E
 have G:cC W (aA w.heap.size 1) (iI k):=by rw[<-v];exact G
 have J:cC W (aA w.heap.size 2) (iI o):=by rw[<-v];exact J
 have K:cC W (aA w.heap.size 3) (iI f):=by rw[<-v];exact K
 have L:cC W (aA w.heap.size 4) (.string g):=by rw[<-v];exact L
 have M:cC W (aA w.heap.size 5) (iI l):=by rw[<-v];exact M
 have aI:w.heap.size<W.heap.size:=by rw[<-v];show _<w2.heap.size;omega

 let ⟨l0,l1,l2,l3,l4,l5⟩:=T.ai t
 dsimp only at l0 l1 l2 l3 l4 l5;go_still_tail 7,(by kernel_rfl);go_wp2_with fail
 have x:=DQ d k (s.last q) W.drew;unfold Wal.R.H at x;apply x.mono;rintro e w3⟨rfl,y⟩

 have A:=T.I.h y;have B:=U.V.I T.I y;have m:∀j,w3.cell? (aA w.heap.size j)=W.cell? (aA w.heap.size j):=λj=>y.cell (p:=(aA w.heap.size j)) (by show _<W.heap.size;omega);have E:=(m 0).trans E;have G:=(m 1).trans G;have J:=(m 2).trans J;have K:=(m 3).trans K;have L:=(m 4).trans L;have M:=(m 5).trans M

 let ⟨b,hb⟩:∃b,j0 d k (s.last q)=b:=⟨_,rfl⟩
 rw[hb]at r⊢

 cases b with
 |false=>
  go_wp2_with fail
  go_end0;have e:s' = {s with vd:=bB s.vd o g,vv:=bB s.vv o f}:=r.out.symm;rw[e];exact⟨rfl,A,B⟩
 |true=>
  have F5:=A.aU t ⟨d,k,o,f,g,l⟩;have X:=B.af A (23+q*6) (Wal.R.h ⟨d,k,o,f,g,l⟩) (by rw[Wal.R.j];omega);have Y:w3.there a.S (23+q*6) 6:=λj hj=>by
   let ⟨u,hu⟩:∃u,(s.last q).h[j]?=some u:=⟨_,aB (by rw[Wal.R.j];exact hj)⟩
   exact⟨by rw[A.la q t j u hu];rfl,A.o _⟩
  have C:(Wal.R.h ⟨d,k,o,f,g,l⟩).toArray.all (·.oneCell')=true:=all_oneCell_toArray (Wal.R.I _);go_wp2_with (refine wpList_store_mid rfl 138 (.tmp 41) (.tmp 40) rfl a.S (23+q*6) (Wal.R.h ⟨d,k,o,f,g,l⟩).toArray rfl rfl Y Fx C ?_)
  change bodyPost _ _ _ _ _ (w3.setCells a.S (23+q*6) (Wal.R.h ⟨d,k,o,f,g,l⟩));go_end0;have e:= r.out.symm;rw[e];exact⟨rfl,F5,X⟩
def DA{s:Sv}(r:R)(h:cx w a s)(hc:0<=r.c)(g:r.o<8):
  Calls prog 175 #[tp a.S,r.H] w λe d=>e=.returned (.tuple #[])/\cx d a (s.h r)/\Fs a w d:=by
 unfold Sv.h;by_cases h0:r.o<0;rw[az h0];exact Ic r h h0;rw[ax h0];let ⟨b,f,i,j,k,l⟩:=r
 dsimp only at hc g h0⊢;obtain⟨o,rfl⟩:=vl (show 0<=i by omega);rw[show ((o:Int)).toNat=o by omega];apply Id b f j l o k h hc (by omega);cases j0 b f (s.last (bx b))<;>rfl
def Sv.ac(s:Sv)(r:R):Sv×Int:=
 if s.dS=true then (s,6) else if s.rs.length=200 then (s,12) else if s.dX=true/\s.da=0 then ({s with dS:=true},14)
 else ({s with rs:=s.rs++[r],da:=if s.dX=true then s.da-1 else s.da},0)
def M8{s:Sv}(f:Int){r:R}(h:cx w a s)(u:jf r=true)(h0:0<=s.da)(B:s.da<=9223372036854775807):
  Calls prog 176 #[tp a.U,r.H,iI f] w λe m=>e=.returned (eV (s.ac r).2)/\cx m a (s.ac r).1/\Fs a w m:=by
 unfold Sv.ac;have n:=h.F;have i:=h.Z;have A:=i.t;by_cases hd:s.dS=true;rw[az hd];rw[hd]at n;apply (Wal.TT f r n).mono;rintro e m⟨rfl,p⟩;exact⟨rfl,h.h p,Fs.H h p⟩;rw[ax hd];have o:s.dS=false:=by simpa using hd
 rw[o]at n;by_cases y:s.rs.length=200;rw[az y];apply (Wal.TU s.da f n i h.x y u).mono;rintro e m⟨rfl,p⟩;exact⟨rfl,h.h p,Fs.H h p⟩;rw[ax y];have z:s.rs.length<200:=by omega
 cases hfl:s.dX with
 |false=>
  rw[ax (λe=>by simp at e),ax (by simp)];rw[hfl]at i;apply (Wal.TV s.da _ f n i h.x z u (Wal.KH)).mono;rintro e m⟨rfl,q,g,l⟩;have k:=h.ao q g l;refine⟨rfl,?_,(Fs.j).fw h l⟩

  rw[o];exact k
 |true=>
  rw[hfl]at i;by_cases v:s.da=0;rw[az ⟨rfl,v⟩];rw[v]at i;apply (Wal.XO f n i h.x z u).mono;rintro e m⟨rfl,q,g,l⟩;have k:=h.ao q g l;refine⟨rfl,?_,(Fs.j).fw h l⟩

  rw[v];exact k;rw[ax (λe=>v e.2),az rfl];apply (Wal.TV s.da _ f n i h.x z u λW a b c d=>Wal.PU a b c d (by omega) B).mono;rintro e m⟨rfl,q,g,l⟩;have k:=h.ao q g l;refine⟨rfl,?_,(Fs.j).fw h l⟩

  rw[o];exact k
def Sv.V(s:Sv)(m:M)(o:Nat):R:=⟨m.c,m.n,o,s.vv o+1,m.d,0⟩
def Sv.j(s:Sv)(m:M)(o:Nat):Sv×Int×Bool:=
 if (s.ac (s.V m o)).2=0 then ((s.ac (s.V m o)).1.h (s.V m o),s.vv o+1,true) else ((s.ac (s.V m o)).1,0,!(s.ac (s.V m o)).1.dS)
variable{s:Sv}
def K0{mk mc mn me ms mv:Int}{o:Nat}{ml:Bool}{md:Bh}(h:cx w a s)(Q:o<8)(T:jf (s.V ⟨mk,mc,mn,me,ms,o,mv,ml,md⟩ o)=true)(hc:0<=mc)(h0:0<=s.da)(U:s.da<=9223372036854775807)(W:0<=s.vv o)(X:s.vv o<=4611686018427387904){x:Sv×Int×Bool}(L:Hid (s.j ⟨mk,mc,mn,me,ms,o,mv,ml,md⟩ o=x)):
  Calls prog 196 #[tp a.S,Wire.M.ab ⟨mk,mc,mn,me,ms,o,mv,ml,md⟩] w λe t=>e=.returned (.tuple #[iI x.2.1,.bool x.2.2])/\cx t a x.1/\Fs a w t:=by
 have Y:=h.lt;have Z:a.S≠w.heap.size:=by omega
 have N:a.S≠w.heap.size+1:=by omega
 have hv:=h.vv o Q;have ad:(0:Int)<=(o:Int):=by omega
 have A:(o:Int)<8:=by omega
 have F:∀d i,cx ((w.alloc d).alloc i).drew a s:=λd i=>((h.j d).j i).I;have hF:∀d i,Fs a w ((w.alloc d).alloc i).drew:=λd i=>(((Fs.j).O h d).O (h.j d) i).V;have hB:∀d,Bx ((w.alloc d).alloc (.cells #[iI mc,iI mn,iI o,iI (s.vv o+1),.string md,iI 0] 138)).drew (w.heap.size+1) ⟨mc,mn,o,s.vv o+1,md,0⟩:=λd=>by
  have:=Bx.h (w.alloc d) ⟨mc,mn,o,s.vv o+1,md,0⟩ 138;rw[show (w.alloc d).heap.size=w.heap.size+1 by simp]at this;exact this
 have B:∀d i,((w.alloc d).alloc i).drew.heap.size=w.heap.size+2:=λd i=>by show ((w.alloc d).alloc i).heap.size=_;simp
 have C:∀d i,¬fy ((w.alloc d).alloc i).drew.drew a (w.heap.size+1):=λd i=>h.O ((((au _ _).alloc (aa _) d).alloc (by simp) i).drew.drew) (by omega);unfold Wire.M.ab;dsimp only;go_enter func196,ntmps196;go_wp2_with fail
 go_region;all_goals go_wp2_with fail
 all_goals
  have z:=F (.cells #[iI mk,iI mc,iI mn,iI me,iI ms,iI o,iI mv,.bool ml,.string md] 129) (.cells #[iI mc,iI mn,iI o,iI (s.vv o+1),.string md,iI 0] 138);have u:=hF (.cells #[iI mk,iI mc,iI mn,iI me,iI ms,iI o,iI mv,.bool ml,.string md] 129) (.cells #[iI mc,iI mn,iI o,iI (s.vv o+1),.string md,iI 0] 138);have D:=hB (.cells #[iI mk,iI mc,iI mn,iI me,iI ms,iI o,iI mv,.bool ml,.string md] 129);have aI:=B (.cells #[iI mk,iI mc,iI mn,iI me,iI ms,iI o,iI mv,.bool ml,.string md] 129) (.cells #[iI mc,iI mn,iI o,iI (s.vv o+1),.string md,iI 0] 138);have g:=C (.cells #[iI mk,iI mc,iI mn,iI me,iI ms,iI o,iI mv,.bool ml,.string md] 129) (.cells #[iI mc,iI mn,iI o,iI (s.vv o+1),.string md,iI 0] 138);generalize ((w.alloc (.cells #[.int .i64 mk,.int .i64 mc,.int .i64 mn,.int .i64 me,.int .i64 ms,.int .i64 o,.int .i64 mv,.bool ml,.string md] 129)).alloc (.cells #[.int .i64 mc,.int .i64 mn,.int .i64 o,.int .i64 (s.vv o+1),.string md,.int .i64 0] 138)).drew=w1 at *;obtain⟨b0,E,J,b3,b4,b5⟩:=D;dsimp only at b0 E J b3 b4 b5;have c3:=z.c3;have c4:=z.c4;have c:=M8 s.xC z.I T h0 U;have p:∀w2,cx w2 a (s.ac (s.V ⟨mk,mc,mn,me,ms,o,mv,ml,md⟩ o)).1->Calls prog 175 #[tp a.S,Wal.R.H ⟨mc,mn,o,s.vv o+1,md,0⟩] w2 λe t=>e=.returned (.tuple #[])/\cx t a ((s.ac (s.V ⟨mk,mc,mn,me,ms,o,mv,ml,md⟩ o)).1.h (s.V ⟨mk,mc,mn,me,ms,o,mv,ml,md⟩ o))/\Fs a w2 t:=λw2 h2=>DA (s.V ⟨mk,mc,mn,me,ms,o,mv,ml,md⟩ o) h2 hc A;have m:Hid ((if (s.ac (s.V ⟨mk,mc,mn,me,ms,o,mv,ml,md⟩ o)).2=0 then ((s.ac (s.V ⟨mk,mc,mn,me,ms,o,mv,ml,md⟩ o)).1.h (s.V ⟨mk,mc,mn,me,ms,o,mv,ml,md⟩ o),s.vv o+1,true) else ((s.ac (s.V ⟨mk,mc,mn,me,ms,o,mv,ml,md⟩ o)).1,0,!(s.ac (s.V ⟨mk,mc,mn,me,ms,o,mv,ml,md⟩ o)).1.dS))=x):=L.out;clear L;unfold Wal.R.H at c p;unfold Sv.V at c;dsimp only at c;rw[show (⟨mc,mn,o,s.vv o+1,md,0⟩:R)=s.V ⟨mk,mc,mn,me,ms,o,mv,ml,md⟩ o from rfl]at c;generalize (s.V ⟨mk,mc,mn,me,ms,o,mv,ml,md⟩ o)=r at *;generalize (s.ac r)=y at *;obtain⟨s2,en⟩:=y;dsimp only at c p m;go_still_tail 9,(by kernel_rfl);go_wp2_with fail
  refine c.mono ?_;rintro e w2⟨rfl,G,k⟩;clear c;have P:=u.V.e k;by_cases K:en=0
  .subst K;have n:∀j,w2.cell? (aA (w.heap.size+1) j)=w1.cell? (aA (w.heap.size+1) j):=λj=>aj (k.o (w.heap.size+1) (by show _<w1.heap.size;omega) g);have l:¬fy w2 a (w.heap.size+1):=λf=>g (k.h _ (by show _<w1.heap.size;omega) f);have aS:=k.b;have a0:w1.drew.heap.size=w1.heap.size:=rfl;have b0:=(n 0).trans b0;have E:=(n 1).trans E;have J:=(n 2).trans J;have b3:=(n 3).trans b3;have b4:=(n 4).trans b4;have b5:=(n 5).trans b5;rw[show eV 0=.nilIface from rfl];have q:Hid (x=(s2.h r,s.vv o+1,true)):=m.out.symm;clear m n c3 c4 z u k g;go_wp2_with fail
   refine(p w2 G).mono ?_;rintro e w3⟨rfl,G3,v⟩;have n:w3.cell? (aA (w.heap.size+1) 3)=some (iI (s.vv o+1)):=(aj (v.o (w.heap.size+1) (by omega) l)).trans b3;go_wp2_with fail
   go_ret2;rw[q.out];exact⟨rfl,G3,P.e v⟩
  .rw[Bn K];have q :Hid _:= m.out.symm.trans (ax K);have hd:=pZ G;go_wp2_with fail
   refine hd.mono ?_;rintro e w3⟨rfl,rfl⟩;go_wp2_with fail
   go_ret2;rw[q.out];exact⟨rfl,G,P⟩
end Wld
end Go.Proofs.YtbebfliimjjohabGreatDoor
