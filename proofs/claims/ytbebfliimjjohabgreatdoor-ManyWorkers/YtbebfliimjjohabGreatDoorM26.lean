/- Parts of the proof. -/
import Derived.Test.YtbebfliimjjohabGreatDoorM25
set_option maxRecDepth 100000
set_option maxHeartbeats 8000000
set_option linter.all false
open Go.Proofs.Tryz
namespace Go.Proofs.YtbebfliimjjohabGreatDoor open Gen (la on tk)
open Go.RowKit Go.Maps
open Cache (tp aZ bq)
open Num (M dq)
open Lease (Ob fN ic ek dH mx cy jm fY eI de)
open Wal (R du bM Oq Fw cO Bx jv)
open Wire (tS iv ru sd)
namespace Wld
variable{a:Ad}{mc mn:Int}{l:List M}{B o:Nat}{w:Ba}
def kL(mc mn:Int)(x:M):Bool:=decide (x.c=mc)&&decide (x.n=mn)
def Tq(mc mn:Int)(q:Nat)(x:M)(w:Ba)(b1:cC w (aA q 1) (iI mc))(b2:cC w (aA q 2) (iI mn)):
  Calls prog 259 #[Wire.M.ab x,tp q] w λe b=>e=.returned (.bool (kL mc mn x))/\FF w b:=by
 have g:q<w.heap.size:=cz _ _ b1;have d:q≠w.heap.size:=ak;unfold kL Wire.M.ab;by_cases a:x.c=mc
 .have f:(x.c==mc)=true:=dD a;rw[aX a];go_in;go_wp2;go_ret;exact⟨rfl,(au _ _).alloc (aj _) _⟩
 .have f:(x.c==mc)=false:=dD a;rw[aK a];go_in;go_wp2;go_ret;exact⟨rfl,(au _ _).alloc (aj _) _⟩
def Sk(mc mn:Int)(l:List M)(i:Int):Prop:=(i = -1/\l.any (kL mc mn)=false)\/(0<=i/\l.any (kL mc mn)=true)
def gR.O{v:Dv}(h:gR w B v l):∃ao c,v=.slice ao l.length c/\(0<l.length->∃g,ao=some (aA g 0)/\B<=g/\g<w.heap.size/\∀i j (e:i<l.length),j<9->w.cell? (aA g (i*9+j))=(gh l[i])[j]?):=by
 rcases h.2 with⟨a,b⟩|⟨g,d,f,a,b,k,n⟩
 exact⟨none,0,by rw[a,b],λh=>ak⟩;refine⟨_,d,a,λ_=>⟨g,rfl,b,(ar.1 k).1,λi j e m=>?_⟩⟩;subst a;rw[bC h _ ak];exact Az l i j e m
def JR{q:Nat}{v:Dv}(h:gR w B v l)(hl:l.length<=100)(b1:cC w (aA q 1) (iI mc))(b2:cC w (aA q 2) (iI mn)):
  Calls prog 282 #[v,.func (.func 259) #[] #[tp q]] w λe w'=>∃i,e=.returned (iI i)/\Sk mc mn l i/\FF w w':=by
 have hq:q<w.heap.size:=cz _ _ b1;obtain⟨ao,c,rfl,hv⟩:=h.O

 go_in;go_wp2;go_loopw [8] (λi wr=>∃k:Nat,k<=l.length/\i=iI k/\Hid ((l.take k).any (kL mc mn)=false)/\FF w wr) (λi _=>l.length-(intOf i).toNat)
 case atStart=>exact⟨0,ak,rfl,(rfl:(l.take 0).any (kL mc mn)=false),au _ _⟩
 case round=>
  obtain⟨k,hk,rfl,hA,hbl⟩:=hrel;by_cases hlt:k<l.length
  .obtain⟨g,rfl,_,hg,hcell⟩:=hv ak;have hltz:(k:Int)<(l.length:Int):=ak;have hc:∀j,j<9->wr.cell? (aA g (k*9+j))=(gh l[k])[j]?:=λj hj=>(hbl.cell (p:=(aA g (k*9+j))) hg).trans (hcell k j hlt hj);have c0:=hc 0 ak;have c1:=hc 1 ak;have c2:=hc 2 ak;have c3:=hc 3 ak;have c4:=hc 4 ak;have c5:=hc 5 ak;have c6:=hc 6 ak;have c7:=hc 7 ak;have c8:=hc 8 ak;have hcall:=Tq mc mn q l[k] wr ((hbl.cell (p:=(aA q 1)) hq).trans b1) ((hbl.cell (p:=(aA q 2)) hq).trans b2);simp only[gh,bI,bv,qq]at c0 c1 c2 c3 c4 c5 c6 c7 c8;have hT:(l.take (k+1)).any (kL mc mn)=((l.take k).any (kL mc mn)||kL mc mn l[k]):=by rw[bw hlt,List.any_append];simp
   have hU:kL mc mn l[k]=true->l.any (kL mc mn)=true:=λe=>nI.2 ⟨l[k],bp hlt,e⟩;unfold Wire.M.ab at hcall;let ⟨y,hy⟩:∃y,l[k]=y:=⟨_,rfl⟩
   rw[hy]at hcall c0 c1 c2 c3 c4 c5 c6 c7 c8 hT hU;let ⟨p,hp⟩:∃p,kL mc mn y=p:=⟨_,rfl⟩
   rw[hp]at hcall hT hU;have HT:Hid ((l.take (k+1)).any (kL mc mn)=((l.take k).any (kL mc mn)||p)):=hT;have HU:Hid (p=true->l.any (kL mc mn)=true):=hU;have HB:Hid (FF w wr):=hbl;clear hy hp hbl hc hT hU hcell hv;cases p with
   |true=>
    go_wp2_with fail
    apply hcall.mono;rintro e w'⟨rfl,hb'⟩;clear hcall c0 c1 c2 c3 c4 c5 c6 c7 c8;go_wp2;go_ret;exact⟨_,rfl,.inr ⟨ak,HU.out (by first|rfl|trivial)⟩,HB.out.trans (hb'.mono HB.out.size)⟩
   |false=>
    go_wp2_with fail
    apply hcall.mono;rintro e w'⟨rfl,hb'⟩

    go_wp2;go_roundw
    case rel=>exact⟨k+1,ak,by go_num,(by rw[HT.out,hA.out];rfl:(l.take (k+1)).any (kL mc mn)=false),HB.out.trans (hb'.mono HB.out.size)⟩
    case measure=>simp[intOf];omega
  .obtain rfl:k=l.length:=ak;have hltz:¬(l.length:Int)<(l.length:Int):=ak;have HK:Hid (Sk mc mn l (-1)):=.inl ⟨rfl,by have:=hA.out;rw[fP]at this;exact this⟩;go_wp2;go_ret;exact⟨_,rfl,HK.out,hbl⟩
def Bi{q:Nat}{v:Dv}(h:gR w B v l)(g:l.length<=100)(b1:cC w (aA q 1) (iI mc))(b2:cC w (aA q 2) (iI mn)):
  Calls prog 258 #[v,.func (.func 259) #[] #[tp q]] w λe c=>e=.returned (.bool (l.any (kL mc mn)))/\FF w c:=by
 let ⟨b,d⟩:∃b,l.any (kL mc mn)=b:=⟨_,rfl⟩
 have f :Hid _:= d;rw[d];go_in;go_wp2_with fail
 apply (JR h g b1 b2).mono;rintro e c⟨i,rfl,hF,a⟩;rcases hF with⟨rfl,hF⟩|⟨h0,hF⟩
 .go_wp2;go_ret;exact⟨by rw[<-f.out,hF];rfl,a⟩
 .have j:= aX h0;go_wp2;go_ret;exact⟨by rw[<-f.out,hF];first|rfl|simp[h0],a⟩
def vk(x:Int)(l:List Int):Bool:=l.any λy=>x==y
def Y8(x:Int)(l:List Int)(i:Int):Prop:=(i = -1/\vk x l=false)\/(0<=i/\vk x l=true)
def JQ(x:Int){v:Dv}{l:List Int}(h:de w B v l)(z:l.length<=100):
  Calls prog 283 #[v,iI x] w λe n=>∃i:Int,e=.returned (iI i)/\Y8 x l i/\n=w:=by
 obtain⟨ao,c,rfl,o⟩:=h.e;go_in;go_wp2;go_loop [8] (λi=>∃k:Nat,k<=l.length/\i=iI k/\Hid (vk x (l.take k)=false)) (λi=>l.length-(intOf i).toNat)
 case atStart=>exact⟨0,ak,rfl,(rfl:vk x (l.take 0)=false)⟩
 case round=>
  obtain⟨k,A,rfl,m⟩:=hrel;by_cases a:k<l.length
  .obtain⟨g,rfl,b⟩:=o ak;have d:(k:Int)<(l.length:Int):=ak;have c0:=b k a;have f:vk x (l.take (k+1))=(vk x (l.take k)||(x==l[k])):=by unfold vk;rw[bw a,List.any_append];simp
   have j:(x==l[k])=true->vk x l=true:=λe=>by
    exact nI.2 ⟨l[k],bp a,e⟩
   let ⟨y,q⟩:∃y,l[k]=y:=⟨_,rfl⟩
   rw[q]at c0 f j;let ⟨p,r⟩:∃p,(x==y)=p:=⟨_,rfl⟩
   rw[r]at f j;have s :Hid _:= f;have t :Hid _:= j;cases p with
   |true=>
    go_wp2;go_ret;exact⟨_,rfl,.inr ⟨ak,t.out (by first|rfl|trivial)⟩,rfl⟩
   |false=>
    go_wp2;go_round
    case rel=>exact⟨k+1,ak,by go_num,(by rw[s.out,m.out];rfl:vk x (l.take (k+1))=false)⟩
    case measure=>simp[intOf];omega
  .obtain rfl:k=l.length:=ak;have d:¬(l.length:Int)<(l.length:Int):=ak;have u:Hid (vk x l=false):=by have:=m.out;rw[fP]at this;exact this
   go_wp2;go_ret;exact⟨_,rfl,.inl ⟨rfl,u.out⟩,rfl⟩
def Bh(x:Int){v:Dv}{l:List Int}(h:de w B v l)(f:l.length<=100):
  Calls prog 260 #[v,iI x] w λe a=>e=.returned (.bool (vk x l))/\a=w:=by
 let ⟨b,c⟩:∃b,vk x l=b:=⟨_,rfl⟩
 have d :Hid _:= c;rw[c];go_in;go_wp2_with fail
 apply (JQ x h f).mono;rintro e a⟨i,rfl,hF,rfl⟩;rcases hF with⟨rfl,hF⟩|⟨h0,hF⟩
 .go_wp2;go_ret;exact⟨by rw[<-d.out,hF];rfl,rfl⟩
 .have g:= aX h0;go_wp2;go_ret;exact⟨by rw[<-d.out,hF];first|rfl|simp[h0],rfl⟩
def bZ.av{y z:Ba}{s:Sv}(h:bZ y a s)(ho:o<8){v D:Dv}(G:cC y (aA a.S (48+o)) v)(X:y.grownBy z v.ownBlock)(hM:gR z (a.S+1) D l)(hl:l.length<=10)(L:∀g,D.ownBlock=some g->v.ownBlock=some g\/y.heap.size<=g):
  bZ (z.setCell (aA a.S (48+o)) D) a {s with waits:=cq s.waits o l}/\Fs a y (z.setCell (aA a.S (48+o)) D):=by
 have a0:=h.e;have h1:=h.x;have h2:=h.W;have h3:=h.Z;have h4:=h.F;have aS:=X.size;have n:∀k,k<=a.S->v.ownBlock≠some k:=λk M q=>by have:=(h.ac ho G q).1;omega
 have ez:∀k,k<y.heap.size->v.ownBlock≠some k->z.heap[k]?=y.heap[k]?:=λk M N=>X.block k M (λq=>N q.symm);have P:∀k,k<y.heap.size->k≠a.S->v.ownBlock≠some k->(z.setCell (aA a.S (48+o)) D).heap[k]?=y.heap[k]?:=λk M hS N=>(aQ z (aA a.S (48+o)) D k hS).trans (ez k M N);have eS:=ez a.S ak (n _ ak);have w:∀i,i≠48+o->(z.setCell (aA a.S (48+o)) D).cell? (aA a.S i)=y.cell? (aA a.S i):=λi d=>(am _ _ _ _ (by intro q;injection q with _ q;omega)).trans (aa eS);have n0:cC (z.setCell (aA a.S (48+o)) D) (aA a.S (48+o)) D:=az _ _ _ ((aa (a:=(aA a.S (48+o))) eS).trans G);have nr:∀u g,cC y (aA a.U 1) u->u.ownBlock=some g->v.ownBlock≠some g:=λu g r c q=>by
  let ⟨_,c1,f1,k1⟩:=h.V r c
  let ⟨_,c2,f2,I⟩:=h.ac ho G q
  exact nU k1 I cn rfl
 have hU:=P a.U ak ak (n _ ak);have hq:=P a.q ak ak (n _ ak);have hT:=P a.T ak ak (n _ ak);have hm:=P a.m ak ak (n _ ak);have K:y.heap.size<=(z.setCell (aA a.S (48+o)) D).heap.size:=dD aS;refine⟨⟨Wal.cZ (eS▸h.y),λi=>by rw[aT];exact(aG (a:=(aA a.S i)) eS).trans (h.o i),(w 0 ak).trans h.c0,(w 1 ak).trans h.c1,(w 2 ak).trans h.c2,(w 3 ak).trans h.c3,(w 4 ak).trans h.c4,(w 5 ak).trans h.c5,(w 6 ak).trans h.c6,
  λi d=>(w _ ak).trans (h.vd i d),λi d=>(w _ ak).trans (h.vv i d),λi d j u r=>(w _ (by have:=(bB.1 r).1;rw[Wal.R.j]at this;omega)).trans (h.la i d j u r),(w 47 ak).trans h.A,λi d=>?_,λi j u x d hj N r Q=>?_,
  WalIs.ab h.B K hU (λu g r c=>P g (h.H (.inr (.inr (.inr (.inr (.inr (.inl ⟨u,r,c⟩))))))) (by have:=(h.V r c);let ⟨_,c1,f1,k1⟩:=this;let ⟨c2,f2,I⟩:=h.y;exact nU k1 I cn) (nr u g r c)),DiskIs.ac h.J hq,h.p.e hT hm,hT▸h.tt,h.x,h.W,h.Z,h.F,λi d=>?_⟩,
  ⟨X.os,X.tape,X.output,K,λk M hf=>P k M (λq=>hf (.inr (.inr (.inl q)))) (λq=>hf (.inr (.inr (.inr (.inr (.inr (.inr ⟨o,v,ho,G,q⟩))))))),λk M f=>?_,λi _=>aa hq,λi=>aG hq,λt ht=>hq▸ht⟩⟩
 dsimp only;by_cases q:i=o;subst q;rw[da];exact⟨D,n0,hM.h⟩;rw[dM q];let ⟨u,r,Y⟩:=h.b i d
 refine⟨u,(w _ ak).trans r,gR.h (aZ Y λg c=>ez g (bj Y g c).2 (λq'=>h.t i o u v d ho q r G g c q'))⟩;by_cases q:i=o;subst q;rw[n0]at r;injection r with r
 subst r;have ad:=(w _ ak).symm.trans Q;intro g c E;rcases L g c with k|k
 exact h.t i j v x d hj N G ad g k E;have:=h.H (.inr (.inr (.inr (.inr (.inr (.inr ⟨j,x,hj,ad,E⟩))))));omega;have O:=(w _ ak).symm.trans r;by_cases q':j=o;subst q';rw[n0]at Q;injection Q with Q
 subst Q;intro g c E;rcases L g E with k|k
 exact h.t i j u v d hj N O G g c k;have:=h.H (.inr (.inr (.inr (.inr (.inr (.inr ⟨i,u,d,O,c⟩))))));omega;exact h.t i j u x d hj N O ((w _ ak).symm.trans Q);dsimp only;by_cases q:i=o;subst q;rw[da];exact hl;rw[dM q];exact h.C i d;rcases f with f|f|f|f|f|⟨u,k1,I⟩|⟨i,u,d,k1,I⟩
 exact .inl f;exact .inr (.inl f);exact .inr (.inr (.inl f));exact .inr (.inr (.inr (.inl f)));exact .inr (.inr (.inr (.inr (.inl f))));exact .inr (.inr (.inr (.inr (.inr (.inl ⟨u,(aa (a:=(aA a.U 1)) hU).symm.trans k1,I⟩)))));by_cases q:i=o;subst q;rw[n0]at k1;injection k1 with k1
 subst k1;rcases L k I with q|q
 exact .inr (.inr (.inr (.inr (.inr (.inr ⟨i,v,d,G,q⟩)))));omega;exact .inr (.inr (.inr (.inr (.inr (.inr ⟨i,u,d,(w _ ak).symm.trans k1,I⟩)))))
def Sv.aU(s:Sv)(m:M)(o:Nat):Sv×Bool:=
 if (s.waits o).any (kL m.c m.n)=true then (s,true) else if 10<=(s.waits o).length then (s,false) else ({s with waits:=cq s.waits o (s.waits o++[m])},true)
variable{s:Sv}
def GS{mk me ms mv:Int}{ml:Bool}{md:DS}(h:bZ w a s)(J:o<8){x:Sv×Bool}(hx:Hid (s.aU ⟨mk,mc,mn,me,ms,o,mv,ml,md⟩ o=x)):
  Calls prog 225 #[tp a.S,Wire.M.ab ⟨mk,mc,mn,me,ms,o,mv,ml,md⟩] w λe U=>e=.returned (.bool x.2)/\bZ U a x.1/\Fs a w U:=by
 have cw:=h.lt;have l:MB (dL w mk mc mn me ms o mv ml md) w.heap.size ⟨mk,mc,mn,me,ms,o,mv,ml,md⟩:=gF w;have F:bZ (dL w mk mc mn me ms o mv ml md) a s:=h.j _;have L:FF w (dL w mk mc mn me ms o mv ml md):=(au _ _).alloc (aj _) _;have Y:(dL w mk mc mn me ms o mv ml md).heap.size=w.heap.size+1:=aY;have hF:=Fs.H h L;have Z:¬eM (dL w mk mc mn me ms o mv ml md) a w.heap.size:=h.O L (aj _);have cA:(0:Int)<=(o:Int):=ak;have cB:(o:Int)<8:=ak;unfold dL at *;unfold Wire.M.ab


 go_in;go_wp2_with fail
 generalize w.alloc (.cells #[.int .i64 mk,.int .i64 mc,.int .i64 mn,.int .i64 me,.int .i64 ms,.int .i64 o,.int .i64 mv,.bool ml,.string md] 129)=w1 at *;have b5:=l.h;dsimp only at b5;let ⟨v,hv,hm⟩:=F.b o J
 have cv:=F.C o J;obtain⟨ao,cc,rfl,cG,_⟩:=Net.cP hm;have ad:(Value.slice ao (s.waits o).length cc).ownBlock≠some w.heap.size:=λq=>Z (.inr (.inr (.inr (.inr (.inr (.inr ⟨o,_,J,hv,q⟩))))));have aS:Hid ((Value.slice ao (s.waits o).length cc).ownBlock≠some w.heap.size):=ad

 go_quiet (fail);go_wp2_with fail
 generalize G:w1.drewN _=W;have F2:bZ W a s:=G▸F.ab;have a0:Fs a w W:=G▸hF.ab;have n:MB W w.heap.size ⟨mk,mc,mn,me,ms,o,mv,ml,md⟩:=by rw[<-G];exact⟨l.y,l.i,l.u,l.j,l.p,l.h,l.t,l.x,l.A⟩
 have bm:W.cell? ⟨a.S,48+o,none⟩=some (.slice ao (s.waits o).length cc):=G▸hv;have N:gR W (a.S+1) (.slice ao (s.waits o).length cc) (s.waits o):=G▸hm;have cW:W.heap.size=w.heap.size+1:=G▸Y

 have m:=Bi N ak n.i n.u;let ⟨b,hb⟩:∃b,(s.waits o).any (kL mc mn)=b:=⟨_,rfl⟩
 have r:Hid ((if b=true then (s,true) else if 10<=(s.waits o).length then (s,false) else ({s with waits:=cq s.waits o (s.waits o++[⟨mk,mc,mn,me,ms,o,mv,ml,md⟩])},true))=x):=hb▸hx.out;rw[hb]at m

 apply m.mono;rintro e w2⟨rfl,f⟩;have V:=F2.h f;have z:=a0.I F2 f;have c:=n.e f ak;have bO:=(f.cell (p:=⟨a.S,48+o,none⟩) jB).trans bm;have bR:=N.j f;have dd:=f.size

 cases b with
 |true=>
  have e:x=(s,true):=r.out.symm;go_wp2;go_ret;rw[e];exact⟨rfl,V,z⟩
 |false=>
  by_cases P:10<=(s.waits o).length
  .have e:x=(s,false):=r.out.symm.trans (aH P);have Q:(10:Int)<=((s.waits o).length:Int):=ak;go_wp2;go_ret;rw[e];exact⟨rfl,V,z⟩
  .have e:Hid (x=({s with waits:=cq s.waits o (s.waits o++[⟨mk,mc,mn,me,ms,o,mv,ml,md⟩])},true)):=r.out.symm.trans (ay P);have Q:¬(10:Int)<=((s.waits o).length:Int):=ak

   go_wp2_with fail
   let ⟨i0,hi,ci,cj,ck⟩:=dg jP
   refine Gen.start (S:=λU=>MB U w.heap.size ⟨mk,mc,mn,me,ms,o,mv,ml,md⟩) bt ⟨c.y,c.i,c.u,c.j,c.p,c.h,c.t,c.x,c.A⟩ (λqH=>?_);refine Gen.tz ?_;refine on 5 λK R=>?_;go_simp;have g:FF w2 (w2.alloc (.cells #[.int .i64 mk,.int .i64 mc,.int .i64 mn,.int .i64 me,.int .i64 ms,.int .i64 o,.int .i64 mv,.bool ml,.string md] 129)).drew:=((au _ _).alloc (aj _) _).drew;have X:=V.h g;have cl:=z.I V g;have cm:=bR.j g;have B:=(g.cell (p:=⟨a.S,48+o,none⟩) jB).trans bO;have d:=c.e g ak;have D:=m8 w2 ⟨mk,mc,mn,me,ms,o,mv,ml,md⟩;have df:(w2.alloc (.cells #[.int .i64 mk,.int .i64 mc,.int .i64 mn,.int .i64 me,.int .i64 ms,.int .i64 o,.int .i64 mv,.bool ml,.string md] 129)).drew.heap.size=w2.heap.size+1:=by show (World.alloc _ _).heap.size=_;simp
   refine R.out _ _ d (λqH=>?_)


   refine on 6 λK R=>?_;refine App.mh (.tmp 22) (.tmp 24) rfl underlying141 hi ci cj ck rfl cn (by rfl) cm ⟨w2.heap.size,0,none⟩ 1 1 (by rfl) rfl D (jx) (by unfold maxLen;omega) ak ak ?_;intro v1 w3 k E co;have cp:gR w3 (a.S+1) v1 (s.waits o++[⟨mk,mc,mn,me,ms,o,mv,ml,md⟩]):=gR.I k;let ⟨R1,R2⟩:=X.av J B E cp fS co
   have cs:=cl.e R2;have ct:MB w3 w.heap.size ⟨mk,mc,mn,me,ms,o,mv,ml,md⟩:=by
    have e:∀j,w3.cell? ⟨w.heap.size,j,none⟩=_:=λj=>aa (E.block w.heap.size ak (λq=>aS.out q.symm));exact⟨(e _).trans d.y,(e _).trans d.i,(e _).trans d.u,(e _).trans d.j,(e _).trans d.p,(e _).trans d.h,(e _).trans d.t,(e _).trans d.x,(e _).trans d.A⟩
   refine R.out _ _ ct (λqH=>?_)


   apply tk 9 10 qH

   refine la 10 λK R=>?_;have dk:=X.e;have T:w3.heap[a.S]?=_:=E.block a.S ak (λq=>by have:=(X.ac J B q.symm).1;omega);have dm:=(aa (a:=⟨a.S,48+o,none⟩) T).trans B;have dn:w3.frozen? ⟨a.S,48+o,none⟩=false:=(aG (a:=⟨a.S,48+o,none⟩) T).trans (X.o _);obtain⟨a1,dr,rfl,_,_⟩:=Net.cP k;go_simp;apply R.out _ _

   generalize w3.setCell ⟨a.S,48+o,none⟩ _=w5 at *;go_wp2;go_ret;rw[e.out];exact⟨rfl,R1,cs⟩
end Wld
namespace Net
variable{ps:List (Int×DS)}{news:List Dv}{r T B g c k m:Nat}{α:Type}{w:Ba}{f:α->List Dv}
def RE(ps:List (Int×ByteArray))(p:Int×ByteArray):List (Int×ByteArray):=if ps.length<200 then ps++[p] else ps
def K7{q:Nat}(tz:Int)(s:DS)(h:eD w B q ps):
  Calls prog 133 #[.pointer (some ⟨q,12405,none⟩),.agg #[.int .i64 tz,.string s]] w λe b=>e=.returned (.tuple #[])/\eD b B q (RE ps (tz,s))/\gJ B 201 q w b:=by
 by_cases a:ps.length<200;have e:RE ps (tz,s)=ps++[(tz,s)]:=by simp[RE,a]
 rw[e];exact Rv h a;have e:RE ps (tz,s)=ps:=by simp[RE,a]
 rw[e];exact Ru h (jd h.j)
def eD.e{w':Ba}{q:Nat}(h:eD w B q ps)(f:FF w w'):eD w' B q ps:=by
 let ⟨⟨v,o,hrow⟩,⟨c,a⟩,j,k,p,d⟩:=h
 let ⟨hc,hf⟩:=iv f
 have b:q<w.heap.size:=ak;refine⟨⟨v,(hc _ _ b).trans o,hrow.1,?_⟩,⟨c,(hc _ _ b).trans a⟩,λi=>(hf _ _ b).trans (j i),k,by have:=f.size;omega,d⟩;rcases hrow.2 with h|⟨g,l,m,r,s,n,t⟩
 exact .inl h;exact .inr ⟨g,l,m,r,s,(f.block g (ar.1 n).1).trans n,t⟩
def RF{q C:Nat}(tz:Int){sv:Dv}{bs:List Int}(h:eD w B q ps)(hs:ru w C sv bs)(b:C<=w.heap.size):
  Calls prog 177 #[.pointer (some ⟨q,12405,none⟩),.agg #[.int .i64 tz,sv]] w λe a=>e=.returned (.tuple #[])/\eD a B q (RE ps (tz,dq bs))/\gJ B 201 q w a:=by
 have d:=λo=>sd (hs.e ((au _ _).alloc b o) (aj _));obtain⟨ao,c,rfl,_⟩:=hs;go_in;go_wp2_with fail
 apply (K7 tz _ ((λo=>h.e ((au _ _).alloc (aj _) o)) _)).mono;rintro e a⟨rfl,f,g⟩;go_wp2;go_end0;exact⟨rfl,f,((gJ.O).e).V g⟩
def Rz{q:Nat}(h:eD w B q ps):
  Calls prog 43 #[.pointer (some ⟨q,12405,none⟩)] w λe b=>e=.returned (.int .i64 ps.length)/\b=w:=by
 obtain⟨⟨v,d,hrow⟩,_,_,_,_,a⟩:=h;obtain⟨ao,c,rfl,_,_⟩:=cP hrow;go_in;go_wp2;go_ret;exact⟨rfl,rfl⟩
def eD.H{q:Nat}(h:eD w B q ps)(k:Nat)(d:k<ps.length):
  ∃g c,w.cell? ⟨q,12405,none⟩=some (.slice (some ⟨g,0,none⟩) ps.length c)/\w.ownsRow B 201 2 (.slice (some ⟨g,0,none⟩) ps.length c) ps.length (dp ps)/\ps.length<=c/\B<=g/\g<w.heap.size /\
   w.cell? ⟨g,k*2,none⟩=some (.int .i64 ps[k].1)/\w.cell? ⟨g,k*2+1,none⟩=some (.string ps[k].2):=by
 obtain⟨⟨v,e,hrow⟩,_,_,_,_,_⟩:=h;rcases hrow.2 with⟨_,h0⟩|⟨g,a,f,rfl,i,l,j,_⟩
 omega;have b:=zW ps k d;refine⟨g,a,e,hrow,j,i,(hrow.lt g rfl).2,?_,?_⟩;rw[hrow.cellAt _ ak];exact b.1;rw[hrow.cellAt _ ak];exact b.2
def FT{q:Nat}(k:Int)(h:eD w B q ps)(f:jW k ps.length=false):
  Calls prog 67 #[.pointer (some ⟨q,12405,none⟩),.int .i64 k] w λe b=>e=.returned (.iface 59 (.int .i64 2))/\b=w:=by
 obtain⟨⟨v,d,hrow⟩,_,_,_,_,a⟩:=h;obtain⟨ao,c,rfl,_,_⟩:=cP hrow;go_in;go_wp2_with (go_at_call 126;refine(ye k a d).mono ?_;rintro e b⟨rfl,rfl⟩)
 go_ret;exact⟨rfl,rfl⟩
def Nz{q:Nat}(h:eD w B q ps)(i:k<ps.length):
  Calls prog 67 #[.pointer (some ⟨q,12405,none⟩),.int .i64 k] w λe a=>e=.returned .nilIface/\eD a B q (RE ps ps[k])/\gJ B 201 q w a:=by
 obtain⟨g,c,l,hrow,m,n,o,b,d⟩:=h.H k i;have f:jW (k:Int) ps.length=true:=wv ak ak;have r:(k:Int)<(ps.length:Int):=ak;generalize t:ps[k]=p at *;obtain⟨to,s⟩:=p;dsimp only at b d;clear t;go_in;go_wp2_with (first|(go_at_call 126;refine(ye k h.j l).mono ?_;rintro e a⟨rfl,rfl⟩)|(go_at_call 133;refine(K7 to s h).mono ?_;rintro e a⟨rfl,u,v⟩))
 go_ret;exact⟨rfl,u,v⟩
def DT{i:Nat}{a:Array Dv}{e:DU}{f:Nat×Nat}{u:Dv}(h:w.heap[g]?=some (.cells a e f)):(w.setCell (aA g i) u).heap[g]?=some (.cells (a.setIfInBounds i u) e f):=by
 unfold World.setCell;rw[bL,aH rfl,h];rfl
def nQ{e:DU}{f:Nat×Nat}:∀(c:List Dv) (o:Nat) (w:Ba) (b:Array Dv),w.heap[g]?=some (.cells b e f)->o+c.length<=b.size ->
  ∃a,(w.setCells g o c).heap[g]?=some (.cells a e f)/\a.size=b.size/\∀i,a[i]?=if o<=i/\i<o+c.length then c[i-o]? else b[i]?
 | [],o,w,b,h,_=>⟨b,h,rfl,λi=>by rw[ay aY]⟩
 |v::c,o,w,b,h,d=>by
  rw[bJ]at d;obtain⟨a,j,k,l⟩:=nQ c (o+1) _ _ (DT (i:=o) (u:=v) h) fS;refine⟨a,j,dD k,λi=>?_⟩;rw[l i,bJ];by_cases c1:o+1<=i/\i<o+1+c.length;rw[aH c1,aH ak,show i-o=(i-(o+1))+1 by omega,bv];rw[ay c1];by_cases c2:i=o;subst c2;rw[aH ak,mG,bI,aV ak];rw[ay ak,aM ak]
def K8(g o j:Nat):((aA g o):Addr).add j=(aA g (o+j)):=by unfold Addr.add;split<;>simp_all
def sQ:∀(a:List Dv) (o:Nat) (w:Ba) (x:Addr),(w.cell? x).isSome=true->((w.setCells g o a).cell? x).isSome=true
 | [],_,_,_,h=>h
 |v::a,o,w,x,h=>by
  rw[World.setCells];apply sQ a (o+1) _ x;let ⟨u,c⟩:=aP.1 h
  let ⟨d,b⟩:=dC (p:=(aA g o)) (x:=v) c
  rw[b];rfl
def Nu(W:Ba)(g o c:Nat)(hc:∀j,j<2->(W.cell? (aA g (o+j))).isSome=true)(hf:∀j,j<2->W.frozen? (aA g (o+j))=false):
  (Builtin.clear_ #[75] 0 #[.slice (some (aA g o)) 1 c]).run prog W=.ok (.tuple #[]) (W.setCells g o [iI 0,.string ⟨#[]⟩]):=by
 have a:=Br (P:=prog) g o [iI 0,.string ⟨#[]⟩] 0 W (dD hc) (dD hf) (by intro v b;simp at b;rcases b with rfl|rfl<;>rfl);simp at a;have d:(Builtin.zeroCells #[Value.int .i64 0,Value.string ⟨#[]⟩] 1).toList=[iI 0,.string ⟨#[]⟩]:=bt;simp[Builtin.clear_,iM underlying75,Value.cells,d,a]
def mX:∀(c:List Dv) (o:Nat) (a w:Ba),a.grownBy w (some g)->a.grownBy (w.setCells g o c) (some g)
 | [],_,_,_,h=>h
 |v::c,o,a,w,h=>by
  rw[World.setCells];refine mX c (o+1) a _ ⟨h.os,h.tape,h.output,dD h.size,λk d b=>?_⟩;rw[aQ w (aA g o) v k (λe=>b (by rw[e]))];exact h.block k d b
def dl(k m r:Nat):(k+m+1)*r=k*r+m*r+r/\(k+m)*r=k*r+m*r/\(k+1)*r=k*r+r:=⟨by rw[yt,yt,Nat.one_mul],yt ..,by rw[yt,Nat.one_mul]⟩
section
variable{ps:List α}(hf:∀a,(f a).length=r)(hm:ps.length=k+m+1)(hrow:w.ownsRow B T r (.slice (some (aA g 0)) ps.length c) ps.length (ps.flatMap f))
include hf in
theorem lm:∀l:List α,(l.flatMap f).length=l.length*r
 | []=>aY
 |a::l=>by rw[List.flatMap_cons,aL,hf,lm l,bJ,Nat.succ_mul,Nat.add_comm]
include hf in
theorem Rx(a:k<ps.length):(ps.eraseIdx k).flatMap f=(ps.flatMap f).take (k*r)++(ps.flatMap f).drop ((k+1)*r):=by
 have e:∀n,n<=ps.length->ps.flatMap f=(ps.take n).flatMap f++(ps.drop n).flatMap f/\((ps.take n).flatMap f).length=n*r:=λn h=>⟨by rw[<-List.flatMap_append,jR],by rw[lm hf,cx,Nat.min_eq_left h]⟩;rw[Hr,List.flatMap_append];congr 1;rw[(e k ak).1,wQ (e k ak).2];rw[(e (k+1) a).1,List.drop_left' (e (k+1) a).2]
include hf hrow in
theorem Rw:∀j u,((ps.flatMap f).drop ((k+1)*r))[j]?=some u->w.drew.cell? (((aA g ((k+1)*r)):Addr).add j)=some u:=by
 intro j u a;rw[qI]at a;have b:=(bB.1 a).1;rw[lm hf]at b;rw[K8];show w.cell? (aA g ((k+1)*r+j))=some u;rw[hrow.cellAt _ (by omega)];exact a
include hf hrow hm in
theorem FQ{i:Nat}(a:i<(k+m+1)*r):(w.cell? (aA g i)).isSome=true:=by
 rw[hrow.cellAt _ (by rw[hm];exact a),aE (by rw[lm hf,hm];exact a)];rfl
include hf hrow hm in
theorem Nv:∀j,j<m*r->(w.drew.cell? (aA g (0+k*r+j))).isSome=true/\w.drew.frozen? (aA g (0+k*r+j))=false:=λj a=>
 ⟨FQ hf hm hrow (by have:=dl k m r;omega),hrow.frozenAt _⟩
include hf hrow hm in
theorem Nx:∀j,j<r->((w.drew.setCells g (k*r) news).cell? (aA g ((k+m)*r+j))).isSome=true:=λj a=>
 sQ _ _ _ _ (FQ hf hm hrow (by have:=dl k m r;omega))
include hf hrow hm in
theorem VW{n:List Dv}(o:n.length=r)(p:(ps.flatMap f).drop ((k+1)*r)=news)(q:news.length=m*r):
  ((w.drew.setCells g (k*r) news).setCells g ((k+m)*r) n).ownsRow B T r (.slice (some (aA g 0)) (k+m) c) (k+m) ((ps.eraseIdx k).flatMap f)/\w.grownBy ((w.drew.setCells g (k*r) news).setCells g ((k+m)*r) n) (some g):=by
 have u:k<ps.length:=ak;refine⟨?_,mX _ _ _ _ (mX _ _ _ _ ⟨rfl,rfl,rfl,aj _,λ_ _ _=>rfl⟩)⟩;have v:(ps.flatMap f).length=(k+m+1)*r:=by rw[lm hf,hm]
 refine⟨(by rw[lm hf,iA u,hm];rfl),.inr ?_⟩;rcases hrow.2 with⟨h,_⟩|⟨L,z,d,A,C,D,x,s,b,a⟩
 cases h;injection A with e M E
 injection e with e
 injection e with e
 subst e E;rw[hm]at x a;rw[Rx hf u];have:=dl k m r;have:=ZV r x;let ⟨c1,F,y,G⟩:=nQ news (k*r) w.drew d D (by rw[q,b];omega)
 let ⟨c2,H,I,J⟩:=nQ n ((k+m)*r) _ c1 F (by rw[y,b,o];omega)
 refine⟨g,c,c2,rfl,C,H,ak,s,by rw[I,y,b],?_⟩;apply mC;intro i;rw[gC];split;rw[gz,J i,ay ak,G i];have l:∀j,j<(k+m+1)*r->d[j]?=(ps.flatMap f)[j]?:=λj K=>by
  rw[<-a,gC,aH K,gz]
 by_cases t:i<k*r;rw[ay ak,l i ak,bE (by rw[cx];omega),gC,aH t];rw[aH ak,bg (by rw[cx];omega),cx,<-p,show min (k*r) (ps.flatMap f).length=k*r by omega];rw[ng];rw[aL,cx,cN];omega
end
def zV{F sl y:Nat}(hF:(F=127/\sl=75/\T=201/\r=2)\/(F=197/\sl=141/\T=129/\r=9))(hf:∀a,(f a).length=r)(p:∀l:List α,∀u∈l.flatMap f,u.oneCell'=true){z:List Dv}(q:prog.underlying sl=some (.slice T))(K:(prog.info? T).map (λi=>(i.zero,i.size,i.bytes))=some (some (.agg z.toArray),r,y))(P:z.length=r)(b:∀(W:Ba) (g o c:Nat),(∀j,j<r->(W.cell? (aA g (o+j))).isSome=true)->(∀j,j<r->W.frozen? (aA g (o+j))=false)->(Builtin.clear_ #[sl] 0 #[.slice (some (aA g o)) 1 c]).run prog W=.ok (.tuple #[]) (W.setCells g o z)){ps:List α}(hk:k<ps.length)(Q:ps.length<=200)(D:ps.length<=c)(R:c<=9223372036854775807)(hrow:w.ownsRow B T r (.slice (some (aA g 0)) ps.length c) ps.length (ps.flatMap f)):
  Calls prog F #[.slice (some (aA g 0)) ps.length c,iI k,iI ((k:Int)+1)] w λe L=>e=.returned (.slice (some (aA g 0)) (ps.length-1) c)/\L.ownsRow B T r (.slice (some (aA g 0)) (ps.length-1) c) (ps.length-1) ((ps.eraseIdx k).flatMap f)/\w.grownBy L (some g):=by
 obtain⟨M,N,S,t,U⟩:=dg K;obtain⟨m,hm⟩:∃m,ps.length=k+m+1:=⟨ps.length-(k+1),ak⟩;have d:=Rw (k:=k) hf hrow;have h:=Nv hf hm hrow;obtain⟨news,n⟩:∃news,(ps.flatMap f).drop ((k+1)*r)=news:=⟨_,rfl⟩;have v:news.length=m*r:=by rw[<-n,cN,lm hf,hm];have:=dl k m r;omega
 have E:∀u∈news,u.oneCell'=true:=λu q=>p ps u (by rw[<-n]at q;exact yr q);have x:=VW hf hm hrow P n v;have b:=b (w.drew.setCells g (k*r) news) g ((k+m)*r) (c-(k+m)) (Nx hf hm hrow) (λj _=>by rw[jQ];exact hrow.frozenAt _);rw[n]at d;rw[hm]at D Q⊢;have V:((k:Int)==(k:Int)+1)=false:=fS;have X:k<=c:=ak;have Y:(0:Int)<=(k:Int)+1:=ak;have Z:(k:Int)+1<=(k:Int)+(m:Int)+1:=ak;have ad:((k:Int)+1).toNat=k+1:=ak;have G :Hid _:= d;have H :Hid _:= h;have s :Hid _:= v;have I :Hid _:= E;have O :Hid _:= x;clear hf p hrow K;rcases hF with⟨rfl,rfl,rfl,rfl⟩|⟨rfl,rfl,rfl,rfl⟩
 all_goals
  by_cases J:c=k+1
  .obtain rfl:m=0:=ak;have A:= dX (jd s.out);subst A;subst J;rw[show k+1-(k+0)=1 by omega,qq]at b;have aS:(k:Int)<=(k:Int)+1:=ak;go_in;go_wp2;go_region_law (refine step_append_room rfl (.tmp 22) (.tmp 25) _ rfl _ M _ q N t g 0 k (k+1) (by simp[Act.eval,Act.put]) (aA g 0) 0 0 [] (by simp[Act.eval,Act.put]) rfl (λj u C=>by simp at C) (λu q=>by simp at q) ak (λj C=>by simp at C) ?_);all_goals go_wp2
   all_goals go_ret
   exact⟨rfl,O.out⟩
  .go_in;go_wp2;go_region_law (refine step_append_room rfl (.tmp 22) (.tmp 25) _ rfl _ M _ q N t g 0 k c (by simp[Act.eval,Act.put]) (aA g ((k+1)*_)) m (c-(k+1)) news (by simp[Act.eval,Act.put]) s.out G.out I.out ak (λj C=>H.out j (s.out▸C)) ?_);all_goals go_wp2
   all_goals go_ret
   exact⟨rfl,O.out⟩
def VV{ps:List (Int×DS)}(f:k<ps.length)(h:ps.length<=200)(a:ps.length<=c)(b:c<=9223372036854775807)(hrow:w.ownsRow B 201 2 (.slice (some (aA g 0)) ps.length c) ps.length (dp ps)):
  Calls prog 127 #[.slice (some (aA g 0)) ps.length c,iI k,iI ((k:Int)+1)] w λe d=>e=.returned (.slice (some (aA g 0)) (ps.length-1) c)/\d.ownsRow B 201 2 (.slice (some (aA g 0)) (ps.length-1) c) (ps.length-1) (dp (ps.eraseIdx k))/\w.grownBy d (some g):=
 zV (.inl ⟨rfl,rfl,rfl,rfl⟩) (λ_=>rfl) Je (z:=[iI 0,.string ⟨#[]⟩]) underlying75 xn rfl Nu f h a b hrow
end Net
namespace Wld
variable{a:Ad}{w:Ba}
def LM:M:=⟨0,0,0,0,0,0,0,false,⟨#[]⟩⟩
def Jy(W:Ba)(g o c:Nat)(hc:∀j,j<9->(W.cell? (aA g (o+j))).isSome=true)(hf:∀j,j<9->W.frozen? (aA g (o+j))=false):
  (Builtin.clear_ #[141] 0 #[.slice (some (aA g o)) 1 c]).run prog W=.ok (.tuple #[]) (W.setCells g o (gh LM)):=by
 have a:=Br (P:=prog) g o (gh LM) 0 W (by simpa[gh] using hc) (by simpa[gh] using hf) (jx);simp at a;have b:(Builtin.zeroCells #[Value.int .i64 0,Value.int .i64 0,Value.int .i64 0,Value.int .i64 0,Value.int .i64 0,Value.int .i64 0,Value.int .i64 0,Value.bool false,Value.string ⟨#[]⟩] 1).toList=gh LM:=bt;simp[Builtin.clear_,iM underlying141,Value.cells,b,a]
def Bl(a b:List M):gG (a++b)=gG a++gG b:=by simp[gG]
def SD{B g c:Nat}{ps:List M}(k:Nat)(w:Ba)(f:k<ps.length)(h:ps.length<=200)(a:ps.length<=c)(b:c<=9223372036854775807)(hrow:w.ownsRow B 129 9 (.slice (some (aA g 0)) ps.length c) ps.length (gG ps)):
  Calls prog 197 #[.slice (some (aA g 0)) ps.length c,iI k,iI ((k:Int)+1)] w λe d=>e=.returned (.slice (some (aA g 0)) (ps.length-1) c)/\d.ownsRow B 129 9 (.slice (some (aA g 0)) (ps.length-1) c) (ps.length-1) (gG (ps.eraseIdx k))/\w.grownBy d (some g):=
 Net.zV (.inr ⟨rfl,rfl,rfl,rfl⟩) iV AA (z:=gh LM) underlying141 jP rfl Jy f h a b hrow
def Sv.h(s:Sv)(r:R):Sv:=
 if r.o<0 then {s with bR:=r.e} else
 if vm r.c r.n (s.last (bK r.c))=true then {s with vd:=cq s.vd r.o.toNat r.d,vv:=cq s.vv r.o.toNat r.v,last:=cq s.last (bK r.c) r}
 else {s with vd:=cq s.vd r.o.toNat r.d,vv:=cq s.vv r.o.toNat r.v}
def bZ.al{s:Sv}(h:bZ w a s){i:Nat}(b:i<4):cC w (aA a.S (23+i*6)) (iI (s.last i).c)/\cC w (aA a.S (23+i*6+1)) (iI (s.last i).n)/\cC w (aA a.S (23+i*6+2)) (iI (s.last i).o)/\cC w (aA a.S (23+i*6+3)) (iI (s.last i).v)/\cC w (aA a.S (23+i*6+4)) (.string (s.last i).d)/\cC w (aA a.S (23+i*6+5)) (iI (s.last i).e):=
 ⟨h.la i b 0 _ rfl,h.la i b 1 _ rfl,h.la i b 2 _ rfl,h.la i b 3 _ rfl,h.la i b 4 _ rfl,h.la i b 5 _ rfl⟩
def Ec:(prog.info? 138).map (·.size)=some 6:=bt
def Gs{s:Sv}(r:R)(h:bZ w a s)(f:r.o<0):
  Calls prog 175 #[tp a.S,r.H] w λe b=>e=.returned (.tuple #[])/\bZ b a {s with bR:=r.e}/\Fs a w b:=by
 have F:∀o,bZ _ a {s with bR:=r.e}:=λo=>(h.af r.e).2.1.j o;have hF:∀o,Fs a w ((w.setCell (aA a.S 5) (iI r.e)).alloc o):=λo=>((Fs.j).ac h ak).O (h.af r.e).2.1 o;have c5:=h.c5;have hf:=h.o;have c:=h.lt;have d:a.S≠w.heap.size:=ak;unfold Wal.R.H;go_in;go_wp2;exact bn (v:=.tuple #[]) (by simp[results,results175]) rfl ⟨rfl,F _,hF _⟩
def Gt{s:Sv}(d k f l:Int)(o:Nat)(g:DS)(h:bZ w a s)(hc:0<=d)(N:o<8){s':Sv}(r:Hid ((⟨s.i,s.b,s.o,s.xU,s.bR,s.ge,cq s.vd o g,cq s.vv o f,if vm d k (s.last (bK d))=true then cq s.last (bK d) ⟨d,k,o,f,g,l⟩ else s.last,s.D,s.oQ,s.iK,s.n,s.waits,s.rs,s.jw,s.iD,s.eK⟩:Sv)=s')):
  Calls prog 175 #[tp a.S,Wal.R.H ⟨d,k,o,f,g,l⟩] w λe z=>e=.returned (.tuple #[])/\bZ z a s'/\Fs a w z:=by
 have a0:=h.lt;have a1:a.S≠w.heap.size:=ak;have Z:=Bx.h w ⟨d,k,o,f,g,l⟩ 138;have F:=h.j (.cells #[iI d,iI k,iI o,iI f,.string g,iI l] 138);have hF:Fs a w (w.alloc (.cells #[iI d,iI k,iI o,iI f,.string g,iI l] 138)):=(Fs.j).O h _;have bm:w.heap.size<(w.alloc (.cells #[iI d,iI k,iI o,iI f,.string g,iI l] 138)).heap.size:=aY;have bO:(0:Int)<=(o:Int):=ak;have ci:(o:Int)<8:=ak;have cj:¬(o:Int)<0:=ak;unfold Wal.R.H;dsimp only at Z⊢

 go_in;go_wp2_with fail
 generalize w.alloc (.cells #[iI d,iI k,iI o,iI f,.string g,iI l] 138)=w1 at *;let ⟨b0,b1,b2,b3,b4,b5⟩:=Z
 dsimp only at b0 b1 b2 b3 b4 b5;have F2:=F.I.a3 N g f;have P:=hF.V.af F.I (7+o*2) [.string g,iI f] fS;have c:∀j,(w1.drew.setCells a.S (7+o*2) [.string g,iI f]).cell? (FI w j)=w1.cell? (FI w j):=λj=>by
  simp only[World.setCells];rw[am _ _ _ _ (by intro e;injection e with e;omega),am _ _ _ _ (by intro e;injection e with e;omega)];rfl
 have E:=(c 0).trans b0;have G:=(c 1).trans b1;have J:=(c 2).trans b2;have K:=(c 3).trans b3;have L:=(c 4).trans b4;have M:=(c 5).trans b5;have ad:(w1.drew.setCells a.S (7+o*2) [.string g,iI f]).heap.size=w1.heap.size:=TF _ _ _;have dd:=F.vd o N;have dv:=F.vv o N;have hf:=F.o;go_still_tail 11,bt;go_wp2_with fail
 change Code.wp _ _ _ _ (w1.drew.setCells a.S (7+o*2) [.string g,iI f])

 generalize w1.drew.setCells a.S (7+o*2) [.string g,iI f]=w2 at *;have hs:=λw=>(nd w hc).mono (R':=λe z=>e=.returned (iI (bK d:Nat))/\∃n,z=w.drewN n) (λe z h=>⟨h.1,0,h.2⟩);have t:=na d;let ⟨q,Q⟩:∃q,bK d=q:=⟨_,rfl⟩
 rw[Q]at hs t r

 have ck:(0:Int)<=(q:Int):=ak;have cl:(q:Int)<4:=ak;go_quiet (first|(go_at_call 137;refine Calls.quiet_of (hs _)));go_wp2_with fail
 generalize v:w2.drewN _=W;have T:bZ W a {s with vd:=cq s.vd o g,vv:=cq s.vv o f}:=v▸F2.ab;have U:Fs a w W:=v▸P.ab;have E:cC W (aA w.heap.size 0) (iI d):=v▸E;have G:cC W (aA w.heap.size 1) (iI k):=v▸G;have J:cC W (aA w.heap.size 2) (iI o):=v▸J;have K:cC W (aA w.heap.size 3) (iI f):=v▸K;have L:cC W (aA w.heap.size 4) (.string g):=v▸L;have M:cC W (aA w.heap.size 5) (iI l):=v▸M;have aS:w.heap.size<W.heap.size:=by rw[<-v];show _<w2.heap.size;omega

 let ⟨l0,l1,l2,l3,l4,l5⟩:=T.al t
 dsimp only at l0 l1 l2 l3 l4 l5;go_still_tail 7,bt;go_wp2_with fail
 have x:=CJ d k (s.last q) W.drew;unfold Wal.R.H at x;apply x.mono;rintro e w3⟨rfl,y⟩

 have A:=T.I.h y;have B:=U.V.I T.I y;have m:∀j,w3.cell? (FI w j)=W.cell? (FI w j):=λj=>y.cell (p:=(FI w j)) (by show _<W.heap.size;omega);have E:=(m 0).trans E;have G:=(m 1).trans G;have J:=(m 2).trans J;have K:=(m 3).trans K;have L:=(m 4).trans L;have M:=(m 5).trans M

 let ⟨b,hb⟩:∃b,vm d k (s.last q)=b:=⟨_,rfl⟩
 rw[hb]at r⊢

 cases b with
 |false=>
  go_wp2;go_end0;have e:s' = {s with vd:=cq s.vd o g,vv:=cq s.vv o f}:=r.out.symm;rw[e];exact⟨rfl,A,B⟩
 |true=>
  have F5:=A.aU t ⟨d,k,o,f,g,l⟩;have X:=B.af A (23+q*6) (Wal.R.h ⟨d,k,o,f,g,l⟩) (by rw[Wal.R.j];omega);have Y:w3.there a.S (23+q*6) 6:=λj hj=>by
   let ⟨u,hu⟩:∃u,(s.last q).h[j]?=some u:=⟨_,aE (by rw[Wal.R.j];exact hj)⟩
   exact⟨by rw[A.la q t j u hu];rfl,A.o _⟩
  have C:(Wal.R.h ⟨d,k,o,f,g,l⟩).toArray.all (·.oneCell')=true:=all_oneCell_toArray (Wal.R.I _);go_wp2_with (refine wpList_store_mid rfl 138 (.tmp 41) (.tmp 40) rfl a.S (23+q*6) (Wal.R.h ⟨d,k,o,f,g,l⟩).toArray rfl rfl Y Ec C ?_)
  change bodyPost _ _ _ _ _ (w3.setCells a.S (23+q*6) (Wal.R.h ⟨d,k,o,f,g,l⟩));go_end0;have e:= r.out.symm;rw[e];exact⟨rfl,F5,X⟩
def Cv{s:Sv}(r:R)(h:bZ w a s)(hc:0<=r.c)(g:r.o<8):
  Calls prog 175 #[tp a.S,r.H] w λe d=>e=.returned (.tuple #[])/\bZ d a (s.h r)/\Fs a w d:=by
 unfold Sv.h;by_cases h0:r.o<0;rw[aH h0];exact Gs r h h0;rw[ay h0];let ⟨b,f,i,j,k,l⟩:=r
 dsimp only at hc g h0⊢;obtain⟨o,rfl⟩:=un (show 0<=i by omega);rw[show ((o:Int)).toNat=o by omega];apply Gt b f j l o k h hc ak;cases vm b f (s.last (bK b))<;>rfl
def Sv.af(s:Sv)(r:R):Sv×Int:=
 if s.jw=true then (s,6) else if s.rs.length=200 then (s,12) else if s.iD=true/\s.eK=0 then ({s with jw:=true},14)
 else ({s with rs:=s.rs++[r],eK:=if s.iD=true then s.eK-1 else s.eK},0)
def Lj{s:Sv}(f:Int){r:R}(h:bZ w a s)(hm:jv r=true)(h0:0<=s.eK)(z:s.eK<=9223372036854775807):
  Calls prog 176 #[tp a.U,r.H,iI f] w λe l=>e=.returned (eV (s.af r).2)/\bZ l a (s.af r).1/\Fs a w l:=by
 unfold Sv.af;have m:=h.B;have i:=h.J;have y:=i.t;by_cases q:s.jw=true;rw[aH q];rw[q]at m;apply (Wal.RL f r m).mono;rintro e l⟨rfl,o⟩;exact⟨rfl,h.h o,Fs.H h o⟩;rw[ay q];have n:s.jw=false:=dD q;rw[n]at m;by_cases hf:s.rs.length=200;rw[aH hf];apply (Wal.RM s.eK f m i h.x hf hm).mono;rintro e l⟨rfl,o⟩;exact⟨rfl,h.h o,Fs.H h o⟩;rw[ay hf];have v:s.rs.length<200:=ak;cases hfl:s.iD with
 |false=>
  rw[ay (λe=>by simp at e),ay aY];rw[hfl]at i;apply (Wal.RN s.eK _ f m i h.x v hm (Wal.Jn)).mono;rintro e l⟨rfl,p,g,hF⟩;have k:=h.ao p g hF;refine⟨rfl,?_,(Fs.j).fw h hF⟩

  rw[n];exact k
 |true=>
  rw[hfl]at i;by_cases u:s.eK=0;rw[aH ⟨rfl,u⟩];rw[u]at i;apply (Wal.V0 f m i h.x v hm).mono;rintro e l⟨rfl,p,g,hF⟩;have k:=h.ao p g hF;refine⟨rfl,?_,(Fs.j).fw h hF⟩

  rw[u];exact k;rw[ay (λe=>u e.2),aH rfl];apply (Wal.RN s.eK _ f m i h.x v hm λW a b c d=>Wal.NW a b c d ak z).mono;rintro e l⟨rfl,p,g,hF⟩;have k:=h.ao p g hF;refine⟨rfl,?_,(Fs.j).fw h hF⟩

  rw[n];exact k
def Sv.V(s:Sv)(m:M)(o:Nat):R:=⟨m.c,m.n,o,s.vv o+1,m.d,0⟩
def Sv.I(s:Sv)(m:M)(o:Nat):Sv×Int×Bool:=
 if (s.af (s.V m o)).2=0 then ((s.af (s.V m o)).1.h (s.V m o),s.vv o+1,true) else ((s.af (s.V m o)).1,0,!(s.af (s.V m o)).1.jw)
variable{s:Sv}
def JA{mk mc mn me ms mv:Int}{o:Nat}{ml:Bool}{md:DS}(h:bZ w a s)(N:o<8)(hm:jv (s.V ⟨mk,mc,mn,me,ms,o,mv,ml,md⟩ o)=true)(hc:0<=mc)(h0:0<=s.eK)(P:s.eK<=9223372036854775807)(Q:0<=s.vv o)(T:s.vv o<=4611686018427387904){x:Sv×Int×Bool}(J:Hid (s.I ⟨mk,mc,mn,me,ms,o,mv,ml,md⟩ o=x)):
  Calls prog 196 #[tp a.S,Wire.M.ab ⟨mk,mc,mn,me,ms,o,mv,ml,md⟩] w λe t=>e=.returned (.tuple #[iI x.2.1,.bool x.2.2])/\bZ t a x.1/\Fs a w t:=by
 have U:=h.lt;have W:a.S≠w.heap.size:=ak;have K:a.S≠w.heap.size+1:=ak;have hv:=h.vv o N;have X:(0:Int)<=(o:Int):=ak;have A:(o:Int)<8:=ak;have F:∀d i,bZ ((w.alloc d).alloc i).drew a s:=λd i=>((h.j d).j i).I;have hF:∀d i,Fs a w ((w.alloc d).alloc i).drew:=λd i=>(((Fs.j).O h d).O (h.j d) i).V;have Y:∀d,Bx ((w.alloc d).alloc (.cells #[iI mc,iI mn,iI o,iI (s.vv o+1),.string md,iI 0] 138)).drew (w.heap.size+1) ⟨mc,mn,o,s.vv o+1,md,0⟩:=λd=>by
  have:=Bx.h (w.alloc d) ⟨mc,mn,o,s.vv o+1,md,0⟩ 138;rw[show (w.alloc d).heap.size=w.heap.size+1 by simp]at this;exact this
 have B:∀d i,((w.alloc d).alloc i).drew.heap.size=w.heap.size+2:=λd i=>by show ((w.alloc d).alloc i).heap.size=_;simp
 have C:∀d i,¬eM ((w.alloc d).alloc i).drew.drew a (w.heap.size+1):=λd i=>h.O ((((au _ _).alloc (aj _) d).alloc aY i).drew.drew) ak;unfold Wire.M.ab;dsimp only;go_in;go_wp2;go_region;all_goals go_wp2
 all_goals
  have z:=F (.cells #[iI mk,iI mc,iI mn,iI me,iI ms,iI o,iI mv,.bool ml,.string md] 129) (.cells #[iI mc,iI mn,iI o,iI (s.vv o+1),.string md,iI 0] 138);have u:=hF (.cells #[iI mk,iI mc,iI mn,iI me,iI ms,iI o,iI mv,.bool ml,.string md] 129) (.cells #[iI mc,iI mn,iI o,iI (s.vv o+1),.string md,iI 0] 138);have D:=Y (.cells #[iI mk,iI mc,iI mn,iI me,iI ms,iI o,iI mv,.bool ml,.string md] 129);have Z:=B (.cells #[iI mk,iI mc,iI mn,iI me,iI ms,iI o,iI mv,.bool ml,.string md] 129) (.cells #[iI mc,iI mn,iI o,iI (s.vv o+1),.string md,iI 0] 138);have g:=C (.cells #[iI mk,iI mc,iI mn,iI me,iI ms,iI o,iI mv,.bool ml,.string md] 129) (.cells #[iI mc,iI mn,iI o,iI (s.vv o+1),.string md,iI 0] 138);generalize ((w.alloc (.cells #[.int .i64 mk,.int .i64 mc,.int .i64 mn,.int .i64 me,.int .i64 ms,.int .i64 o,.int .i64 mv,.bool ml,.string md] 129)).alloc (.cells #[.int .i64 mc,.int .i64 mn,.int .i64 o,.int .i64 (s.vv o+1),.string md,.int .i64 0] 138)).drew=w1 at *;obtain⟨b0,b1,b2,b3,b4,b5⟩:=D;dsimp only at b0 b1 b2 b3 b4 b5;have c3:=z.c3;have c4:=z.c4;have c:=Lj s.xU z.I hm h0 P;have p:∀w2,bZ w2 a (s.af (s.V ⟨mk,mc,mn,me,ms,o,mv,ml,md⟩ o)).1->Calls prog 175 #[tp a.S,Wal.R.H ⟨mc,mn,o,s.vv o+1,md,0⟩] w2 λe t=>e=.returned (.tuple #[])/\bZ t a ((s.af (s.V ⟨mk,mc,mn,me,ms,o,mv,ml,md⟩ o)).1.h (s.V ⟨mk,mc,mn,me,ms,o,mv,ml,md⟩ o))/\Fs a w2 t:=λw2 h2=>Cv (s.V ⟨mk,mc,mn,me,ms,o,mv,ml,md⟩ o) h2 hc A;have m:Hid ((if (s.af (s.V ⟨mk,mc,mn,me,ms,o,mv,ml,md⟩ o)).2=0 then ((s.af (s.V ⟨mk,mc,mn,me,ms,o,mv,ml,md⟩ o)).1.h (s.V ⟨mk,mc,mn,me,ms,o,mv,ml,md⟩ o),s.vv o+1,true) else ((s.af (s.V ⟨mk,mc,mn,me,ms,o,mv,ml,md⟩ o)).1,0,!(s.af (s.V ⟨mk,mc,mn,me,ms,o,mv,ml,md⟩ o)).1.jw))=x):=J.out;clear J;unfold Wal.R.H at c p;unfold Sv.V at c;dsimp only at c;rw[show (⟨mc,mn,o,s.vv o+1,md,0⟩:R)=s.V ⟨mk,mc,mn,me,ms,o,mv,ml,md⟩ o from rfl]at c;generalize (s.V ⟨mk,mc,mn,me,ms,o,mv,ml,md⟩ o)=r at *;generalize (s.af r)=y at *;obtain⟨s2,en⟩:=y;dsimp only at c p m;go_still_tail 9,bt;go_wp2_with fail
  refine c.mono ?_;rintro e w2⟨rfl,G,k⟩;clear c;have L:=u.V.e k;by_cases E:en=0
  .subst E;have n:∀j,w2.cell? (aA (w.heap.size+1) j)=w1.cell? (aA (w.heap.size+1) j):=λj=>aa (k.o (w.heap.size+1) (by show _<w1.heap.size;omega) g);have l:¬eM w2 a (w.heap.size+1):=λf=>g (k.h _ (by show _<w1.heap.size;omega) f);have ad:=k.b;have aS:w1.drew.heap.size=w1.heap.size:=rfl;have b0:=(n 0).trans b0;have b1:=(n 1).trans b1;have b2:=(n 2).trans b2;have b3:=(n 3).trans b3;have b4:=(n 4).trans b4;have b5:=(n 5).trans b5;rw[show eV 0=.nilIface from rfl];have q:Hid (x=(s2.h r,s.vv o+1,true)):=m.out.symm;clear m n c3 c4 z u k g;go_wp2_with fail
   refine(p w2 G).mono ?_;rintro e w3⟨rfl,G3,v⟩;have n:w3.cell? (aA (w.heap.size+1) 3)=some (iI (s.vv o+1)):=(aa (v.o (w.heap.size+1) ak l)).trans b3;go_wp2_with fail
   go_ret2;rw[q.out];exact⟨rfl,G3,L.e v⟩
  .rw[Aj E];have q :Hid _:= m.out.symm.trans (ay E);have hd:=oK G;go_wp2_with fail
   refine hd.mono ?_;rintro e w3⟨rfl,rfl⟩;go_wp2_with fail
   go_ret2;rw[q.out];exact⟨rfl,G,L⟩
end Wld
end Go.Proofs.YtbebfliimjjohabGreatDoor
