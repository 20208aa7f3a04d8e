/- Parts of the proof. -/
import Derived.Test.YtbebfliimjjohabGreatDoorM24
set_option maxRecDepth 100000
set_option maxHeartbeats 8000000
set_option linter.all false
open Go.Proofs.Tryz
namespace Go.Proofs.YtbebfliimjjohabGreatDoor open Gen (on tk)
open Go Go.RowKit Go.Maps
open Num (m6 gy dD M)
open Wire (i5)
open Lease (Ob gv gV de cP mx cL ji fV)
open Cache (tp bp bD)
namespace App
variable{a:Act}{Q:Exit->Act->A1->Prop}{news:List Bg}{base size bytes n:Nat}{o:Oper}{P:Bo}{t:Bi}{i:TypeInfo}{z:Bg}{w:A1}
def Pd{r e:Bi}(y:P.underlying t=some (.slice e))(A:P.info? e=some i)(H:i.zero=some z)(o:i.size=size)(D:i.bytes=bytes){v:Bg}{xs:List Bg}(h:w.ownsRow base e size v n xs){a:Addr}{m c:Nat}(B:news.length=m*size)(d:∀j u,news[j]?=some u->w.cell? (a.add j)=some u)(J:∀u∈news,u.oneCell'=true)(E:n+m<=maxLen)(f:(n+m)*bytes<=140737488355328){I:Bg}{w':A1}(b:(Builtin.append_ #[t,t] r #[v,.slice (some a) m c]).run P w=.ok I w'):
  ∀g,I.ownBlock=some g->v.ownBlock=some g\/w.heap.size<=g:=by
 subst o;subst D;have C:n+m<=9223372036854775807:=by simp only[maxLen]at E;omega
 intro R l;rcases h.2 with⟨rfl,rfl⟩|⟨g,p,s,rfl,K,L,M,N,F,G⟩
 by_cases O:m=0;subst O;have e:(Builtin.append_ #[t,t] r #[.slice none 0 0,.slice (some a) 0 c]).run P w=.ok (.slice none 0 0) w:=by
  simp[Builtin.append_,jm y,sizeOf,typeInfo,A,Builtin.lenOf,Builtin.firstCells,loadCells,loadCellsFrom]
 rw[e]at b;injection b with b _
 subst b;simp[Value.ownBlock]at l;have e:=run_append_nil (P:=P) w t r _ i z y A H a m c news B d (by omega) (by omega) (by have Q:=f;simp at Q;omega);rw[e]at b;injection b with b _
 subst b;simp[Value.ownBlock]at l;exact .inr (by omega);by_cases k:n+m<=p;have x:n*i.size+news.length<=s.size:=by rw[B,F,<-Nat.add_mul];exact Nat.mul_le_mul_right _ k
 have e:=run_append_room (P:=P) w t r _ i y A g n p s L a m c news B d J k x;rw[e]at b;injection b with b _
 subst b;exact .inl l;have q:= h.cells (g:=g) rfl;rw[(run_append_grow (P:=P) w t r _ i z y A H (aA g 0) n p xs h.1 q a m c news B d (by omega) (by omega) (growslice_fits (by omega) f))]at b;injection b with b _
 subst b;simp[Value.ownBlock]at l;exact .inr (by omega)
def nD{K:Act->A1->Prop}(s x:Operand)(H:o.op=.call {callee:=.builtin .append,args:=#[s,x],argTypes:=#[t,t]}){e:Bi}(B:P.underlying t=some (.slice e))(C:P.info? e=some i)(D:i.zero=some z)(d:i.size=size)(p:i.bytes=bytes)(y:z.cells.size=size)(A:0<size){v:Bg}{xs:List Bg}(hs:a.eval s=v)(k:w.ownsRow base e size v n xs)(ad:Addr)(m c:Nat)(I:a.eval x=.slice (some ad) m c)(E:news.length=m*size)(f:∀j u,news[j]?=some u->w.cell? (ad.add j)=some u)(F:∀u∈news,u.oneCell'=true)(q:n+m<=maxLen)(b:(n+m)*bytes<=140737488355328)(l:base<=w.heap.size)(h:∀r w',w'.ownsRow base e size r (n+m) (xs++news)->w.grownBy w' v.ownBlock->(∀g,r.ownBlock=some g->v.ownBlock=some g\/w.heap.size<=g)->K (a.put o.dst r) w'):o.wp P a w K Q:=by
 obtain⟨r,w',G,J,L,_⟩:=run_append_own (P:=P) w base t o.type e i z size bytes B C D d p y A v n xs k ad m c news E f F q b l;unfold Oper.wp execOp;simp only[H,resolve,invoke,builtin,sT,Sem.run_pure,vg,i7,cE,jw,hs,I,G];exact h r w' J L (Pd B C D d p k E f F q b G)
def je{l:Array Oper}{rest:List Oper}(r:o.guard=none){s x:Operand}(D:o.op=.call {callee:=.builtin .append,args:=#[s,x],argTypes:=#[t,t]}){e:Bi}(E:P.underlying t=some (.slice e))(F:P.info? e=some i)(G:i.zero=some z)(d:i.size=size)(y:i.bytes=bytes)(A:z.cells.size=size)(B:0<size){v:Bg}{xs:List Bg}(hs:a.eval s=v)(p:w.ownsRow base e size v n xs)(ad:Addr)(m c:Nat)(news:List Bg)(H:a.eval x=.slice (some ad) m c)(I:news.length=m*size)(f:∀j u,news[j]?=some u->w.cell? (ad.add j)=some u)(J:∀u∈news,u.oneCell'=true)(C:n+m<=maxLen)(b:(n+m)*bytes<=140737488355328)(k:base<=w.heap.size)(h:∀q w',w'.ownsRow base e size q (n+m) (xs++news)->w.grownBy w' v.ownBlock->(∀g,q.ownBlock=some g->v.ownBlock=some g\/w.heap.size<=g)->wpList P l Q rest (a.put o.dst q) w'):wpList P l Q (o::rest) a w:=
 wpList_plain r λ_ K=>nD (w:=w) s x D E F G d y A B hs p ad m c H I f J C b k λq w' L M N=>K _ _ (h q w' L M N)
end App
namespace Wal
variable{down:Bool}{rs:List R}{u:Nat}{r:R}{a b c w w':A1}
structure PF(u q:Nat)(row:Option Nat)(w w':World):Prop where
 A:w'.os=w.os
 s:w'.tape=w.tape
 o:w'.output=w.output
 h:w.heap.size<=w'.heap.size
 b:∀k,k<w.heap.size->k≠u->k≠q->row≠some k->w'.heap[k]?=w.heap[k]?
 p:∀i,q<w.heap.size->q<u->(∀g,row=some g->u<g)->(i<3\/12405<=i)->w'.cell? ⟨q,i,none⟩=w.cell? ⟨q,i,none⟩
 x:∀i,q<w.heap.size->q<u->(∀g,row=some g->u<g)->w'.frozen? ⟨q,i,none⟩=w.frozen? ⟨q,i,none⟩
 y:∀t,q<u->(∀g,row=some g->u<g)->(∃cs f,w.heap[q]?=some (.cells cs t f))->∃cs f,w'.heap[q]?=some (.cells cs t f)
def Fw(u q:Nat)(w w':World):Prop:=∃v,w.cell? ⟨u,1,none⟩=some v/\PF u q v.ownBlock w w'/\∃a,w'.cell? ⟨u,1,none⟩=some a/\∀g,a.ownBlock=some g->v.ownBlock=some g\/w.heap.size<=g
def PF.j{q:Nat}{row:Option Nat}(h:PF u q row a b)(k:PF u q row b c):PF u q row a c:=
 ⟨k.A.trans h.A,k.s.trans h.s,k.o.trans h.o,aP h.h k.h,λi g d e l=>by
  rw[k.b i (aO g h.h) d e l,h.b i g d e l],
  λi e d f g=>(k.p i (aO e h.h) d f g).trans (h.p i e d f g),λi e d f=>(k.x i (aO e h.h) d f).trans (h.x i e d f),λt d f l=>k.y t d f (h.y t d f l)⟩
def PF.I{q:Nat}(row:Option Nat)(h:Oq q a b):PF u q row a b:=⟨h.y,h.s,h.p,h.h,λk d _ c _=>h.b k d c,λi c _ _ e=>h.o i c e,λi c _ _=>h.u i c,λt _ _ f=>h.x t f⟩
def PF.e{q:Nat}(row:Option Nat)(h:Below a.heap.size a b):PF u q row a b:=PF.I row (Oq.e h)
def PF.O{q:Nat}{row:Option Nat}(h:PF u q row a b)(hs:b.heap.size<=c.heap.size)(m:c.os=b.os)(n:c.tape=b.tape)(o:c.output=b.output)(g:∀k,k<b.heap.size->k≠u->row≠some k->c.heap[k]?=b.heap[k]?):PF u q row a c:=
 h.j ⟨m,n,o,hs,λk p i _ d=>g k p i d,λ_ l i f _=>aj (g q l (by omega) (λe=>by have:=f q e;omega)),λ_ l i f=>aJ (g q l (by omega) (λe=>by have:=f q e;omega)),
  λ_ i f d=>d.imp λ_ d=>d.imp λ_ d=>(g q (am.1 d).1 (by omega) (λe=>by have:=f q e;omega)).trans d⟩
def PF.H{q i:Nat}{row:Option Nat}(h:PF u q row a b)(v:Bg):PF u q row a (b.setCell (aA u i) v):=
 h.O (by simp) rfl rfl rfl (λk _ c _=>aX b (aA u i) v k c)
def PF.V{q:Nat}{row:Option Nat}(h:PF u q row a b)(d:b.grownBy c row):PF u q row a c:=
 h.O d.size d.os d.tape d.output (λk f _ g=>d.block k f (λe=>g e.symm))
def dE.I{q:Nat}(h:dE w u q rs down)(d:Oq q w w')(l:q<u):dE w' u q rs down:=by
 obtain⟨m,⟨v,n,j⟩,o,p,r,s⟩:=h;have c:=d.b u r (by omega);refine⟨(aj (a:=(aA u 0)) c).trans m,⟨v,(aj (a:=(aA u 1)) c).trans n,j.1,?_⟩,(aj (a:=(aA u 2)) c).trans o,λi=>(aJ (a:=(aA u i)) c).trans (p i),by have:=d.h;omega,s.imp λ_ h=>h.imp λ_ h=>c.trans h⟩;rcases j.2 with h|⟨g,e,f,t,x,k,y⟩
 exact .inl h;exact .inr ⟨g,e,f,t,x,(d.b g (am.1 k).1 (by omega)).trans k,y⟩
def TY(h:jf r=true):Ok r:=by
 unfold jf at h;split at h;rename_i d;simp[iD]at h;let ⟨h0,hc,a,b,hd⟩:=h
 have c:=Num.eY h0;refine⟨by rw[hd];simp,?_⟩;apply B8;exact .inl (by simp[kb,hc]);exact .inl (by simp[kb,a]);exact .inr (by simp[kb,d]);exact .inl (by simp[kb,b]);exact .inl (by simpa[kb] using c);simp[gp]at h;let ⟨⟨⟨hc,a⟩,b⟩,h0,e,hd,c⟩:=h
 refine⟨hd,?_⟩;apply B8;exact .inl (by simpa[kb] using (Num.eY hc));exact .inl (by simpa[kb] using (Num.eY a));exact .inl (by simp[kb];omega);exact .inl (by simpa[kb] using (Num.eY b));exact .inl (by simp[kb,c])
def TT{q:Nat}(a:Int)(r:R)(h:dE w u q rs true):
  Calls prog 176 #[.pointer (some (aA u 0)),r.H,iI a] w λe w'=>e=.returned (.iface 59 (iI 6))/\Below w.heap.size w w':=by
 have c2:=h.b;have c:=h.o;go_enter func176,ntmps176;go_wp2_with fail
 go_ret;exact⟨rfl,(au _ _).alloc (aa _) _⟩
def TU{q:Nat}{a:Bool}(left b:Int)(h:dE w u q rs false)(g:bW w q rs a left)(i:q<u)(j:rs.length=200)(k:jf r=true):
  Calls prog 176 #[.pointer (some (aA u 0)),r.H,iI b] w λe w'=>e=.returned (.iface 59 (iI 12))/\Below w.heap.size w w':=by
 have ⟨_,_,c2,_,l,_⟩:=h

 go_enter func176,ntmps176;go_wp2_with fail
 refine(zh r (by have:=(TY k).1;omega)).mono ?_;rintro e w1⟨rfl,c⟩;have d:= ((au _ _).alloc (aa _) _).trans (c.mono (by simp));have m:=(d.cell (p:=(aA u 0)) l).trans h.h;go_wp2_with fail
 apply (wq (g.e d (by omega))).mono;rintro e w2⟨rfl,f⟩;rw[f,j];go_wp2_with fail
 go_ret;exact⟨rfl,d⟩
def dE.H{q:Nat}(h:dE w u q rs down)(d:Bool):dE (w.setCell (aA u 2) (.bool d)) u q rs d:=by
 obtain⟨b,⟨v,c,e⟩,f,g,j,k⟩:=h;refine⟨by rw[ak _ _ _ _ (by simp)];exact b,⟨v,by rw[ak _ _ _ _ (by simp)];exact c,?_⟩,ay _ _ _ f,λi=>by rw[bb];exact g i,by simpa using j,Fc k⟩;exact iB (a:=(aA u 2)) e (by dsimp only;omega) _
def Bx(w:World)(b:Nat)(r:R):Prop:=w.cell? ⟨b,0,none⟩=some (.int .i64 r.c)/\w.cell? ⟨b,1,none⟩=some (.int .i64 r.n)/\w.cell? ⟨b,2,none⟩=some (.int .i64 r.o)/\w.cell? ⟨b,3,none⟩=some (.int .i64 r.v)/\w.cell? ⟨b,4,none⟩=some (.string r.d)/\w.cell? ⟨b,5,none⟩=some (.int .i64 r.e)
def Bx.h(w:A1)(r:R)(t:Bi):Bx (w.alloc (.cells #[iI r.c,iI r.n,iI r.o,iI r.v,.string r.d,iI r.e] t)) w.heap.size r:=by
 refine⟨?_,?_,?_,?_,?_,?_⟩<;>(rw[bS _ _ _ _ _ _ (bw w _)];rfl)
def Bx.e{b:Nat}(h:Bx w b r)(c:w'.heap[b]?=w.heap[b]?):Bx w' b r:=by
 obtain⟨h0,d,f,g,i,j⟩:=h;exact⟨(aj (a:=(aA b 0)) c).trans h0,(aj (a:=(aA b 1)) c).trans d,(aj (a:=(aA b 2)) c).trans f,(aj (a:=(aA b 3)) c).trans g,(aj (a:=(aA b 4)) c).trans i,(aj (a:=(aA b 5)) c).trans j⟩
def XO{q:Nat}(m:Int)(h:dE w u q rs false)(B:bW w q rs true 0)(C:q<u)(L:rs.length<200)(M:jf r=true):
  Calls prog 176 #[.pointer (some (aA u 0)),r.H,iI m] w λe w'=>e=.returned (.iface 59 (iI 14))/\dE w' u q rs true/\bW w' q rs true 0/\Fw u q w w':=by
 have ⟨_,_,c2,_,N,_⟩:=h

 have o:=TY M;have s:=o.1;go_enter func176,ntmps176;go_wp2_with fail
 have t:=Bx.h w r 138;apply (zh r (by omega)).mono;rintro e w1⟨rfl,n⟩;have D:=n.size;simp at D;have x:= ((au _ _).alloc (aa _) _).trans (n.mono (by simp));have y:=(x.cell (p:=(aA u 0)) N).trans h.h;have f:=t.e (n.block w.heap.size (by simp));replace h:=h.e x;replace B:=B.e x (by omega);have O:=h.j 2;have P:=h.b;go_wp2_with fail
 apply (wq B).mono;rintro e w2⟨rfl,E⟩;rw[E];have Q:(rs.length:Int)<200:=by omega
 have R:((rs.length:Int)==200)=false:=by simp;omega
 go_wp2_with fail
 refine Gen.start (S:=λw'=>w'.cell? (aA u 0)=some (.pointer (some (aA q 3)))/\Bx w' w.heap.size r) (by kernel_rfl) ⟨y,f⟩ (λc=>?_);apply tk 0 1 c

 apply tk 1 2 c

 apply tk 2 3 c

 apply tk 3 8 c

 apply tk 4 8 c

 apply tk 5 6 c

 apply tk 7 8 c

 refine on 6 λK z=>?_;go_simp;apply (ym r s).mono;rintro e w3⟨rfl,i⟩

 have d:Below w1.heap.size w1 w3:=⟨i.os,i.tape,i.output,i.size,i.block⟩;have T:=d.size;refine z.out _ _ ⟨(d.cell (p:=(aA u 0)) (by dsimp only;omega)).trans y,f.e (d.block w.heap.size (by omega))⟩ (λc=>?_)

 refine on 8 λK z=>?_;go_simp;apply (PX m (B.e d (by omega)) L o (by omega)).mono;rintro e w4⟨rfl,F,l⟩

 have A:=(h.e d).I l C;have U:=l.h;have G:=l.b w.heap.size (by omega) (by omega);have J:= (l.b u (by omega) (by omega)).trans ((x.trans (d.mono (by omega))).block u (by omega));refine z.out _ _ ⟨A.h,((f.e (d.block w.heap.size (by omega))).e G)⟩ (λc=>?_)

 refine Gen.la 9 λK z=>?_;go_simp;apply z.out _ _;have W:=A.b;have X:=A.j 2;go_wp2_with fail
 go_ret;exact⟨rfl,A.H true,F.e (Below.setCell (au (q+1) w4) (by dsimp only;omega) _) (by omega),A.p.elim λv k=>⟨v,(aj (a:=(aA u 1)) J).symm.trans k.1,((λrow=>(PF.e row (x.trans (d.mono (by omega)))).j (PF.I row l)) _).H _,v,(ak _ _ _ _ (by simp)).trans k.1,λg V=>.inl V⟩⟩
def TV{q:Nat}{Z:Bool}(left A F:Int)(h:dE w u q rs false)(hD:bW w q rs Z left)(ad:q<u)(hl:rs.length<200)(hm:jf r=true)(aI:∀W,bW W q rs Z left->rs.length<200->Ok r->q<W.heap.size->Calls prog 219 #[.pointer (some (aA q 3)),iI rs.length,.agg ((fM r).map (Value.int .u8)).toArray,iI F] W λe w'=>e=.returned (.bool true)/\bW w' q (rs++[r]) Z A/\Oq q W w'):
  Calls prog 176 #[.pointer (some (aA u 0)),r.H,iI F] w λe w'=>e=.returned .nilIface/\dE w' u q (rs++[r]) false/\bW w' q (rs++[r]) Z A/\Fw u q w w':=by
 have HW:Hid _:=aI

 have ⟨c0,_,c2,_,hu,_⟩:=h


 have M:=TY hm;have N:=M.1;go_enter func176,ntmps176;go_wp2_with fail
 have O:=Bx.h w r 138;apply (zh r (by omega)).mono;rintro e w1⟨rfl,J⟩;have aS:=J.size;simp at aS;have P:Below w.heap.size w w1:=((au _ _).alloc (aa _) _).trans (J.mono (by simp));have Q:=(P.cell (p:=⟨u,0,none⟩) hu).trans c0;have B:=O.e (J.block w.heap.size (by simp));replace h:=h.e P;replace hD:=hD.e P (by omega);have co:=h.j 2;have cp:=h.b

 go_wp2_with fail
 apply (wq hD).mono;rintro e w2⟨rfl,a0⟩;rw[a0]

 have cs:(rs.length:Int)<200:=by omega
 have ct:((rs.length:Int)==200)=false:=by simp;omega
 go_wp2_with fail
 refine Gen.start (S:=λw'=>w'.cell? ⟨u,0,none⟩=some (.pointer (some ⟨q,3,none⟩))/\Bx w' w.heap.size r) (by kernel_rfl) ⟨Q,B⟩ (λf=>?_);apply tk 0 1 f

 apply tk 1 2 f

 apply tk 2 3 f

 apply tk 3 8 f

 apply tk 4 8 f

 apply tk 5 6 f

 apply tk 7 8 f

 refine on 6 λK x=>?_;go_simp;apply (ym r N).mono;rintro e w3⟨rfl,C⟩

 have l:Below w1.heap.size w1 w3:=⟨C.os,C.tape,C.output,C.size,C.block⟩;have cv:=l.size;refine x.out _ _ ⟨(l.cell (p:=⟨u,0,none⟩) (by dsimp only;omega)).trans Q,B.e (l.block w.heap.size (by omega))⟩ (λf=>?_)


 refine on 8 λK x=>?_;go_simp;apply (HW.out _ (hD.e l (by omega)) hl M (by omega)).mono;rintro e w4⟨rfl,a1,D⟩

 have h4:=(h.e l).I D ad;have cw:=D.h;have ba:=D.b u (by omega) (by omega);have bc:=D.b w.heap.size (by omega) (by omega);have G:=(B.e (l.block w.heap.size (by omega))).e bc;have R:∀row,PF u q row w w4:=λrow=>(PF.e row (P.trans (l.mono (by omega)))).j (PF.I row D);have bg:w4.heap[u]?=w.heap[u]?:=ba.trans ((P.trans (l.mono (by omega))).block u (by omega));refine x.out _ _ ⟨h4.h,G⟩ (λf=>?_)


 refine Gen.la 9 λK x=>?_;go_simp;apply x.out _ _

 have g1:=h4.j 1;let ⟨v,T,E⟩:=h4.p
 obtain⟨va,vc,rfl,cA,_⟩:=tB E;have ⟨g0,_,g2,g3,bK,bO⟩:=h4




 have ck:q<w4.heap.size:=by omega
 let ⟨i0,hi,bR,b1,b2⟩:=dw sG
 have e3:rs.length+1<=maxLen:=by unfold maxLen;omega
 have e4:(rs.length+1)*56<=140737488355328:=by omega
 go_wp2_with fail
 let ⟨s0,s1,s2,s3,s4,s5⟩:=G
 refine Gen.start (S:=λw'=>w'.cell? ⟨u,1,none⟩=some (.slice va rs.length vc)) (by kernel_rfl) T (λf=>?_);apply tk 0 8 f

 apply tk 1 2 f

 apply tk 2 3 f

 apply tk 3 4 f

 apply tk 4 7 f

 refine on 5 λK x=>?_;go_simp;refine x.out _ _ T (λf=>?_)


 refine on 6 λK x=>?_;go_simp;have m:Below w4.heap.size w4 (w4.alloc (.cells #[.int .i64 r.c,.int .i64 r.n,.int .i64 r.o,.int .i64 r.v,.string r.d,.int .i64 r.e] 138)).drew:=((au _ _).alloc (aa _) _).drew;refine x.out _ _ ((m.cell (p:=⟨u,1,none⟩) bK).trans T) (λf=>?_)


 refine on 7 λK x=>?_;refine App.nD (.tmp 43) (.tmp 45) rfl underlying267 hi bR b1 b2 rfl (by decide) (by rfl) (pR E m) ⟨w4.heap.size,0,none⟩ 1 1 (by rfl) rfl (Hr w4 r) r.I e3 e4 (by have:=m.size;omega) ?_;intro v1 U t X cb;rw[<-yl]at t;obtain⟨y,z,rfl,_,_⟩:=tB t;have s:Below (u+1) w4 U:=(m.mono (by omega)).grown X (by have:=m.size;omega) (λk hk=>((pR E m).lt k hk).1);have cc:=((R _).j (PF.e _ m)).V X;have cd:=(aj (a:=⟨u,1,none⟩) bg).symm.trans T;have m1:=(s.cell (p:=⟨u,1,none⟩) (by dsimp only;omega)).trans T;have m2:U.frozen? ⟨u,1,none⟩=false:=(s.frozen (p:=⟨u,1,none⟩) (by dsimp only;omega)).trans g1;refine x.out _ _ m1 (λf=>?_)


 apply tk 8 9 f

 apply tk 9 10 f

 refine Gen.la 10 λK x=>?_;go_simp;apply x.out _ _

 have ce:dE (U.setCell ⟨u,1,none⟩ (.slice y (rs.length+1) z)) u q (rs++[r]) false:=by
  refine⟨?_,⟨_,ay _ _ _ m1,?_⟩,?_,λi=>?_,by have:=s.size;simp;omega,Fc (bO.imp λ_ h=>h.imp λ_ h=>(s.block _ (by omega)).trans h)⟩;rw[ak _ _ _ _ (by simp)];exact(s.cell (p:=⟨u,0,none⟩) (by dsimp only;omega)).trans g0;rw[aM];exact iB (a:=⟨u,1,none⟩) t (by dsimp only;omega) _;rw[ak _ _ _ _ (by simp)];exact(s.cell (p:=⟨u,2,none⟩) (by dsimp only;omega)).trans g2;rw[bb];exact(s.frozen (p:=⟨u,i,none⟩) (by dsimp only;omega)).trans (g3 i)
 have cg:=a1.e ((s.mono (show q+1<=u+1 by omega)).setCell (p:=⟨u,1,none⟩) (by dsimp only;omega) (.slice y (rs.length+1) z)) (by omega);have ci:=cc.H (i:=1) (.slice y (rs.length+1) z);have L:=ay U ⟨u,1,none⟩ (.slice y (rs.length+1) z) m1;have cl:=(R none).h;have Y:∀g,(Value.slice y (rs.length+1) z).ownBlock=some g->_\/w.heap.size<=g:=λg hg=>(cb g hg).imp (λh=>h) (λh=>by have:=m.size;omega);generalize U.setCell ⟨u,1,none⟩ (.slice y (rs.length+1) z)=w7 at *;go_wp2_with fail
 go_ret;exact⟨rfl,ce,cg,_,cd,ci,_,L,Y⟩
def TW{q:Nat}(h:dE w u q rs down):
  Calls prog 194 #[.pointer (some (aA u 0))] w λe w'=>e=.returned (.bool down)/\w'=w:=by
 have c2:=h.b;go_enter func194,ntmps194;go_wp2_with fail
 go_ret;exact⟨rfl,rfl⟩
def M3(w:A1)(a:Option Addr)(n c:Nat):(binOp .eql 267 (.slice a n c) (.slice none 0 0)).run prog w=.ok (.bool a.isNone) w:=
 Lib.run_eql_slice_nil w 267 138 a n c 0 0 underlying267
def PI:
  Calls prog 216 #[.slice none 0 0] w λe w'=>e=.returned (.slice none 0 0)/\w'=w:=by
 have a:=λw=>M3 w none 0 0;go_enter func216,ntmps216;go_wp2_with fail
 go_ret;exact⟨rfl,rfl⟩
def KD{B g c:Nat}(f:w.ownsRow B 138 6 (.slice (some (aA g 0)) rs.length c) rs.length (cY rs))(A:rs.length<=200):
  Calls prog 216 #[.slice (some (aA g 0)) rs.length c] w λe w'=>∃v,e=.returned v/\w'.ownsRow w.heap.size 138 6 v rs.length (cY rs)/\Below w.heap.size w w':=by
 obtain⟨r,s,m,n,o⟩:=dw sG;have b:(w.alloc (.cells #[] 138)).ownsRow w.heap.size 138 6 (.slice (some (aA w.heap.size 0)) 0 0) 0 []:=by simpa using Md (base:=w.heap.size) (e:=138) (size:=6) w #[] 0 (aa _) (by decide) rfl
 have d:∀j u,(cY rs)[j]?=some u->(w.alloc (.cells #[] 138)).cell? (((aA g 0):Addr).add j)=some u:=λj u h=>by
  have:=f.cells rfl j u h;rw[aH _ _ _ (cS _ _ this)];exact this
 have t:0+rs.length<=maxLen:=by unfold maxLen;omega
 have x:(0+rs.length)*56<=140737488355328:=by omega
 have i:=B9 rs;have l:=KF rs;have C:=λw=>M3 w (some (aA g 0)) rs.length c;go_enter func216,ntmps216;go_wp2_with (at_builtin;refine fC _ rfl _ _ 267 rfl w.heap.size 138 r (.agg #[iI 0,iI 0,iI 0,iI 0,.string ⟨#[]⟩,iI 0]) 6 56 underlying267 s m n o rfl (by decide) _ _ _ rfl b (aA g 0) _ _ (cY rs) rfl i d l t x ?r5 ?_)
 case r5=>simp
 intro y w1 a p _;have q:= ((au _ _).alloc (aa _) _).grown p (by simp) (λk z=>by simp[Value.ownBlock]at z;omega);go_wp2_with fail
 go_ret;exact⟨y,rfl,(by first|exact a|simpa using a),q⟩
def Hs(u q:Nat)(rs:List R)(down:Bool)(w:A1)(h:dE w u q rs down)(d:rs.length<=200):
  Calls prog 174 #[.pointer (some (aA u 0))] w λe w'=>∃v,e=.returned v/\w'.ownsRow w.heap.size 138 6 v rs.length (cY rs)/\Below w.heap.size w w':=by
 let ⟨v,k,a⟩:=h.p
 rcases a.2 with⟨rfl,h0⟩|⟨g,f,i,rfl,_⟩
 .have c:= vo.1 h0;subst c;go_enter func174,ntmps174;go_wp2_with fail
  apply (PI).mono;rintro e w1⟨rfl,rfl⟩;go_wp2_with fail
  go_ret;exact⟨_,rfl,jE _ _ _ _,au _ _⟩
 .go_enter func174,ntmps174;go_wp2_with fail
  apply (KD a d).mono;rintro e w1⟨v,rfl,b,j⟩;go_wp2_with fail
  go_ret;exact⟨_,rfl,b,j⟩
end Wal
open Wal (R dE bW Oq Fw cY)
namespace Wld
variable{rs:List R}{b:Nat}{w w':A1}
structure Sv where
 i:Int
 b:Int
 o:Int
 xC:Int
 bO:Int
 gq:Int
 vd:Nat->ByteArray
 vv:Nat->Int
 last:Nat->R
 D:Lease.ka
 mR:Int->Int
 iu:Int->Int
 n:Nat
 waits:Nat->List M
 rs:List R
 dS:Bool
 dX:Bool
 da:Int
variable{s:Sv}
structure Ad where
 q:Nat
 S:Nat
 U:Nat
 T:Nat
 m:Nat
variable{a:Ad}
structure cx(w:World)(a:Ad)(s:Sv):Prop where
 y:∃cs f,w.heap[a.S]?=some (.cells cs 144 f)
 o:∀i,w.frozen? ⟨a.S,i,none⟩=false
 c0:w.cell? ⟨a.S,0,none⟩=some (.int .i64 s.i)
 c1:w.cell? ⟨a.S,1,none⟩=some (.int .i64 s.b)
 c2:w.cell? ⟨a.S,2,none⟩=some (.int .i64 s.o)
 c3:w.cell? ⟨a.S,3,none⟩=some (tp a.U)
 c4:w.cell? ⟨a.S,4,none⟩=some (.int .i64 s.xC)
 c5:w.cell? ⟨a.S,5,none⟩=some (.int .i64 s.bO)
 c6:w.cell? ⟨a.S,6,none⟩=some (.int .i64 s.gq)
 vd:∀i,i<8->w.cell? ⟨a.S,7+i*2,none⟩=some (.string (s.vd i))
 vv:∀i,i<8->w.cell? ⟨a.S,7+i*2+1,none⟩=some (.int .i64 (s.vv i))
 la:∀i,i<4->∀j u,(s.last i).h[j]?=some u->w.cell? ⟨a.S,23+i*6+j,none⟩=some u
 A:w.cell? ⟨a.S,47,none⟩=some (tp a.T)
 b:∀i,i<8->∃v,w.cell? ⟨a.S,48+i,none⟩=some v/\iy w (a.S+1) v (s.waits i)
 t:∀i j u v,i<8->j<8->i≠j->w.cell? ⟨a.S,48+i,none⟩=some u->w.cell? ⟨a.S,48+j,none⟩=some v->∀g,u.ownBlock=some g->v.ownBlock≠some g
 F:dE w a.U a.q s.rs s.dS
 Z:bW w a.q s.rs s.dX s.da
 p:cL w a.T a.m s.D s.mR s.iu s.n
 tt:∃cs f,w.heap[a.T]?=some (.cells cs 301 f)
 x:a.q<a.U
 J:a.U<a.m
 W:a.m<a.T
 C:a.T<a.S
 B:∀i,i<8->(s.waits i).length<=10
def cx.lt(h:cx w a s):a.S<w.heap.size:=h.y.elim λ_ h=>h.elim λ_ h=>(am.1 h).1
def cx.ah(h:cx w a s)(g:w'.heap[a.S]?=w.heap[a.S]?)(p:dE w' a.U a.q s.rs s.dS)(r:bW w' a.q s.rs s.dX s.da)(z:cL w' a.T a.m s.D s.mR s.iu s.n)(k:∃cs f,w'.heap[a.T]?=some (.cells cs 301 f))(E:∀i v,i<8->cC w (aA a.S (48+i)) v->iy w (a.S+1) v (s.waits i)->iy w' (a.S+1) v (s.waits i)):cx w' a s:=by
 have e:∀i,w'.cell? (aA a.S i)=w.cell? (aA a.S i):=λi=>aj g;exact⟨by rw[g];exact h.y,λi=>(aJ (a:=(aA a.S i)) g).trans (h.o i),(e 0).trans h.c0,(e 1).trans h.c1,(e 2).trans h.c2,(e 3).trans h.c3,(e 4).trans h.c4,(e 5).trans h.c5,(e 6).trans h.c6,
  λi c=>(e _).trans (h.vd i c),λi c=>(e _).trans (h.vv i c),λi c j u l=>(e _).trans (h.la i c j u l),(e 47).trans h.A,
  λi c=>(h.b i c).imp λv d=>⟨(e _).trans d.1,E i v c d.1 d.2⟩,λi j u v c F G l d=>h.t i j u v c F G ((e _).symm.trans l) ((e _).symm.trans d),p,r,z,k,h.x,h.J,h.W,h.C,h.B⟩
def cx.h(h:cx w a s)(b:Below w.heap.size w w'):cx w' a s:=
 h.ah (b.block _ h.lt) (h.F.e b) (h.Z.e b (by have:=h.F.o;have:=h.x;omega)) (h.p.H b) (h.tt.imp λ_ k=>k.imp λ_ k=>(b.block _ (by have:=h.lt;have:=h.C;omega)).trans k) (λ_ _ _ _ c=>c.j b)
def cx.I(h:cx w a s):cx w.drew a s:=h.h (au _ _).drew
def cx.ab(h:cx w a s){j:Nat}:cx (w.drewN j) a s:=h.h ⟨rfl,rfl,rfl,aa _,λ_ _=>rfl⟩
def cx.j(h:cx w a s)(o:Obj):cx (w.alloc o) a s:=h.h ((au _ _).alloc (aa _) o)
def pr{g:Nat}{cs c:Array Bg}{t d:Bi}{f f':Nat×Nat}(h:w.heap[b]?=some (.cells cs t f))(a:w.heap[g]?=some (.cells c d f'))(e:t≠d):b≠g:=by
 rintro rfl;rw[h]at a;injection a with a
 injection a with _ a _
 exact e a
def WalIs.ac{u q:Nat}{down:Bool}(h:dE w u q rs down)(hs:w.heap.size<=w'.heap.size)(b:w'.heap[u]?=w.heap[u]?)(m:∀g cs f,w.heap[g]?=some (.cells cs 138 f)->u+1<=g->w'.heap[g]?=w.heap[g]?):dE w' u q rs down:=by
 obtain⟨n,⟨v,o,d,e⟩,p,r,y,s⟩:=h;refine⟨(aj (a:=(aA u 0)) b).trans n,⟨v,(aj (a:=(aA u 1)) b).trans o,d,?_⟩,(aj (a:=(aA u 2)) b).trans p,λi=>(aJ (a:=(aA u i)) b).trans (r i),by omega,by rw[b];exact s⟩;rcases e with h|⟨g,j,c,t,k,l,x⟩
 exact .inl h;exact .inr ⟨g,j,c,t,k,(m g c _ l k).trans l,x⟩
def DiskIs.ac{q:Nat}{f:Bool}{l:Int}(h:bW w q rs f l)(d:w'.heap[q]?=w.heap[q]?):bW w' q rs f l:=by
 have e:∀i,w'.cell? (aA q i)=w.cell? (aA q i):=λi=>aj d;have g:∀i,w'.frozen? (aA q i)=w.frozen? (aA q i):=λi=>aJ d;exact⟨λk a=>⟨(h.j k a).1,λj v m=>(e _).trans ((h.j k a).2.1 j v m),λj c=>⟨by rw[e];exact((h.j k a).2.2 j c).1,(g _).trans ((h.j k a).2.2 j c).2⟩⟩,
  λk a j c=>⟨by rw[e];exact(h.s k a j c).1,(g _).trans (h.s k a j c).2⟩,λk n r=>(e _).trans (h.u k n r),(e _).trans h.b,(e _).trans h.o,λi=>(g i).trans (h.p i),h.t,h.x⟩
structure acY(w:World)(a:Ad)(s:Sv):Prop where
 e:dE w a.U a.q s.rs s.dS
 b:bW w a.q s.rs s.dX s.da
 h:cL w a.T a.m s.D s.mR s.iu s.n
 i:∃cs f,w.heap[a.T]?=some (.cells cs 301 f)
def cx.al(h:cx w a s)(i:Nat)(x:Bg):acY (w.setCell (aA a.S i) x) a s:=by
 have l:=h.x;have m:=h.J;have n:=h.W;have o:=h.C;have e:∀k,k≠a.S->(w.setCell (aA a.S i) x).heap[k]?=w.heap[k]?:=λk b=>aX w (aA a.S i) x k b;obtain⟨q,f,c⟩:=h.y;exact⟨WalIs.ac h.F (by simp) (e _ (by omega)) (λg d r j _=>e g (pr j c (by decide))),DiskIs.ac h.Z (e _ (by omega)),h.p.e (e _ (by omega)) (e _ (by omega)),by rw[e _ (by omega)];exact h.tt⟩
def iy.e{i:Nat}{v x:Bg}{l:List M}(h:iy w (b+1) v l):iy (w.setCell (aA b i) x) (b+1) v l:=iB (a:=(aA b i)) h (by dsimp only;omega) _
def cx.av(h:cx w a s)(x:Int):cx (w.setCell (aA a.S 5) (iI x)) a {s with bO:=x}:=by
 have d:=h.al 5 (iI x);have e:∀i,i≠5->(w.setCell (aA a.S 5) (iI x)).cell? (aA a.S i)=w.cell? (aA a.S i):=λi c=>ak _ _ _ _ (by intro q;injection q with _ q;exact c q.symm);exact⟨Wal.db h.y,λi=>by rw[bb];exact h.o i,(e 0 (by omega)).trans h.c0,(e 1 (by omega)).trans h.c1,(e 2 (by omega)).trans h.c2,(e 3 (by omega)).trans h.c3,(e 4 (by omega)).trans h.c4,ay _ _ _ h.c5,(e 6 (by omega)).trans h.c6,
  λi c=>(e _ (by omega)).trans (h.vd i c),λi c=>(e _ (by omega)).trans (h.vv i c),λi c j u g=>(e _ (by omega)).trans (h.la i c j u g),(e 47 (by omega)).trans h.A,
  λi c=>(h.b i c).imp λv f=>⟨(e _ (by omega)).trans f.1,f.2.e⟩,λi j u v c k l g f=>h.t i j u v c k l ((e _ (by omega)).symm.trans g) ((e _ (by omega)).symm.trans f),d.e,d.b,d.h,d.i,h.x,h.J,h.W,h.C,h.B⟩
def cx.a6(h:cx w a s)(x:Int):cx (w.setCell (aA a.S 6) (iI x)) a {s with gq:=x}:=by
 have d:=h.al 6 (iI x);have e:∀i,i≠6->(w.setCell (aA a.S 6) (iI x)).cell? (aA a.S i)=w.cell? (aA a.S i):=λi c=>ak _ _ _ _ (by intro q;injection q with _ q;exact c q.symm);exact⟨Wal.db h.y,λi=>by rw[bb];exact h.o i,(e 0 (by omega)).trans h.c0,(e 1 (by omega)).trans h.c1,(e 2 (by omega)).trans h.c2,(e 3 (by omega)).trans h.c3,(e 4 (by omega)).trans h.c4,(e 5 (by omega)).trans h.c5,ay _ _ _ h.c6,
  λi c=>(e _ (by omega)).trans (h.vd i c),λi c=>(e _ (by omega)).trans (h.vv i c),λi c j u g=>(e _ (by omega)).trans (h.la i c j u g),(e 47 (by omega)).trans h.A,
  λi c=>(h.b i c).imp λv f=>⟨(e _ (by omega)).trans f.1,f.2.e⟩,λi j u v c k l g f=>h.t i j u v c k l ((e _ (by omega)).symm.trans g) ((e _ (by omega)).symm.trans f),d.e,d.b,d.h,d.i,h.x,h.J,h.W,h.C,h.B⟩
def cx.an(h:cx w a s){D:Lease.ka}{v z:Int->Int}{n:Nat}(O:cL w' a.T a.m D v z n)(P:Ob [a.T,a.m] w w'):cx w' a {s with D:=D,mR:=v,iu:=z,n:=n}:=by
 have h1:=h.x;have h2:=h.J;have h3:=h.W;have h4:=h.C;have I:=h.lt;have e:∀k,k<w.heap.size->k≠a.T->k≠a.m->w'.heap[k]?=w.heap[k]?:=λk Q R U=>P.b k Q (by simp[R,U]);let ⟨cs,f,V⟩:=h.tt
 have E:∀g c t f,w.heap[g]?=some (.cells c t f)->g≠a.m:=by
  rintro g c t f l rfl;let ⟨es,K,k1,_⟩:=h.p.b
  rw[k1]at l;cases l
 have L:=e a.S I (by omega) (by omega);have k:=(h.ah (w':=w) rfl h.F h.Z h.p h.tt (λ_ _ _ _ q=>q));have X:∀i v,i<8->cC w (aA a.S (48+i)) v->iy w (a.S+1) v (s.waits i)->iy w' (a.S+1) v (s.waits i):=λi v _ _ H=>bp H λg l=>e g (bv H g l).2 (by have:=(bv H g l).1;omega) (by have:=(bv H g l).1;omega);have d:∀i,w'.cell? (aA a.S i)=w.cell? (aA a.S i):=λi=>aj L;have M:=O.x;exact⟨by rw[L];exact h.y,λi=>(aJ (a:=(aA a.S i)) L).trans (h.o i),(d 0).trans h.c0,(d 1).trans h.c1,(d 2).trans h.c2,(d 3).trans h.c3,(d 4).trans h.c4,(d 5).trans h.c5,(d 6).trans h.c6,
  λi r=>(d _).trans (h.vd i r),λi r=>(d _).trans (h.vv i r),λi r j u N=>(d _).trans (h.la i r j u N),(d 47).trans h.A,
  λi r=>(h.b i r).imp λv G=>⟨(d _).trans G.1,X i v r G.1 G.2⟩,λi j u v r Y hn N G=>h.t i j u v r Y hn ((d _).symm.trans N) ((d _).symm.trans G),
  WalIs.ac h.F P.i (e _ (by omega) (by omega) (by omega)) (λg ad f' l _=>e g (am.1 l).1 (pr l V (by decide)) (E g _ _ _ l)),DiskIs.ac h.Z (e _ (by omega) (by omega) (by omega)),O,M,h.x,h.J,h.W,h.C,h.B⟩
end Wld
end Go.Proofs.YtbebfliimjjohabGreatDoor
