/- Parts of the proof. -/
import Derived.Test.YtbebfliimjjohabGreatDoorM32
set_option maxRecDepth 100000
set_option maxHeartbeats 8000000
set_option linter.all false
open Go.Proofs.Tryz
namespace Go.Proofs.YtbebfliimjjohabGreatDoor open Gen (la on tk tw)
open Go.RowKit Go.Maps
open Lease (Ob gv gV cL ji fV fg dA bX eE mx kk)
open Cache (tp bp bD)
open Wal (R dE bW Oq Fw cY jf fo)
open Num (M iC dD)
open Net (fm ik cF)
namespace Wld
variable{m:M}{o k i B g c C:Nat}{A:Wa}{s:Wd}{w w':A1}
def D1{o:Oper}{a:Act}{K:Act->A1->Prop}{Q:Exit->Act->A1->Prop}(t:Nat)(g:o.op=.buildSlice 141 1 #[(0,.tmp t)])(m:M)(i:a.eval (.tmp t)=Wire.M.ab m)(h:K (a.put o.dst (.slice (some (aA w.heap.size 0)) 1 1)) (w.alloc (.cells #[iI m.k,iI m.c,iI m.n,iI m.e,iI m.s,iI m.o,iI m.v,.bool m.l,.string m.d] 129))):o.wp prog a w K Q:=by
 obtain⟨j,p,f,b,q⟩:=dw kw;refine wp_buildSlice 141 129 1 _ g _ j _ underlying141 p f (by rw[b];decide) (by rw[b];decide) ?_ h;rw[b];simp only[i7,cE,jw,i];exact II
structure An(w wr:World)(A:Wa)(s:Wd)(l:List M)(B:Nat)(v:Value)(k:Nat):Prop where
 i:bM wr A (s.O (l.take k))
 h:Fz A s w A (s.O (l.take k)) wr
 b:iy wr B v l
 e:∀g,v.ownBlock=some g->¬wfoot wr A (s.O (l.take k)) g
def LS(s:Wd)(l:List M)(h:k<l.length):s.O (l.take (k+1))=(s.O (l.take k)).ac (bx l[k].c:Nat) l[k]:=by
 unfold Wd.O;rw[bF h,tU];rfl
theorem Vt(s:Wd)(t:Int)(m:M):s.V t [m]=s.ac t m:=rfl
def Je:∀(l:List M) (s:Wd),(s.O l).sv=s.sv
 | [],s=>rfl
 |m::l,s=>by
  show ((s.ac _ m).O l).sv=s.sv;rw[Je l];unfold Wd.ac;split<;>rfl
theorem yr{A:Wa}{s:Wd}(sv:Sv){l:List M}{B:Nat}{v:Value}{w:World}(h:bM w A s)(hs:s.sv=some sv)(hl:iy w B v l)(hsep:∀g,v.ownBlock=some g->¬wfoot w A s g)(hll:l.length<=200)(hsm:pU l)(hc:∀m∈l,0<=m.c):
  Calls prog 71 #[tp A.Q,v] w λe w'=>e=.returned (.tuple #[])/\bM w' A (s.O l).af/\Fz A s w A (s.O l).af w':=by
 obtain⟨av,cv,hav,hcv,hcn⟩:=Net.cZ hl
 subst hav
 have HS0:Hid (An w w A s l B (.slice av l.length cv) 0):=⟨h,Fz.h,hl,hsep⟩
 clear h hl hcv hsep
 go_enter func71,ntmps71
 go_wp2_with fail
 go_loopw [8] (λi wr=>∃k:Nat,k<=l.length/\i=.int .i64 k/\An w wr A s l B (.slice av l.length cv) k) (λi _=>l.length-(intOf i).toNat)
 case atStart=>exact⟨0,by omega,rfl,HS0.out⟩
 case round=>
  obtain⟨k,hk,rfl,D⟩:=hrel
  by_cases hlt:k<l.length
  .obtain⟨ao,c,hao,hg⟩:=D.b.O
   obtain⟨g,hge,hgB,hgs,hcell⟩:=hg (by omega)
   injection hao with hao _ hcc
   subst hao
   subst hcc
   subst hge
   have HT:Hid (s.O (l.take (k+1))=(s.O (l.take k)).ac (bx l[k].c:Nat) l[k]):=LS s l hlt
   have hsz:=hsm l[k] (bA hlt)
   have hc0:=hc l[k] (bA hlt)
   have q0:=hcell k 0 hlt (by omega)
   have q1:=hcell k 1 hlt (by omega)
   have q2:=hcell k 2 hlt (by omega)
   have q3:=hcell k 3 hlt (by omega)
   have q4:=hcell k 4 hlt (by omega)
   have q5:=hcell k 5 hlt (by omega)
   have q6:=hcell k 6 hlt (by omega)
   have q7:=hcell k 7 hlt (by omega)
   have q8:=hcell k 8 hlt (by omega)
   obtain⟨m,hm⟩:∃m,l[k]=m:=⟨_,rfl⟩
   rw[hm]at q0 q1 q2 q3 q4 q5 q6 q7 q8 hsz HT hc0
   have q0':wr.cell? ⟨g,k*9,none⟩=some (.int .i64 m.k):=q0
   simp only[f8,aY,bm]at q1 q2 q3 q4 q5 q6 q7 q8
   have hkI:(k:Int)<(l.length:Int):=by omega
   have hkI0:(0:Int)<=(k:Int):=by omega
   have HD:Hid (An w wr A s l B (.slice (some ⟨g,0,none⟩) l.length cv) k):=D
   clear D hg hcell hm q0
   go_upto_region 3 with fail
   generalize hW:wr.alloc (.cells #[.int .i64 m.k,.int .i64 m.c,.int .i64 m.n,.int .i64 m.e,.int .i64 m.s,.int .i64 m.o,.int .i64 m.v,.bool m.l,.string m.d] 129)=w2
   have hb2:Below wr.heap.size wr w2:=by rw[<-hW];exact(au _ _).alloc (aa _) _
   have hs2:wr.heap.size<w2.heap.size:=by rw[<-hW];simp
   have hB2:MB w2 wr.heap.size m:=by rw[<-hW];exact ie wr
   clear hW q0' q1 q2 q3 q4 q5 q6 q7 q8
   have b0:=hB2.y
   have b1:=hB2.i
   have b2:=hB2.u
   have b3:=hB2.j
   have b4:=hB2.p
   have b5:=hB2.h
   have b6:=hB2.t
   have b7:=hB2.x
   have b8:=hB2.A
   have hlt2:wr.heap.size<w2.heap.size:=hs2
   have p0:=λob=>(aH w2 ob ⟨wr.heap.size,0,none⟩ hlt2).trans b0
   have p1:=λob=>(aH w2 ob ⟨wr.heap.size,1,none⟩ hlt2).trans b1
   have p2:=λob=>(aH w2 ob ⟨wr.heap.size,2,none⟩ hlt2).trans b2
   have p3:=λob=>(aH w2 ob ⟨wr.heap.size,3,none⟩ hlt2).trans b3
   have p4:=λob=>(aH w2 ob ⟨wr.heap.size,4,none⟩ hlt2).trans b4
   have p5:=λob=>(aH w2 ob ⟨wr.heap.size,5,none⟩ hlt2).trans b5
   have p6:=λob=>(aH w2 ob ⟨wr.heap.size,6,none⟩ hlt2).trans b6
   have p7:=λob=>(aH w2 ob ⟨wr.heap.size,7,none⟩ hlt2).trans b7
   have p8:=λob=>(aH w2 ob ⟨wr.heap.size,8,none⟩ hlt2).trans b8
   have hseat:=λw=>oz w hc0
   obtain⟨x1,x2⟩:=HD.out.i.h hb2
   have hb3:Below w2.heap.size w2 (w2.alloc (.cells #[.int .i64 m.k,.int .i64 m.c,.int .i64 m.n,.int .i64 m.e,.int .i64 m.s,.int .i64 m.o,.int .i64 m.v,.bool m.l,.string m.d] 129)).drew:=((au _ _).alloc (aa _) _).drew
   obtain⟨x3,x4⟩:=x1.h hb3
   have hsend:=xM (A:=A) (s:=s.O (l.take k)) (bx m.c:Nat) [m] w2.heap.size (.slice (some ⟨w2.heap.size,0,none⟩) 1 1) _ x3 (iy.one w2 m (aa _)) (by simp) (pU.one hsz)
   rw[Vt,<-HT.out]at hsend
   have nxt:∀w4,bM w4 A (s.O (l.take (k+1)))->Fz A (s.O (l.take k)) (w2.alloc (.cells #[.int .i64 m.k,.int .i64 m.c,.int .i64 m.n,.int .i64 m.e,.int .i64 m.s,.int .i64 m.o,.int .i64 m.v,.bool m.l,.string m.d] 129)).drew A (s.O (l.take (k+1))) w4->An w w4 A s l B (.slice (some ⟨g,0,none⟩) l.length cv) (k+1):=λw4 hW4 hZ4=>by
    have z:=(x2.e x4).e hZ4
    have hr:=HD.out.b
    refine⟨hW4,HD.out.h.e z,bp hr λq hq=>z.H (bv hr q hq).2 (HD.out.e q hq) (λe=>(dg hr hq).2.j e (by decide) rfl),λq hq f=>HD.out.e q hq (z.j q (bv hr q hq).2 f)⟩
   refine Gen.start (S:=λw'=>w'.cell? ⟨wr.heap.size,0,none⟩=some (.int .i64 m.k)/\w'.cell? ⟨wr.heap.size,1,none⟩=some (.int .i64 m.c)/\w'.cell? ⟨wr.heap.size,2,none⟩=some (.int .i64 m.n)/\w'.cell? ⟨wr.heap.size,3,none⟩=some (.int .i64 m.e)/\w'.cell? ⟨wr.heap.size,4,none⟩=some (.int .i64 m.s)/\w'.cell? ⟨wr.heap.size,5,none⟩=some (.int .i64 m.o)/\w'.cell? ⟨wr.heap.size,6,none⟩=some (.int .i64 m.v)/\w'.cell? ⟨wr.heap.size,7,none⟩=some (.bool m.l)/\w'.cell? ⟨wr.heap.size,8,none⟩=some (.string m.d)) (by kernel_rfl) ⟨b0,b1,b2,b3,b4,b5,b6,b7,b8⟩ (λhHeld=>?_)
   refine tk 0 6 hHeld ?_
   go_frame
   refine tk 1 2 hHeld ?_
   go_frame
   refine tk 2 3 hHeld ?_
   go_frame
   refine tk 4 5 hHeld ?_
   go_frame
   refine tw 3 5 (λK hK=>?_) λK hK=>?_
   .go_simp
    refine(hseat _).mono ?_
    rintro e w3⟨rfl,hw3⟩
    rw[hw3]
    dsimp only
    refine hK.out _ _ ⟨b0,b1,b2,b3,b4,b5,b6,b7,b8⟩ (λhHeld=>?_)
    try simp only[Act.put,ar,aD,aC]
    refine on 5 λK hK=>?_
    refine D1 16 rfl m rfl ?_
    refine hK.out _ _ ⟨p0 _,p1 _,p2 _,p3 _,p4 _,p5 _,p6 _,p7 _,p8 _⟩ (λhHeld=>?_)
    try simp only[Act.put,ar,aD,aC]
    refine la 6 λK hK=>?_
    go_simp
    refine hsend.mono ?_
    rintro e w4⟨rfl,hW4,hZ4⟩
    have HN:=nxt w4 hW4 hZ4
    dsimp only
    refine hK.out _ _ ?_
    go_wp2_with fail
    go_roundw
    case rel=>exact⟨k+1,by omega,by go_num,HN⟩
    case measure=>simp[intOf];omega
   .refine D1 16 rfl m rfl ?_
    refine hK.out _ _ ⟨p0 _,p1 _,p2 _,p3 _,p4 _,p5 _,p6 _,p7 _,p8 _⟩ (λhHeld=>?_)
    try simp only[Act.put,ar,aD,aC]
    refine on 3 λK hK=>?_
    go_simp
    refine(hseat _).mono ?_
    rintro e w3⟨rfl,hw3⟩
    rw[hw3]
    dsimp only
    refine hK.out _ _ ⟨p0 _,p1 _,p2 _,p3 _,p4 _,p5 _,p6 _,p7 _,p8 _⟩ (λhHeld=>?_)
    try simp only[Act.put,ar,aD,aC]
    refine la 6 λK hK=>?_
    go_simp
    refine hsend.mono ?_
    rintro e w4⟨rfl,hW4,hZ4⟩
    have HN:=nxt w4 hW4 hZ4
    dsimp only
    refine hK.out _ _ ?_
    go_wp2_with fail
    go_roundw
    case rel=>exact⟨k+1,by omega,by go_num,HN⟩
    case measure=>simp[intOf];omega
  .obtain rfl:k=l.length:=by omega
   have wd:=D.i
   have fz:=D.h
   rw[gz]at wd fz
   have hsv:= (Je l s).trans hs
   have hdn:=pZ (wd.t sv hsv).b
   have srv:=wd.b.o
   have hfr:=wd.b.b 12407
   rw[hsv]at srv
   unfold LR at srv
   have HDN:=wd.al
   cases hd:sv.dS with
   |true=>
    rw[hd]at hdn
    have HF:Hid (bM (wr.setCell ⟨A.Q,12407,none⟩ (.pointer none)) A (s.O l).af/\Fz A s w A (s.O l).af (wr.setCell ⟨A.Q,12407,none⟩ (.pointer none))):=by
     have e:(s.O l).af = {s.O l with sv:=none}:=by
      unfold Wd.af
      rw[hsv]
      exact az hd
     rw[e]
     exact⟨HDN.1,fz.e HDN.2⟩
    go_wp2_with fail
    refine hdn.mono ?_
    rintro e w2⟨rfl,rfl⟩
    go_wp2_with fail
    go_end0
    exact⟨rfl,HF.out⟩
   |false=>
    rw[hd]at hdn
    have HF:Hid (bM wr A (s.O l).af/\Fz A s w A (s.O l).af wr):=by
     have e:(s.O l).af=s.O l:=by
      unfold Wd.af
      rw[hsv]
      exact ax (by rw[hd];decide)
     rw[e]
     exact⟨wd,fz⟩
    go_wp2_with fail
    refine hdn.mono ?_
    rintro e w2⟨rfl,rfl⟩
    go_wp2_with fail
    go_end0
    exact⟨rfl,HF.out⟩
def bM.Z(h:bM w A s){L:List Ev}{N:Bg}(h1:w'.os=w.os)(h2:w'.tape=w.tape)(h3:w'.output=w.output)(hs:w.heap.size<=w'.heap.size)(W:∀k,k<w.heap.size->k≠A.Q->(∀v,w.cell? ⟨A.Q,12410,none⟩=some v->v.ownBlock≠some k)->w'.heap[k]?=w.heap[k]?)(hc:∀i,i≠12410->w'.cell? ⟨A.Q,i,none⟩=w.cell? ⟨A.Q,i,none⟩)(X:∀i,w'.frozen? ⟨A.Q,i,none⟩=w.frozen? ⟨A.Q,i,none⟩)(Y:rD w' A.Q 81)(d:w'.cell? ⟨A.Q,12410,none⟩=some N)(O:w'.ownsRow (A.Q+1) 45 10 N L.length (fS L))(ad:∀g,N.ownBlock=some g->g<w.heap.size->∃v,w.cell? ⟨A.Q,12410,none⟩=some v/\v.ownBlock=some g):
  bM w' A {s with ba:=L}/\Fz A s w A {s with ba:=L} w':=by
 have aS:=h.I;let ⟨aI,P,a0⟩:=h.H
 let ⟨v0,R,S⟩:=h.x
 have l:∀k t,rD w k t->k≠A.Q->t≠45->w'.heap[k]?=w.heap[k]?:=λk t z M Y=>W k z.H M λv d e=>by
  rw[R]at d;injection d with d
  subst d;exact z.j (dg S e).2 Y rfl
 have T:∀k,isM w k->k<w.heap.size->k≠A.Q->w'.heap[k]?=w.heap[k]?:=λk z hl M=>W k hl M λv d e=>by
  rw[R]at d;injection d with d
  subst d;exact z.e (dg S e).2 rfl
 have hG:=l A.G _ h.u (fE aI) (by decide);have hD:= DiskIs.ab h.y (λi _ _=>hc i (by omega)) X;have n:∀v,s.sv=some v->∀k,fy w A.a k->k≠A.a.q->w'.heap[k]?=w.heap[k]?:=λv d k z M=>by
  have u:=h.t v d;have r:k≠A.Q:=by rw[<-u.q];exact M
  rcases u.b.ag z with f|f|f|f|f|f|f
  exact(M f).elim;exact T k (by rw[f];exact qe u.b.p.b) (u.b.H z) r;exact l k _ f r (by decide);exact l k _ f r (by decide);exact l k _ f r (by decide);exact l k _ f r (by decide);exact l k _ f r (by decide)
 have hN:= NetIs.ab h.p hs (hc _ (by omega)) (hc _ (by omega)) X λv g d hg=>by
  let ⟨N,D,hr⟩:=h.p.b
  rw[d]at D;injection D with D
  subst D;exact l g _ (dg hr hg).2 (by have:=(dg hr hg).1;omega) (by decide)
 refine⟨⟨(h.b.H Y (λi _ U=>hc i U) X).I rfl rfl rfl rfl rfl rfl rfl,hD,hN,⟨N,d,O⟩,h.u.e hG,λi=>(aJ (a:=(aA A.G i)) hG).trans (h.C i),λj E=>(h.e j E).e hG,
  λj E=>(h.o j E).j (l _ _ (h.o j E).ac (fE (P j E).1) (by decide)) (T _ (h.o j E).af (h.o j E).H.2 (fE (P j E).2.1)),h.J,λv d=>?_,h.F,h.B⟩,
  ⟨h1,h2,h3,hs,λk z V _=>W k z (λe=>V (.Q e)) (λv d e=>V (.ev v d e)),λk z f=>?_,rfl⟩⟩
 have u:=h.t v d;exact⟨u.b.ae hs (by rw[u.q,u.j,u.e,u.h];exact hD) (n v d),u.q,u.j,u.e,u.h,u.o,u.p,u.t⟩;rcases f with f|f|⟨v,K,f2⟩|⟨i,U,f⟩|⟨i,U,f⟩|⟨K,f2⟩
 exact .Q f;exact .G f;rw[d]at K;injection K with K
 subst K;let ⟨v,g1,g2⟩:=ad k f2 z
 exact .ev v g1 g2;exact .c i U f;exact .m i U f;let ⟨v,d⟩:=aV.1 K
 have hl:=(h.t v d).b.e;exact .sv K ((jg (n v d _ (.inr (.inr (.inr (.inl rfl)))) (by omega)) (n v d _ (.inr (.inr (.inl rfl))) (by omega)) k).1 f2)
def bM.ah(h:bM w A s){j:Nat}(hi:i<s.n)(hj:j<4){x:Bg}{L:St}(D:L.k=(s.aI i).k)(hS:sL (w.setCell ⟨A.G,i*4+j,none⟩ x) A.G i (A.c i) L):bM (w.setCell ⟨A.G,i*4+j,none⟩ x) A {s with aI:=bB s.aI i L}/\Fz A s w A {s with aI:=bB s.aI i L} (w.setCell ⟨A.G,i*4+j,none⟩ x):=by
 have ad:=h.I;let ⟨U,aS,a0⟩:=h.H
 have R:∀k,k≠A.G->(w.setCell (aA A.G (i*4+j)) x).heap[k]?=w.heap[k]?:=λk D=>aX w (aA A.G (i*4+j)) x k D;have a1:(w.setCell ⟨A.G,i*4+j,none⟩ x).heap.size=w.heap.size:=by simp
 have V:=R A.Q U;have N:∀E,(w.setCell ⟨A.G,i*4+j,none⟩ x).cell? ⟨A.Q,E,none⟩=w.cell? ⟨A.Q,E,none⟩:=λE=>aj V;have W:∀E,(w.setCell ⟨A.G,i*4+j,none⟩ x).frozen? ⟨A.Q,E,none⟩=w.frozen? ⟨A.Q,E,none⟩:=λE=>aJ V;have d:∀k t,rD w k t->t≠90->(w.setCell ⟨A.G,i*4+j,none⟩ x).heap[k]?=w.heap[k]?:=λk t D ht=>R k (D.j h.u ht);have P:∀k,isM w k->(w.setCell ⟨A.G,i*4+j,none⟩ x).heap[k]?=w.heap[k]?:=λk D=>R k (D.e h.u);have hD:= DiskIs.ab h.y (λi _ _=>N i) W;have r:∀v,s.sv=some v->∀k,fy w A.a k->k≠A.a.q->(w.setCell ⟨A.G,i*4+j,none⟩ x).heap[k]?=w.heap[k]?:=λv z k D hq=>by
  have u:=h.t v z;rcases u.b.ag D with f|f|f|f|f|f|f
  exact(hq f).elim;exact P k (by rw[f];exact qe u.b.p.b);exact d k _ f (by decide);exact d k _ f (by decide);exact d k _ f (by decide);exact d k _ f (by decide);exact d k _ f (by decide)
 have hN:= NetIs.ab h.p (by omega) (N _) (N _) W λv g z X=>by
  let ⟨v',K,hr⟩:=h.p.b
  rw[z]at K;injection K with K
  subst K;exact d g _ (dg hr X).2 (by decide)
 refine⟨⟨(h.b.H (h.b.h.e V) (λi _ _=>N i) W).I rfl rfl rfl rfl rfl rfl rfl,hD,hN,h.x.imp λv z=>⟨(N _).trans z.1,bp z.2 λg X=>d g _ (dg z.2 X).2 (by decide)⟩,Wal.db h.u,λi=>by rw[bb];exact h.C i,λl O=>?_,λl O=>?_,h.J,λv z=>?_,h.F,h.B⟩,
  ⟨rfl,rfl,rfl,by omega,λk D Y _=>R k (λe=>Y (.G e)),λk D f=>?_,rfl⟩⟩
 show sL _ A.G l (A.c l) (bB s.aI i L l);unfold bB;split;rename_i e;subst e;exact hS;rename_i e;have q:=h.e l O;have S:∀p,p<4->(w.setCell ⟨A.G,i*4+j,none⟩ x).cell? ⟨A.G,l*4+p,none⟩=w.cell? ⟨A.G,l*4+p,none⟩:=λp hp=>ak _ _ _ _ (by intro q;injection q with _ q;omega);exact⟨(S 0 (by omega)).trans q.b,(S 1 (by omega)).trans q.h,(S 2 (by omega)).trans q.o,(S 3 (by omega)).trans q.j⟩;show bt _ _ _ (bB s.aI i L l).k;have Z:(bB s.aI i L l).k=(s.aI l).k:=by
  unfold bB;split;rename_i e;subst e;exact D;rfl
 rw[Z];exact(h.o l O).j (d _ _ (h.o l O).ac (by decide)) (P _ (h.o l O).af);have u:=h.t v z;exact⟨u.b.ae (by omega) (by rw[u.q,u.j,u.e,u.h];exact hD) (r v z),u.q,u.j,u.e,u.h,u.o,u.p,u.t⟩;rcases f with f|f|⟨v,T,f2⟩|⟨E,M,f⟩|⟨E,M,f⟩|⟨T,f2⟩
 exact .Q f;exact .G f;exact .ev v ((N _).symm.trans T) f2;exact .c E M f;exact .m E M f;let ⟨v,z⟩:=aV.1 T
 have O:=(h.t v z).b.e;exact .sv T ((jg (r v z _ (.inr (.inr (.inr (.inl rfl)))) (by omega)) (r v z _ (.inr (.inr (.inl rfl))) (by omega)) k).1 f2)
def bM.ai(h:bM w A s)(a:i<s.n)(x:Int):bM (w.setCell ⟨A.G,i*4+3,none⟩ (.int .i64 x)) A {s with aI:=bB s.aI i {s.aI i with fu:=x} }/\Fz A s w A {s with aI:=bB s.aI i {s.aI i with fu:=x} } (w.setCell ⟨A.G,i*4+3,none⟩ (.int .i64 x)):=by
 have q:=h.e i a;have e:∀p,p<3->(w.setCell (aA A.G (i*4+3)) (iI x)).cell? (aA A.G (i*4+p))=w.cell? (aA A.G (i*4+p)):=λp c=>ak _ _ _ _ (by intro q;injection q with _ q;omega);exact h.ah a (by omega) rfl ⟨(e 0 (by omega)).trans q.b,(e 1 (by omega)).trans q.h,(e 2 (by omega)).trans q.o,ay _ _ _ q.j⟩
def bM.ag(h:bM w A s)(a:i<s.n)(x:Int):bM (w.setCell ⟨A.G,i*4+1,none⟩ (.int .i64 x)) A {s with aI:=bB s.aI i {s.aI i with cM:=x} }/\Fz A s w A {s with aI:=bB s.aI i {s.aI i with cM:=x} } (w.setCell ⟨A.G,i*4+1,none⟩ (.int .i64 x)):=by
 have q:=h.e i a;have e:∀p,p≠1->p<4->(w.setCell (aA A.G (i*4+1)) (iI x)).cell? (aA A.G (i*4+p))=w.cell? (aA A.G (i*4+p)):=λp c d=>ak _ _ _ _ (by intro q;injection q with _ q;omega);exact h.ah a (by omega) rfl ⟨(e 0 (by omega) (by omega)).trans q.b,ay _ _ _ q.h,(e 2 (by omega) (by omega)).trans q.o,(e 3 (by omega) (by omega)).trans q.j⟩
theorem nF(e:Ev):(eZ e).length=10:=rfl
def ku(l:List Ev):(fS l).length=l.length*10:=by
 induction l with
 |nil=>rfl
 |cons e l a=>
  have:fS (e::l)=eZ e++fS l:=rfl;rw[this,aM,a,nF,bT];omega
def Iz(l:List Ev)(e:Ev):fS (l++[e])=fS l++eZ e:=by simp[fS]
def kH:∀(l:List Ev) (i j:Nat) (h:i<l.length),j<10->(fS l)[i*10+j]?=(eZ l[i])[j]?
 |e::l,0,j,_,a=>by
  have:fS (e::l)=eZ e++fS l:=rfl;rw[this,Ga,b9,bn (by rw[nF];exact a)];rfl
 |e::l,i+1,j,h,a=>by
  have:fS (e::l)=eZ e++fS l:=rfl;rw[this,aQ (by rw[nF];omega),nF,show (i+1)*10+j-10=i*10+j by omega];exact kH l i j (by simpa using h) a
def uj{l:List Ev}{e:Ev}{xs:List Bg}(k:i<l.length)(m:xs.length=l.length*10)(g:∀j,j<10->xs[i*10+j]?=(eZ e)[j]?)(h:∀p,p/10≠i->xs[p]?=(fS l)[p]?):xs=fS (l.set i e):=by
 apply iz;intro p;by_cases n:p<l.length*10;obtain⟨a,b,c,rfl⟩:∃a b,b<10/\p=a*10+b:=⟨p/10,p%10,by omega,by omega⟩;have f:a<l.length:=by omega
 rw[kH (l.set i e) a b (by simpa using f) c];by_cases d:a=i;subst d;rw[g b c,oF];rw[h _ (by omega),kH l a b f c,List.getElem_set_ne (by omega)];rw[ky (by omega),ky (by rw[ku,qp];omega)]
def YD(h:bM w A s)(a:k<s.n)(hc:(s.aI k).fu<0):
  Calls prog 73 #[tp A.Q,iI k] w λe w'=>e=.returned (.tuple #[])/\bM w' A (s.j k)/\Fz A s w A (s.j k) w':=by
 have e:s.j k=s:=az hc;rw[e];have c:=h.b.e;have c3:=(h.e k a).j;have i:=h.B;have l:= aR hc;have d:(0:Int)<=(k:Int):=by omega
 have f:(k:Int)<(s.n:Int):=by omega
 have g :Hid _:= h;go_enter func73,ntmps73;go_wp2_with fail
 exact bz (v:=.tuple #[]) (by simp[results,results73,go_sem]) rfl ⟨rfl,g.out,Fz.h⟩
def oo(k:K):List Value:=[.int .i64 k.gY,.int .i64 k.io,.string k.d,.int .i64 k.zk,.bool k.gW,.bool k.H0]
def Lp{k:K}:(oo k).toArray.all (·.oneCell')=true:=all_oneCell_toArray λv a=>by
 unfold oo at a;simp at a;rcases a with rfl|rfl|rfl|rfl|rfl|rfl<;>rfl
def QB:(prog.info? 43).map (·.size)=some 6:=by kernel_rfl
def VR:List Value->Nat->List Value->List Value
 |xs,_,[]=>xs
 |xs,o,v::a=>VR (xs.set o v) (o+1) a
def Nu{e:Bi}{size n cap:Nat}:∀(a:List Bg) (o:Nat) (w:A1) (xs:List Bg),w.ownsRow B e size (.slice (some (aA g 0)) n cap) n xs->(w.setCells g o a).ownsRow B e size (.slice (some (aA g 0)) n cap) n (VR xs o a)/\(w.setCells g o a).heap.size=w.heap.size/\(∀k,k≠g->(w.setCells g o a).heap[k]?=w.heap[k]?)/\(w.setCells g o a).os=w.os/\(w.setCells g o a).tape=w.tape/\(w.setCells g o a).output=w.output
 | [],_,w,xs,h=>⟨h,rfl,λ_ _=>rfl,rfl,rfl,rfl⟩
 |v::a,o,w,xs,h=>by
  let ⟨c,_⟩:=World.ownsRow.stored h o v
  let ⟨k1,d,f,i,j,l⟩:=Nu a (o+1) (w.setCell (aA g o) v) _ c
  rw[World.setCells];exact⟨k1,d.trans (by simp),λk b=>(f k b).trans (aX w (aA g o) v k b),i,j,l⟩
def Ev.j(e:Ev)(k:K):Ev:={e with m9:=k.gY,rG:=k.io,d:=k.d,yO:=k.zk,Hy:=k.gW,Zk:=k.H0}
variable{l:List Ev}
def Np:∀(a:List Bg) (o:Nat) (xs:List Bg),(VR xs o a).length=xs.length
 | [],_,_=>rfl
 |v::a,o,xs=>by rw[VR,Np a,qp]
def zm:∀(a:List Bg) (o:Nat) (xs:List Bg) (p:Nat),(p<o\/o+a.length<=p)->(VR xs o a)[p]?=xs[p]?
 | [],_,_,_,_=>rfl
 |v::a,o,xs,p,h=>by
  simp at h;rw[VR,zm a (o+1) _ p (by omega),lc (by omega)]
def U5:∀(a:List Bg) (o:Nat) (xs:List Bg) (j:Nat),j<a.length->o+a.length<=xs.length->(VR xs o a)[o+j]?=a[j]?
 | [],_,_,_,h,_=>by simp at h
 |v::a,o,xs,0,_,b=>by
  simp at b;rw[VR,zm a (o+1) _ _ (by omega),lL,nL (by omega)];rfl
 |v::a,o,xs,j+1,h,b=>by
  simp at h b;rw[VR,show o+(j+1)=o+1+j by omega,U5 a (o+1) _ j (by omega) (by rw[qp];omega)];rfl
def U4(l:List Ev)(hc:c<l.length)(k:K):VR (fS l) (c*10+1) (oo k)=fS (l.set c (l[c].j k)):=by
 have d:=ku l;have e:(oo k).length=6:=rfl;refine uj hc (by rw[Np,d]) (λj a=>?_) (λp f=>zm _ _ _ _ (by omega));by_cases b:1<=j/\j<=6;obtain⟨i,rfl⟩:∃i,j=i+1:=⟨j-1,by omega⟩;rw[show c*10+(i+1)=c*10+1+i by omega,U5 _ _ _ i (by omega) (by omega)];match i,b with
 |0,_=>rfl
 |1,_=>rfl
 |2,_=>rfl
 |3,_=>rfl
 |4,_=>rfl
 |5,_=>rfl
 |i+6,h=>omega
 rw[zm _ _ _ _ (by omega),kH l c j hc a];match j,a,b with
 |0,_,_=>rfl
 |7,_,_=>rfl
 |8,_,_=>rfl
 |9,_,_=>rfl
 |1,_,h=>omega
 |2,_,h=>omega
 |3,_,h=>omega
 |4,_,h=>omega
 |5,_,h=>omega
 |6,_,h=>omega
def Yv(l:List Ev)(c:Nat)(hc:c<l.length)(x:Int):(fS l).set (c*10+8) (iI x)=fS (l.set c {l[c] with iA:=x}):=by
 have d:=ku l;refine uj hc (by rw[qp,d]) (λj a=>?_) (λp e=>lc (by omega));by_cases b:j=8;subst b;rw[nL (by omega)];rfl;rw[lc (by omega),kH l c j hc a];match j,a,b with
 |0,_,_=>rfl
 |1,_,_=>rfl
 |2,_,_=>rfl
 |3,_,_=>rfl
 |4,_,_=>rfl
 |5,_,_=>rfl
 |6,_,_=>rfl
 |7,_,_=>rfl
 |9,_,_=>rfl
 |8,_,h=>omega
def LA(e:Ev)(k:K)(x:Int):e.e k x=if k.gW=true then {e.j k with iA:=x} else e.j k:=by
 unfold Ev.e Ev.j;cases k.gW<;>simp
def QL(hc:c<l.length)(k:K)(x:Int):l.modify c (λe=>e.e k x)=if k.gW=true then (l.set c (l[c].j k)).set c {l[c].j k with iA:=x} else l.set c (l[c].j k):=by
 have a:l.modify c (λe=>e.e k x)=l.set c (l[c].e k x):=by
  apply iz;intro i;rw[List.getElem?_modify];by_cases b:c=i;subst b;rw[nL hc,aB hc];simp;rw[lc b];simp[b]
 rw[a,LA];split;rw[List.set_set];rfl
def Vf(k c:Nat)(h:bM w A s)(W:k<s.n)(hc:(s.aI k).fu=c)(ad:c<s.ba.length):
  Calls prog 73 #[tp A.Q,iI k] w λe w'=>e=.returned (.tuple #[])/\bM w' A (s.j k)/\Fz A s w A (s.j k) w':=by
 have cb:=h.b.e;have cc:=h.b.j;have c0:=(h.e k W).b;have c3:=(h.e k W).j;have n4:=h.B;have cv:(0:Int)<=(k:Int):=by omega
 have cw:(k:Int)<(s.n:Int):=by omega
 obtain⟨v,hv,t⟩:=h.x;obtain⟨ao,S,cd,ce,cg⟩:=Net.cZ t;subst cd;obtain⟨g,rfl⟩:∃g,ao=some ⟨g,0,none⟩:=by
  rcases t.2 with⟨e,h0⟩|⟨g,cA,cG,e,_⟩
  omega;injection e with e
  exact⟨g,e⟩
 rw[hc]at c3;have cM:decide ((c:Int)<0)=false:=aK (by omega);have cT:(0:Int)<=(c:Int):=by omega
 have cs:(c:Int)<(s.ba.length:Int):=by omega
 have z:=λw h=>UE (c:=A.c k) (m:=A.m k) (k:=(s.aI k).k) (w:=w) h;have aS:=h.o k W;have HW:Hid (bM w A s):=h;clear h ce cg;go_enter func73,ntmps73;go_wp2_with fail
 go_quiet (fail);go_wp2_with fail
 refine(z _ (aS.e)).mono ?_;rintro e w2⟨rfl,y⟩;have u:Below w.heap.size w w2:=⟨y.os,y.tape,y.output,y.size,y.block⟩;obtain⟨x1,x2⟩:=HW.out.h u;have d:=bD t u;have K:=(aj (a:=⟨A.Q,12410,none⟩) (u.block A.Q HW.out.I)).trans hv;have a0:=x1.b.j;have a1:=(x1.e k W).j;rw[hc]at a1;have bc:=World.ownsRow.frozenAt d;have bg:w2.there g (c*10+1) (oo (s.aI k).k).toArray.size:=λj hj=>by
  have cW:j<6:=hj;refine⟨?_,bc _⟩;rw[bJ d (c*10+1+j) (by omega),aB (by rw[ku];omega)];rfl
 obtain⟨C,r2,r3,r4,r5,r6⟩:=Nu (oo (s.aI k).k) (c*10+1) w2 _ d;rw[U4 s.ba (c:=c) ad]at C;obtain⟨w3,T⟩:∃w3,w2.setCells g (c*10+1) (oo (s.aI k).k)=w3:=⟨_,rfl⟩;rw[T]at C r2 r3 r4 r5 r6;obtain⟨L,O⟩:∃L,s.ba.set c (s.ba[c].j (s.aI k).k)=L:=⟨_,rfl⟩;rw[O]at C;have bO:g≠A.Q:=by
  have:=(dg d (g:=g) rfl).1;omega
 have D:L.length=s.ba.length:=by rw[<-O];simp
 have E:=r3 A.Q (fE bO);have q1:∀q,q<w2.heap.size->q≠A.Q->(∀v,w2.cell? ⟨A.Q,12410,none⟩=some v->v.ownBlock≠some q)->w3.heap[q]?=w2.heap[q]?:=λq U ci V=>r3 q (λe=>V _ K (by rw[e];rfl));have q2:∀i,i≠12410->w3.cell? ⟨A.Q,i,none⟩=w2.cell? ⟨A.Q,i,none⟩:=λi _=>aj E;have q3:∀i,w3.frozen? ⟨A.Q,i,none⟩=w2.frozen? ⟨A.Q,i,none⟩:=λi=>aJ E;have Y:w3.cell? ⟨A.Q,12410,none⟩=some (.slice (some ⟨g,0,none⟩) s.ba.length S):=(aj E).trans K;have q5:w3.ownsRow (A.Q+1) 45 10 (.slice (some ⟨g,0,none⟩) s.ba.length S) L.length (fS L):=by rw[D];exact C
 have q6:∀q,(Value.slice (some ⟨g,0,none⟩) s.ba.length S).ownBlock=some q->q<w2.heap.size->∃v,w2.cell? ⟨A.Q,12410,none⟩=some v/\v.ownBlock=some q:=λq U _=>⟨_,K,U⟩;obtain⟨Z1,Z2⟩:=bM.Z x1 r4 r5 r6 (by omega) q1 q2 q3 (x1.b.h.e E) Y q5 q6;have P:Hid (bM w3 A {s with ba:=L}/\Fz A s w A {s with ba:=L} w3):=⟨Z1,x2.e Z2⟩;have ck :Hid _:= Y;have l :Hid _:= q5;have HL :Hid _:= O;have R :Hid _:= T;clear z aS cb cc c0 c3 hv t y q1 q2 q3 q6 Z1 Z2 C r2 r3 r4 r5 r6 O T E;have f:∀j,j<10->w3.cell? ⟨g,c*10+j,none⟩=(eZ ((s.ba[c]).j (s.aI k).k))[j]?:=λj hj=>by
  have F:=l.out;rw[D]at F;rw[bJ F (c*10+j) (by omega),kH L c j (by omega) hj];have e:L[c]=(s.ba[c]).j (s.aI k).k:=by
   have O:=HL.out;subst O;exact oF _
  rw[e]
 have y5:w3.cell? ⟨g,c*10+1+4,none⟩=some (.bool (s.aI k).k.gW):=f 5 (by omega);have y8:w3.cell? ⟨g,c*10+8,none⟩=some (.int .i64 (s.ba[c]).iA):=f 8 (by omega);have ct:w3.frozen? ⟨g,c*10+8,none⟩=false:=by
  have F:=l.out;rw[D]at F;exact World.ownsRow.frozenAt F _
 have bR:=P.out.1.b.j;have d3:=(P.out.1.e k W).j;have fG:=P.out.1.C (k*4+3);dsimp only at bR d3;rw[hc]at d3;have da:g≠A.G:=λe=>by
  have F:=l.out;exact(dg F (g:=g) rfl).2.j P.out.1.u (by decide) e
 clear f Y q5 bc a0 a1 d K u x1 x2;rw[show (s.aI k).k.a6=.agg (oo (s.aI k).k).toArray from rfl];go_upto_region 4 with (refine wpList_store_mid rfl 43 (.tmp 33) (.tmp 31) rfl g (c*10+1) (oo (s.aI k).k).toArray rfl rfl bg QB (Lp) ?_;rw[show (oo (s.aI k).k).toArray.toList=oo (s.aI k).k from rfl,R.out])
 have r:Hid (s.j k = {s with ba:=s.ba.modify c λe=>e.e (s.aI k).k s.bK,aI:=bB s.aI k {s.aI k with fu:=if (s.aI k).k.gW=true then -1 else (s.aI k).fu} }):=by
  unfold Hid Wd.j;rw[ax (by rw[hc];omega)];rw[show (s.aI k).fu.toNat=c by rw[hc];rfl]
 have H:Hid (s.ba.modify c (λe=>e.e (s.aI k).k s.bK)=if (s.aI k).k.gW=true then L.set c { (s.ba[c]).j (s.aI k).k with iA:=s.bK} else L):=by
  unfold Hid;rw[QL ad,HL.out]
 clear bg R;cases hov:(s.aI k).k.gW with
 |true=>
  rw[hov]at y5;have F:=l.out;rw[D]at F;obtain⟨C,cl⟩:=World.ownsRow.stored F (c*10+8) (.int .i64 s.bK);have b1:L[c]'(by omega)=(s.ba[c]).j (s.aI k).k:=by
   have O:=HL.out;subst O;exact oF _
  rw[Yv L c (by omega),b1]at C;obtain⟨w4,p⟩:∃w4,w3.setCell ⟨g,c*10+8,none⟩ (.int .i64 s.bK)=w4:=⟨_,rfl⟩;rw[p]at C;have b4:∀q,q≠g->w4.heap[q]?=w3.heap[q]?:=λq U=>by rw[<-p];exact aX w3 ⟨g,c*10+8,none⟩ _ q U
  have s4:w4.heap.size=w3.heap.size:=by rw[<-p];simp
  have m4:w4.os=w3.os/\w4.tape=w3.tape/\w4.output=w3.output:=by rw[<-p];exact⟨rfl,rfl,rfl⟩
  obtain⟨L2,M⟩:∃L2,L.set c { (s.ba[c]).j (s.aI k).k with iA:=s.bK} = L2:=⟨_,rfl⟩;rw[M]at C;have b2:L2.length=s.ba.length:=by rw[<-M];simp[D]
  have X:=P.out.1;have N:w3.cell? ⟨A.Q,12410,none⟩=some (.slice (some ⟨g,0,none⟩) s.ba.length S):=by
   exact ck.out
  have J:=b4 A.Q (fE bO);have q1:∀q,q<w3.heap.size->q≠A.Q->(∀v,w3.cell? ⟨A.Q,12410,none⟩=some v->v.ownBlock≠some q)->w4.heap[q]?=w3.heap[q]?:=λq U ci V=>b4 q (λe=>V _ N (by rw[e];rfl));have q2:∀i,i≠12410->w4.cell? ⟨A.Q,i,none⟩=w3.cell? ⟨A.Q,i,none⟩:=λi _=>aj J;have q3:∀i,w4.frozen? ⟨A.Q,i,none⟩=w3.frozen? ⟨A.Q,i,none⟩:=λi=>aJ J;have Y:w4.cell? ⟨A.Q,12410,none⟩=some (.slice (some ⟨g,0,none⟩) s.ba.length S):=(aj J).trans N;have q5:w4.ownsRow (A.Q+1) 45 10 (.slice (some ⟨g,0,none⟩) s.ba.length S) L2.length (fS L2):=by rw[b2];exact C
  have q6:∀q,(Value.slice (some ⟨g,0,none⟩) s.ba.length S).ownBlock=some q->q<w3.heap.size->∃v,w3.cell? ⟨A.Q,12410,none⟩=some v/\v.ownBlock=some q:=λq U _=>⟨_,N,U⟩;obtain⟨Z1,Z2⟩:=bM.Z X m4.1 m4.2.1 m4.2.2 (by omega) q1 q2 q3 (X.b.h.e J) Y q5 q6;obtain⟨Z3,Z4⟩:=Z1.ai W (-1);have HF:Hid (bM (w4.setCell ⟨A.G,k*4+3,none⟩ (.int .i64 (-1))) A (s.j k)/\Fz A s w A (s.j k) (w4.setCell ⟨A.G,k*4+3,none⟩ (.int .i64 (-1)))):=by
   have e:s.j k = {s with ba:=L2,aI:=bB s.aI k {s.aI k with fu:=-1} }:=by
    rw[r.out,H.out,az hov,az hov,M]
   rw[e];exact⟨Z3,(P.out.2.e Z2).e Z4⟩
  have co:Hid (w3.setCell ⟨g,c*10+8,none⟩ (.int .i64 s.bK)=w4):=p;clear q1 q2 q3 Y q5 q6 Z1 Z2 Z3 Z4 X N J F C cl b1 b4 s4 m4 p M b2 r H l P HW;go_wp2_with fail
  go_end0;have p:=co.out;subst p;exact⟨rfl,HF.out⟩
 |false=>
  rw[hov]at y5;have HF:Hid (bM w3 A (s.j k)/\Fz A s w A (s.j k) w3):=by
   have e:s.j k = {s with ba:=L}:=by
    rw[r.out,H.out,ax (by rw[hov];decide),ax (by rw[hov];decide)];have:bB s.aI k {s.aI k with fu:=(s.aI k).fu} = s.aI:=by
     funext j;unfold bB;split;rename_i e;rw[e];rfl
    rw[this]
   rw[e];exact P.out
  go_wp2_with fail
  go_end0;exact⟨rfl,HF.out⟩
def IX(h:bM w A s)(a:k<s.n)(b:(s.aI k).fu<s.ba.length):
  Calls prog 73 #[tp A.Q,iI k] w λe w'=>e=.returned (.tuple #[])/\bM w' A (s.j k)/\Fz A s w A (s.j k) w':=by
 by_cases hc:(s.aI k).fu<0;exact YD h a hc;exact Vf k (s.aI k).fu.toNat h a (by omega) (by omega)
def Na(A:Wa)(s:Wd)(k C:Nat)(w:A1)(h:bM w A s)(f:k<s.n)(v:f9 s C)(M:C<=100000000000):
  Calls prog 62 #[tp A.Q,iI k] w λe w'=>e=.returned (.tuple #[])/\bM w' A (s.b7 k)/\Fz A s w A (s.b7 k) w':=by
 have j:=h.b.e;have c0:=(h.e k f).b;have c1:=(h.e k f).h;have N:=h.B;have x:(0:Int)<=(k:Int):=by omega
 have y:(k:Int)<(s.n:Int):=by omega
 have d:=v.o k f;have l:=P8 (h.o k f).I d.k.h (by have:=d.k.w;omega) d.b (by have:=d.e;omega);let ⟨z,D⟩:=d.k.Z d.b d.e
 have m:=H8 d.k (s.aI k).cM;have g:bM w.drew A s/\Fz A s w A s w.drew:=h.h (au _ _).drew

 go_enter func62,ntmps62;go_upto_region 0 with fail
 refine Gen.start (S:=λw'=>w'.cell? (aA A.Q 12409)=some (.slice (some (aA A.G 0)) s.n s.n)/\cC w' (aA A.G (k*4)) (tp (A.c k))/\cC w' (aA A.G (k*4+1)) (iI (s.aI k).cM)) (by kernel_rfl) ⟨j,c0,c1⟩ (λa=>?_);apply tk 0 18 a

 apply tk 1 2 a

 apply tk 2 3 a

 apply tk 3 4 a

 apply tk 4 6 a

 apply tk 5 6 a

 apply tk 6 7 a

 apply tk 7 8 a

 apply tk 8 17 a

 apply tk 9 10 a

 apply tk 10 11 a

 apply tk 11 12 a

 apply tk 12 14 a

 apply tk 13 14 a

 apply tk 14 15 a

 apply tk 15 16 a

 apply tk 16 17 a

 refine on 17 λK p=>?_;go_simp;apply l.mono;rintro e w2⟨E,rfl,q,r,t⟩;let ⟨i,F⟩:=g.1.O f r t
 have d1:=(i.e k f).h;have u:(s.ab k ((s.aI k).k.ag (s.aI k).cM)).aI k = {s.aI k with k:=(s.aI k).k.ag (s.aI k).cM}:=cy;rw[u]at d1

 refine p.out _ _ ⟨i.b.e,((i.e k f).b),d1⟩ (λa=>?_)


 refine la 18 λK p=>?_;go_simp;apply (xM (-1) ((s.aI k).k.ae (s.aI k).cM) _ E w2 i q (by omega) m).mono;rintro e w3⟨rfl,H,J⟩;have L:Hid (bM w3 A (s.b7 k)/\Fz A s w A (s.b7 k) w3):=⟨H,(g.2.e F).e J⟩

 apply p.out _ _;go_wp2_with fail
 go_end0;exact⟨rfl,L.out⟩
def uL(A:Wa)(s:Wd)(k C:Nat)(w:A1)(h:bM w A s)(g:k<s.n)(c:f9 s C)(u:C<=10000000000):
  Calls prog 25 #[tp A.Q,iI k] w λe w'=>e=.returned .nilIface/\bM w' A (s.aU k)/\Fz A s w A (s.aU k) w':=by
 have f:=lG k h;have d:s.aq k=true:=by
  unfold Wd.aq;exact aR ⟨by omega,by omega⟩
 rw[d]at f;have i:=h.b.j;have l:=h.b.b 12411;let ⟨m,o⟩:=h.j (s.bK+1)
 have a:=Na A {s with bK:=s.bK+1} k (C+1) _ m g c.H (by omega);have p:IntKind.i64.wrap (s.bK+1)=s.bK+1:=jJ (by have:=c.J;omega) (by have:=c.O;omega)

 go_enter func25,ntmps25;go_wp2_with fail
 apply f.mono;rintro e w2⟨rfl,rfl⟩;go_wp2_with fail
 apply a.mono;rintro e w3⟨rfl,q,r⟩;have t:Hid (bM w3 A (s.aU k)/\Fz A s w2 A (s.aU k) w3):=⟨q,o.e r⟩;go_wp2_with fail
 go_ret;exact⟨rfl,t.out⟩
def qO(l:List M):Prop:=∀m∈l,0<=m.c
def qO.e:qO []:=λm a=>by simp at a
def qO.one(h:0<=m.c):qO [m]:=λx a=>by rw[aL.1 a];exact h
def qO.h{a b:List M}(h:qO a)(k:qO b):qO (a++b):=λm c=>(bq.1 c).elim (h m) (k m)
def adf(h:Vg o m):0<=m.c:=by
 have:=h.2.1;simp[fo,Num.m6]at this;omega
def qP(now:Int):∀(f:Nat) {s:Sv} {B:Nat},mS s B->qO (s.ag o now f).2
 |0,s,B,_=>qO.e
 |f+1,s,B,h=>by
  unfold Sv.ag;split;exact qO.e;let ⟨a,_⟩:=h.I o now
  split;exact qO.e;split;exact qO.e;rename_i m rest b;have d:=a.w o m (by rw[b];exact cX ..);let ⟨k1,_⟩:=jQ (s.e o now).1 m o
  split;exact qO.e;have g:=(a.ab m o d.2.2.2).ao (o:=o) (m:=m) (rest:=rest) (by rw[k1];exact b);intro x i;rcases bN.1 i with q|q
  rw[q];show 0<=m.c;exact adf d;exact qP now f g x q
def uk(s:Sv){a:Int}{hs:0<=a}(now:Int):∀k,qO (s.H a now k).2
 |0=>qO.e
 |k+1=>by
  apply (uk s (hs:=hs) now k).h;split;exact qO.one hs;exact qO.e
def xD(now:Int):∀(a:List Int) (s:Sv),∀c∈(s.Z now a).2,c∈a
 | [],s,c,h=>by simp[pW]at h
 |d::a,s,c,h=>by
  rw[kG]at h;split at h;rcases bN.1 h with q|q
  rw[q];exact cX ..;exact bI _ (xD now a s c q);exact bI _ (xD now a _ c h)
def yt(s:Sv){now:Int}:∀c∈(s.e o now).2,∃n:Nat,n<4/\c=(n:Int):=λc h=>by
 unfold Sv.e at h;split at h;simp at h;exact Fv (xD now _ s c h)
def IP{s:Sv}(h:mS s B)(b:okM m)(now:Int):qO (s.ai m now).2:=by
 unfold Sv.ai;split;exact qO.e;rename_i g;have hc:0<=m.c:=by omega
 split;exact qO.one hc;split;unfold Sv.ah;split;exact qO.one hc;split;exact qO.e;split;exact qO.e;have d:=h.ac (m:=m) (o:=m.o.toNat) ⟨by omega,b⟩;refine qO.h (qP now _ d) λx f=>?_;obtain⟨c,a,rfl⟩:=dY.1 f;obtain⟨n,_,rfl⟩:=yt _ c a;show (0:Int)<=(n:Int);omega;split;unfold Sv.an;split;exact uk s (hs:=by omega) now 8;split<;>exact qO.one hc;split;unfold Sv.av;split;exact qP now _ (h.O);exact qO.e;exact qO.e
def yA{s:Sv}(h:mS s B)(now:Int):∀k,qO (s.ae now k).2
 |0=>qO.e
 |k+1=>(yA h now k).h (qP (o:=k) now _ (mS.V h now k).1)
def bM.an{v:Sv}(h:bM w A s)(l:s.sv=some v)(m:Fs A.a w w'){n:Sv}(y:w.heap.size<=g)(p:¬fy w' A.a g):¬wfoot w' A (s.Z n) g:=λf=>by
 have r:=h.I;have z:=h.u.H;have u:=h.t v l;rcases f with f|f|⟨v,b,c⟩|⟨i,d,f⟩|⟨i,d,f⟩|⟨b,c⟩
 omega;omega;have e:w'.cell? (aA A.Q 12410)=w.cell? (aA A.Q 12410):=by rw[<-u.q];exact m.s _ (by omega)
 obtain⟨B,j,k⟩:=h.x;rw[e,j]at b;injection b with b
 subst b;have:=(bv k g c).2;omega;have:=(h.o i d).H.1;omega;have:=(h.o i d).H.2;omega;exact p c
def BK(h:bM w A s)(hB:f9 s C)(hC:C<=100000000000)(P:iC m=true):
  Calls prog 65 #[tp A.Q,Wire.M.ab m] w λe w'=>e=.returned (.tuple #[])/\bM w' A (s.H m)/\Fz A s w A (s.H m) w':=by
 have F:Below w.heap.size w (dW w m.k m.c m.n m.e m.s m.o m.v m.l m.d):=(au _ _).alloc (aa _) _;have R:MB (dW w m.k m.c m.n m.e m.s m.o m.v m.l m.d) w.heap.size m:=ie w;let ⟨E,x2⟩:=h.h F
 unfold dW at *;unfold Wire.M.ab;cases hs:s.sv with
 |none=>
  have T:Hid (s.H m=s):=by unfold Hid Wd.H;rw[hs]
  have r:=oC E;rw[hs]at r;have N:Hid (bM (dW w m.k m.c m.n m.e m.s m.o m.v m.l m.d) A s/\Fz A s w A s (dW w m.k m.c m.n m.e m.s m.o m.v m.l m.d)):=⟨E,x2⟩;unfold dW at N;go_enter func65,ntmps65;go_wp2_with fail
  apply r.mono;rintro e w2⟨rfl,rfl⟩;go_wp2_with fail
  go_end0;rw[T.out];exact⟨rfl,N.out⟩
 |some v=>
  have U:=(h.t v hs).b.O F (aa _);have W:w.heap.size<(w.alloc (.cells #[iI m.k,iI m.c,iI m.n,iI m.e,iI m.s,iI m.o,iI m.v,.bool m.l,.string m.d] 129)).heap.size:=by simp
  have T:Hid (s.H m=s.al (v.ai m s.cT)):=by unfold Hid Wd.H;rw[hs]
  go_enter func65,ntmps65;go_upto_region 1 with fail
  generalize w.alloc (.cells #[iI m.k,iI m.c,iI m.n,iI m.e,iI m.s,iI m.o,iI m.v,.bool m.l,.string m.d] 129)=w1 at *;have r:=oC E;rw[hs]at r;have ⟨b0,b1,b2,b3,b4,b5,b6,b7,b8⟩:=R








  have z:=E.b.o;have X:=E.b.p;rw[hs]at z;unfold LR at z;let ⟨Y,z2⟩:=E.h (au w1.heap.size w1).drew
  have u:=Y.t v hs;have G:=Qw u.b (hB.be hC hs) (mH P).1;unfold Wire.M.ab at G;have B:=(hB.V v hs).1;have Z:=Ll B m s.cT;have ad:=IP B (mH P).1 s.cT;have aS:=(B.af (mH P).1 s.cT).2;have I:=uU v m s.cT;go_wp2_with fail
  apply r.mono;rintro e w2⟨rfl,rfl⟩;go_upto_region 2 with fail
  refine Gen.start (S:=λw'=>cC w' (aA w.heap.size 0) (iI m.k)/\cC w' (aA w.heap.size 1) (iI m.c)/\cC w' (aA w.heap.size 2) (iI m.n)/\cC w' (aA w.heap.size 3) (iI m.e)/\cC w' (aA w.heap.size 4) (iI m.s)/\cC w' (aA w.heap.size 5) (iI m.o)/\cC w' (aA w.heap.size 6) (iI m.v)/\cC w' (aA w.heap.size 7) (.bool m.l)/\cC w' (aA w.heap.size 8) (.string m.d)/\cC w' (aA A.Q 12407) (tp A.a.S)/\cC w' (aA A.Q 12408) (iI s.cT)) (by kernel_rfl) ⟨b0,b1,b2,b3,b4,b5,b6,b7,b8,z,X⟩ (λf=>?_);apply tk 0 11 f

  apply tk 1 2 f

  apply tk 2 3 f

  apply tk 3 4 f

  apply tk 4 10 f

  apply tk 5 10 f

  apply tk 6 7 f

  apply tk 7 8 f

  apply tk 8 9 f

  apply tk 9 10 f

  refine on 10 λK hK=>?_;go_simp;apply G.mono;rintro e w3⟨v3,rfl,D⟩;let ⟨y1,y2⟩:=Y.af hs D.h D.e I.1 I.2
  have q:=MB.H (w:=w2.drew) ⟨b0,b1,b2,b3,b4,b5,b6,b7,b8⟩ D.e W U;have J:=y1.b.o;have L:=y1.b.p;have aI:=yr (v.ai m s.cT).1 y1 rfl D.b.b (λg hg=>Y.an hs D.e (bv D.b.b g hg).1 (D.b.e g hg)) (by omega) Z ad

  refine hK.out _ _ ⟨q.y,q.i,q.u,q.j,q.p,q.h,q.t,q.x,q.A,J,L⟩ (λf=>?_)

  refine la 11 λK hK=>?_;go_simp;apply aI.mono;rintro e w4⟨rfl,q1,q2⟩;have N:Hid (bM w4 A (s.H m)/\Fz A s w A (s.H m) w4):=by
   rw[T.out];exact⟨q1,((x2.e z2).e y2).e q2⟩

  apply hK.out _ _;go_wp2_with fail
  go_end0;exact⟨rfl,N.out⟩
def Vs(t:Int):∀(l:List M) (s:Wd),(s.V t l).n=s.n
 | [],s=>rfl
 |m::l,s=>by
  show ((s.ac t m).V t l).n=s.n;rw[Vs t l];unfold Wd.ac;split<;>rfl
def Ck{k:Int}(m:M)(h:bM w A s)(f:s.aq k=false):
  Calls prog 66 #[tp A.Q,iI k,Wire.M.ab m] w λe w'=>e=.returned (.tuple #[])/\bM w' A s/\Fz A s w A s w':=by
 let ⟨a,g⟩:=h.h (show Below w.heap.size w (dW w m.k m.c m.n m.e m.s m.o m.v m.l m.d) from(au _ _).alloc (aa _) _)
 have b:=lG k a;rw[f]at b;have i:Hid (bM (dW w m.k m.c m.n m.e m.s m.o m.v m.l m.d) A s/\Fz A s w A s (dW w m.k m.c m.n m.e m.s m.o m.v m.l m.d)):=⟨a,g⟩;unfold dW at *;unfold Wire.M.ab;go_enter func66,ntmps66;go_wp2_with fail
 apply b.mono;rintro e w2⟨rfl,rfl⟩;go_wp2_with fail
 exact bz (v:=.tuple #[]) (by simp[results,results66,go_sem]) rfl ⟨rfl,i.out⟩
def BJ(k:Nat)(h:bM w A s)(g:k<s.n)(P:f9 s C)(hC:C<=10000000000)(p:iC m=true):
  Calls prog 66 #[tp A.Q,iI k,Wire.M.ab m] w λe w'=>e=.returned (.tuple #[])/\bM w' A (s.ap k m)/\Fz A s w A (s.ap k m) w':=by
 have x:Below w.heap.size w (dW w m.k m.c m.n m.e m.s m.o m.v m.l m.d):=(au _ _).alloc (aa _) _;have y:MB (dW w m.k m.c m.n m.e m.s m.o m.v m.l m.d) w.heap.size m:=ie w;let ⟨u,Y⟩:=h.h x
 have Z:=(h.o k g).H;have z:w.heap.size<(dW w m.k m.c m.n m.e m.s m.o m.v m.l m.d).heap.size:=by simp
 have R:=lG k u;have D:s.aq k=true:=by
  unfold Wd.aq;exact aR ⟨by omega,by omega⟩
 rw[D]at R;unfold dW at *;unfold Wire.M.ab;have ad:(0:Int)<=(k:Int):=by omega
 have aS:(k:Int)<(s.n:Int):=by omega
 have n4:=h.B;have i:=P.o k g;have a0:=(i.k.O m ⟨(mH p).2,(mH p).1.2.2⟩).2;go_enter func66,ntmps66;go_upto_region 1 with fail
 generalize w.alloc (.cells #[iI m.k,iI m.c,iI m.n,iI m.e,iI m.s,iI m.o,iI m.v,.bool m.l,.string m.d] 129)=w1 at *;let ⟨T,z2⟩:=u.h (au w1.heap.size w1).drew
 have q:=U2 m (T.o k g) (i.k.ok (by omega)) (mH p).2;unfold Wire.M.ab at q;have ⟨b0,U,W,b3,b4,b5,b6,b7,b8⟩:=y









 go_wp2_with fail
 apply R.mono;rintro e w2⟨rfl,rfl⟩

 go_upto_region 2 with fail
 refine Gen.start (S:=λw'=>cC w' (aA w.heap.size 0) (iI m.k)/\cC w' (aA w.heap.size 1) (iI m.c)/\cC w' (aA w.heap.size 2) (iI m.n)/\cC w' (aA w.heap.size 3) (iI m.e)/\cC w' (aA w.heap.size 4) (iI m.s)/\cC w' (aA w.heap.size 5) (iI m.o)/\cC w' (aA w.heap.size 6) (iI m.v)/\cC w' (aA w.heap.size 7) (.bool m.l)/\cC w' (aA w.heap.size 8) (.string m.d)/\w'.cell? (aA A.Q 12409)=some (.slice (some (aA A.G 0)) s.n s.n)/\cC w' (aA A.G (k*4)) (tp (A.c k))) (by kernel_rfl) ⟨b0,U,W,b3,b4,b5,b6,b7,b8,u.b.e,((u.e k g).b)⟩ (λa=>?_);apply tk 0 11 a

 apply tk 1 2 a

 apply tk 2 3 a

 apply tk 3 4 a

 apply tk 4 6 a

 apply tk 5 6 a

 apply tk 6 7 a

 apply tk 7 8 a

 apply tk 8 10 a

 apply tk 9 10 a

 refine on 10 λK E=>?_;go_simp;apply q.mono;rintro e w3⟨v3,rfl,F,I,r⟩;let ⟨J,y2⟩:=T.O g I r
 have f:∀j,w3.cell? (aA w.heap.size j)=w2.cell? (aA w.heap.size j):=λj=>aj (r.b _ z (by simp;omega));have L:=xM (-1) ((s.aI k).k.V m).2 _ v3 w3 J F (by omega) (IR (s.aI k).k m);have N:f9 ((s.ab k ((s.aI k).k.V m).1).V (-1) ((s.aI k).k.V m).2) (C+1):=f9.ao _ ((P.e (du C)).av (i.k.O m ⟨(mH p).2,(mH p).1.2.2⟩).1)

 refine E.out _ _ ⟨(f _).trans b0,(f _).trans U,(f _).trans W,(f _).trans b3,(f _).trans b4,(f _).trans b5,(f _).trans b6,(f _).trans b7,(f _).trans b8,J.b.e,((J.e k g).b)⟩ (λa=>?_)


 refine la 11 λK E=>?_;go_simp;apply L.mono;rintro e w4⟨rfl,q1,q2⟩;have t:k<((s.ab k ((s.aI k).k.V m).1).V (-1) ((s.aI k).k.V m).2).n:=by rw[Vs];exact g

 apply E.out _ _


 go_wp2_with fail
 apply (IX q1 t (N.o k t).j).mono;rintro e X⟨rfl,r1,r2⟩;have HF:Hid (bM X A (s.ap k m)/\Fz A s w A (s.ap k m) X):=⟨r1,(((Y.e z2).e y2).e q2).e r2⟩;go_wp2_with fail
 go_end0;exact⟨rfl,HF.out⟩
end Wld
end Go.Proofs.YtbebfliimjjohabGreatDoor
